import PyProof.Rows.All
import HandS.ForMost
import HandS.Wide
import HandS.Walk
import HandS.WordsExc
import HandS.Codes
import HandS.ExcInit
import KE.KExcInit
import PyProof.ExcBaseAll.OverflowError
import HandS.ExcField
import HandS.ExcIs
import HandS.IsInst
import KE.KExcIs
import HandS.ExcValue
import OpenK.KMeth
import HandS.Star
import PyProof.ReprRoads
import PyProof.CallFns
import HandS.TupLe
import HandS.Zip
import HandS.Deep
import HandS.DictComp
import HandS.TupAny
import KE.GoesMore
import KE.GoesEnum
import PyProof.EnumMake
import PyProof.Draws
import HandS.ExcOwn
import HandS.Lambda
import HandS.Conv
import HandS.Property
import PySem.Challenge.RW_deedpiles_k93_whole_sheets
import HandS.More
import HandS.Style
import KE.KRevSl
import HandS.TupMul
import HandS.Ends
import HandS.EndTab
import HandS.Flow
import HandS.Strs
import PyProof.AutoSeq1
import HandS.Text
import PyProof.ReprBulk
import HandS.Small
import KE.DataMinMax
import KE.KTryMore
import KE.KDflt
import HandS.Comp
set_option Elab.async false
set_option linter.all false
set_option maxRecDepth 100000
set_option maxHeartbeats 4000000
namespace XB
open PySem PySem.Spec PyProof.Rows L2
/-! ### defs of the text, called by their names -/
structure Cl (P : Program) (w : World) (K : PySem.W.Frag) (mg : Str → Option Value) (base : Heap) (CX : CXT) (k : Nat) (x : Str) (sp : Sp) : Prop where
  ex : ∃ (f : Addr) (fd : FuncData) (ps : List Str), FnOk P w K mg base CX k f fd ps sp ∧ mg x = some (.ref f) ∧ PySem.W.keepIn K (.ref f) = true ∧ Binds K fd ps []
/-- a def that stands in the module under its own name -/
structure Dn (K : PySem.W.Frag) (mg : Str → Option Value) (x : Str) (st : Stmt) : Prop where
  ex : ∃ (f : Addr) (fd : FuncData), Fun K x x st f fd ∧ mg x = some (.ref f)
section
variable {P : Program} {w : World} {K : PySem.W.Frag} {mg : Str → Option Value} {base : Heap}
theorem cl0 {x : Str} {st : Stmt} {N ps : List Str} {k : Nat} {sp : Sp} (D : Dn K mg x st)
    (hb : ∀ (kV doc pm : Value) (an : Option Addr) (cdv ct : Value) (us : List Value), us.length = ps.length → bindArgs (PySem.W.fnOf x x (defArgs st) (defBody st) (defScope st) .none kV doc pm an cdv ct) ⟨us, []⟩ = pure (ps.zip us))
    (S : FnScope N ps (defScope st)) (len : ∀ vs H Q E, sp vs H Q E → vs.length = ps.length)
    (hbody : ∀ (f : Addr) (cdv : Value) (A : Around) (outer : List Env) (s : Shared) (H : Hp) (vs : List V) (Q : VK) (E : XK), Room k (A.deeper (envOfC x (defScope st) s.heap.objs.size f cdv)) → sp vs H Q E →
      ∃ t, PSs (cxOf CX0 P w K mg base N x (defScope st) f cdv A outer s H E).nox (defBody st) t ∧ t { nx := fun _ H' => Q .non H', rt := Q } (start N vs) H) : Cl P w K mg base CX0 (k + 1) x sp := by
  obtain ⟨f, fd, F, hm⟩ := D.ex
  exact ⟨f, fd, ps, F.ok S len (fun cdv A outer s H vs Q E hr h => hbody f cdv A outer s H vs Q E hr h), hm, F.kp, F.binds hb⟩
end
section
variable {X : Cx} {k j : Nat} {x : Str} {sp : Sp} {p pos : Pos} {e : Expr} {es : List Expr} {t : TA}
theorem pe_k (c : Cl X.prog X.w X.K X.mg X.base CX0 k x sp) (hr : Room j X.A) (hk : k ≤ j) (hg : Gl X x) (ha : PA X (e :: es) t)
    (hdb : (x == ("__debug__" : Str)) = false := by decide) (he : starEach (e :: es) X.env = (false, eval e X.env) :: starEach es X.env := by rfl) (hpl : (backTo pos (starEach es X.env)).any (·.1) = false := by rfl) :
    PE X (.Call (.Name x p) (e :: es) [] pos) (tCall sp [] E0 t) := by
  obtain ⟨f, fd, ps, F, hm, kp, b⟩ := c.ex
  exact pe_call F (hr.mono hk) hg hm kp b .nil pass0 ha hdb he hpl
end
/-! ### heaps -/
theorem same_upd {H : Hp} {p : Addr} {o : HO} (h : H p = none) : Same H (upd H p o) := fun b x e => by
  rw [upd_ne (ne_of_none e h)]
  exact e
theorem Same.put {H H1 : Hp} {D : Addr} {o : HO} (s : Same H H1) (hD : H D = none) : Same H (upd H1 D o) := fun b x e => by
  rw [upd_ne (ne_of_none e hD)]
  exact s b x e
theorem Same.new {H H1 : Hp} {D : Addr} {o : HO} (s : Same H H1) (hD : H1 D = none) : Same H (upd H1 D o) := fun b x e => by
  rw [upd_ne (ne_of_none (s b x e) hD)]
  exact s b x e
theorem same_put {H H1 : Hp} {D : Addr} {o : HO} (s : Same H H1) (hD : H D = none) : Same H (upd H1 D o) := Same.put s hD
theorem same_new {H H1 : Hp} {D : Addr} {o : HO} (s : Same H H1) (hD : H1 D = none) : Same H (upd H1 D o) := Same.new s hD
theorem yes_ {σ : L2.St} {H : Hp} {A B : Hp → Prop} (h : A H) : tYes σ H (fun b H3 => if b = true then A H3 else B H3) := by
  show if true = true then A H else B H
  rw [if_pos rfl]
  exact h
/-- the int that stands at a place of a row of ints -/
theorem int_at {ns : List Int} {i : Nat} {x : V} (h : (ns.map V.int)[i]? = some x) : ∃ z, ns[i]? = some z ∧ x = V.int z := by
  rw [List.getElem?_map] at h
  cases e : ns[i]? with
  | none =>
    rw [e] at h
    cases h
  | some z =>
    rw [e] at h
    exact ⟨z, rfl, (Option.some.inj h).symm⟩
theorem str_at {ns : List Str} {i : Nat} {x : V} (h : (ns.map V.str)[i]? = some x) : ∃ z, ns[i]? = some z ∧ x = V.str z := by
  rw [List.getElem?_map] at h
  obtain ⟨z, e, rfl⟩ := Option.map_eq_some_iff.mp h
  exact ⟨z, e, rfl⟩
theorem map_set {xs : List Int} (k : Nat) (z : Int) : (xs.map V.int).set k (.int z) = (xs.set k z).map V.int := by
  rw [List.map_set]
theorem ixN_of {n : Nat} {z : Int} {k : Nat} (e : z = (k : Int)) (h : k < n) : ixN n z = some k := by
  unfold ixN
  rw [if_pos (by omega), if_pos (by omega), e]
  rfl
theorem atI_of {xs : List Int} {z : Int} {k : Nat} {v : Int} (e : z = (k : Int)) (h : xs[k]? = some v) : atI (xs.map V.int) z = some (V.int v) := by
  refine at_of e ?_
  rw [List.getElem?_map, h]
  rfl
end XB
set_option Elab.async false
set_option linter.all false
set_option maxRecDepth 100000
set_option maxHeartbeats 4000000
/-! own exceptions of another built-in class than ValueError -/
namespace PySem
namespace XOK
open Builtin Builtin.ObjectAttr HandSPX PySem.Spec PyProof.Rows
section
variable {prog : Program} {w : World} {A : Around} {E : Value → Shared → Prop} {R : Result → Shared → Prop} {hp : Heap} {g : Array GenState} {d : Drawn} {t : Nat} {os : OsState}
theorem osaG {K : W.Frag} {nm : Str} {tk : Tok} {y : Value} {a C : Addr} {fv : Array Value} {cd : ClassData} (KI : K.In hp) (ea : hp.get? a = some { cls := .ref C, data := .fields fv }) (ec : W.clsIn K C = some cd)
    (pa : ∀ self, refuseLoop self "__setattr__" cd.mro = pure ()) (ob : cd.mro.contains (.type "object") = true) (ne : cd.mro.isEmpty = false) (hd : cd.hasDict = true) (nf : W.findIn K (.ref C) nm = some none)
    (hq : ∀ h' tk' dx, (∀ b o, b ≠ a → hp.get? b = some o → h'.get? b = some o) → hp.objs.size ≤ dx → dx ≠ a → h'.get? a = some { cls := .ref C, dict := some dx, data := .fields fv } → h'.Ns1 dx (fun z => if z = nm then some y else none) → R (.ok (.ret .none)) ⟨h', g, d, tk', os⟩) :
    codeAny (model prog w) A (.call (.builtin "object.__setattr__") ⟨[.ref a, .str nm tk, y], []⟩) R ⟨hp, g, d, t, os⟩ := by
  have J : W.InstAt hp a { cls := .ref C, data := .fields fv } C none := ⟨ea, rfl, rfl, trivial⟩
  have ZF := F.store_object
  have nax : a ≠ hp.objs.size := Nat.ne_of_lt (Heap.lt_size ea)
  have isO : W.Looks (model prog w) hp (isInstance (.ref a) (.type "object")) true := J.type.andThen (W.looks_mroIn KI (by unfold W.mroIn; rw [ec, Option.bind_some, ne, if_neg (by decide), ob]))
  refine codeAny_call_builtin ZF.slot.plain ZF.entry ?_
  refine @W.check_slot (model prog w) _ _ ⟨hp, g, d, t, os⟩ "object.__setattr__" "object" "__setattr__" (.ref a) [.str nm tk, y] [] _ ZF.kind ZF.split isO (ZF.args (.ref a) (.str nm tk) y) ?_
  have lm : W.Looks (model prog w) hp (mroOf (.ref C)) cd.mro := (W.looks_clsIn KI ec).andThen .now
  have lt : W.Looks (model prog w) hp (storeTaker? none) none := .now
  have lc : W.Looks (model prog w) hp (classData C) cd := W.looks_clsIn KI ec
  rw [W.osa_eq, refuse_eq]
  refine wpAny_bind (wpAny_bind (J.type.at (wpAny_bind (lm.at ?_))))
  rw [pa]
  refine wpAny_pure (wpAny_bind (J.type.at (wpAny_bind ((W.looks_findIn KI nf).at (wpAny_bind (lt.at ?_))))))
  show wpAny _ _ (storeInOwnDict (.ref a) (.ref C) (.str nm tk) nm y false) _ _ _
  obtain ⟨c1, c2, c3, c4, c5, c6, c7, c8, c9, c10, c11⟩ := cd
  dsimp only at hd
  subst hd
  unfold storeInOwnDict ownDictForStores
  repeat (first | with_reducible refine store_in_new ?_ ?_ | with_reducible refine wpAny_loadPart_at ea ?_ | with_reducible refine lc.at ?_ | wp_step)
  · refine ⟨_, #[], _, (Heap.get?_update_ne _ _ _ _ nax.symm).trans (Heap.get?_push_at rfl rfl), rfl, fun e he => ?_, fun _ => rfl⟩
    exact absurd he (by simp)
  · intro h' tk' nd sb
    have e2 : (hp.push { cls := .type "dict", data := .dict #[] }).get? a = some { cls := .ref C, data := .fields fv } := Heap.get?_push_of_some _ ea
    refine hq h' tk' hp.objs.size (fun b o nb eb => ?_) (Nat.le_refl _) nax.symm ((sb.2 a nax).trans (Heap.get?_update_self _ e2 rfl)) nd
    exact (sb.2 b (Nat.ne_of_lt (Heap.lt_size eb))).trans ((Heap.get?_update_ne _ _ _ _ nb).trans (Heap.get?_push_of_some _ eb))
end
end XOK
end PySem
namespace XB
open PySem PySem.Spec PyProof.Rows L2
/-- what the written part says of an own class of some built-in exception -/
structure OexG (K : PySem.W.Frag) (C : Addr) : Prop where
  cls : ∃ nm q N bs bm sn sub ab col dd k0 k1 k2 k3 k5, ∃ (B newId initId : String) (bmB : List Value), K.lookup C = some (excClassObj nm q C N bs bm true sn sub ab col dd k0 k1 k2 k3 k5 newId) ∧ ExcBaseFacts B newId initId bmB ∧ (∀ Y : String, bm.contains (.type Y) = bmB.contains (.type Y)) ∧
    (∀ self, PySem.refuseLoop self "__setattr__" (.ref C :: bm) = pure ()) ∧ (Value.ref C :: bm).contains (.type "object") = true
  sa : PySem.W.findIn K (.ref C) "__setattr__" = some (some (.builtin "object.__setattr__"))
  exC : PySem.W.subIn K (.ref C) (.type "BaseException") = some true
  tyC : PySem.W.typeIn K (.ref C) = some (.type "type")
  kC : PySem.W.keepIn K (.ref C) = true
section
variable {X : Cx} {pins : List (Addr × Obj)} {σ : L2.St} {H : Hp} {s : Shared} {a C : Addr} {f : Str} {y : V} {u : Value} {Q : Unit → Shared → Prop} {E : Value → Shared → Prop} {A : Around}
theorem ostG (T : OexG X.K C) (I : Inv X pins σ H s) (e : H a = some (exo a C none)) (nf : PySem.W.findIn X.K (.ref C) f = some none) (ry : RelV y u)
    (h : ∀ dx s', H dx = none → dx ≠ a → Inv X pins σ (upd (upd H dx (exd dx [(f, y)])) a (exo a C (some dx))) s' → Q () s') : wpAny (model X.prog X.w) A (setAttr (.ref a) f u) Q E s := by
  obtain ⟨nm, q, N, bs, bm, sn, sub, ab, col, dd, k0, k1, k2, k3, k5, B, ni, ii, bmB, hC, hF, hT, hp, hob⟩ := T.cls
  have ec : PySem.W.clsIn X.K C = some { name := nm, bases := bs, mro := .ref C :: bm, ns := N, qualname := q, hasDict := true, slotNames := sn, subclasses := sub, abstract := ab, collection := col, hasDel := false } := by
    unfold PySem.W.clsIn
    rw [hC] <;> rfl
  obtain ⟨t1, ho⟩ := exo_at I.hok e
  obtain ⟨hh, g, dr, tk, os⟩ := s
  refine PySem.W.set_plain I.kIn (od := none) (ox := { cls := .ref C, dict := none, data := .fields #[.ref t1, .none, .none, .none, .bool false, .none] }) ⟨ho, rfl, rfl, trivial⟩ T.sa ?_
  refine PySem.XOK.osaG I.kIn ho ec hp hob rfl rfl nf fun h' tk' dx kp le ne ex ns => ?_
  have fr : H dx = none := I.hok.fresh le
  have nd : ∀ {b : Addr} {o : Obj}, hh.get? b = some o → b ≠ dx := fun {b o} z e0 => by
    have w := Heap.lt_size z
    rw [e0] at w
    exact absurd w (Nat.not_lt.mpr le)
  have na : ∀ {b : Addr}, H b = none → b ≠ a := fun {b} n z => by
    rw [z, e] at n
    cases n
  have U : Un X.fs [] H (upd (upd H dx (exd dx [(f, y)])) a (exo a C (some dx))) hh h' := by
    refine ⟨fun b o z n _ _ => kp b o (na n) z, fun b o z n _ _ => ⟨o.slots, kp b o (na n) z⟩, fun b o z n _ => ?_, fun b o z _ => ?_, fun b xs z => ?_, fun b o v z => ?_, fun b ps z => ⟨#[], ?_⟩⟩
    · rw [upd_ne (na n), upd_ne (nd z), n]
    · by_cases hb : b = a
      · rw [hb]
        exact ⟨_, ex⟩
      · exact ⟨o, kp b o hb z⟩
    · rw [upd_ne (at_ne e z exo_tup), upd_ne (ne_of_none z fr), z]
    · rw [upd_ne (at_ne e z exo_frz), upd_ne (ne_of_none z fr), z]
    · rw [upd_ne (at_ne e z exo_tbl), upd_ne (ne_of_none z fr), z, Array.append_empty]
  refine h dx _ fr ne (I.un (t' := tk') U fun b o z => ?_)
  by_cases hb : b = a
  · subst hb
    rw [upd_same] at z
    cases z
    exact exo_ok ex
  · rw [upd_ne hb] at z
    by_cases hd : b = dx
    · subst hd
      rw [upd_same] at z
      cases z
      exact exd_ok ns (relO_put (fs := []) ry fun _ => True.intro)
    · rw [upd_ne hd] at z
      refine (I.hok b o z).stay (fun c v hc w => kp c v ?_ w) (fun c hc => ?_) (fun c xs hc => ?_)
      · rcases hc with hc | hc
        · rwa [hc]
        · exact at_ne e hc exo_own
      · rw [upd_ne (at_ne e hc exo_own), upd_ne (ne_of_none hc fr), hc]
      · rw [upd_ne (at_ne e hc exo_tup), upd_ne (ne_of_none hc fr), hc]
end
/-- self.f = e, the first field -/
def tOsG (K : PySem.W.Frag) (f : Str) (to te : TE) : TS := fun D σ H => te σ H fun y H1 => to σ H1 fun x H2 => ∃ a C : Addr, x = .ref a ∧ OexG K C ∧ PySem.W.findIn K (.ref C) f = some none ∧ H2 a = some (exo a C none) ∧ ∀ dx, H2 dx = none → dx ≠ a → D.nx σ (upd (upd H2 dx (exd dx [(f, y)])) a (exo a C (some dx)))
theorem ps_osG {X : Cx} {o e : Expr} {to te : TE} {f : Str} {p' pos : Pos} (ho : PE X o to) (he : PE X e te) (hs : swapsWith e (some (.Attribute o f p')) pos.line X.env = pure false := by rfl) : PS X (.Assign [.Attribute o f p'] e pos) (tOsG X.K f to te) := by
  constructor
  intro pins s σ H D I h
  refine plainObj_wpAny_Assign_Attribute (thn (he.run pins s σ H _ I h) ?_) hs
  rintro v s1 ⟨y, H1, I1, r1, q1⟩
  refine thn (ho.run pins s1 σ H1 _ I1 q1) ?_
  rintro u s2 ⟨x, H2, I2, r2, a, C, rfl, T, nf, ea, q⟩
  obtain rfl : u = Value.ref a := r2
  exact ostG T I2 ea nf r1 fun dx s' n ne J => ⟨σ, _, J, q dx n ne⟩
end XB
set_option Elab.async false
set_option linter.all false
set_option maxRecDepth 100000
set_option maxHeartbeats 4000000
/-! own exceptions as values: made by a call, their fields read, isinstance -/
namespace XB
open PySem PySem.Spec PyProof.Rows L2
/-- at a: an exception that was raised and kept -/
def exg (a : Addr) (cls : Value) (d : Option Addr) : HO := .ext fun h => ∃ (o : Obj) (vs : Array Value), h.get? a = some o ∧ o.cls = cls ∧ o.dict = d ∧ o.data = .fields vs
theorem exg_ok {P : Program} {w : World} {H : Hp} {h : Heap} {a : Addr} {cls : Value} {d : Option Addr} {o : Obj} {vs : Array Value} (e : h.get? a = some o) (h1 : o.cls = cls) (h2 : o.dict = d) (h3 : o.data = .fields vs) : ObjOk P w H h a (exg a cls d) :=
  ⟨⟨o, vs, e, h1, h2, h3⟩, ⟨o, e⟩, fun g1 g2 z k => by
    obtain ⟨o', vs', q, r⟩ := z
    exact ⟨o', vs', k _ q, r⟩⟩
theorem exg_at {P : Program} {w : World} {H : Hp} {h : Heap} {a : Addr} {cls : Value} {d : Option Addr} (hok : HOk P w H h) (e : H a = some (exg a cls d)) : ∃ (o : Obj) (vs : Array Value), h.get? a = some o ∧ o.cls = cls ∧ o.dict = d ∧ o.data = .fields vs := by
  have x : ObjOk P w H h a (.ext fun h => ∃ (o : Obj) (vs : Array Value), h.get? a = some o ∧ o.cls = cls ∧ o.dict = d ∧ o.data = .fields vs) := hok a _ e
  exact x.1
/-- an exception that stands, with its fields -/
def XOb (H : Hp) (a C : Addr) (fs : List (Str × V)) : Prop := ∃ dx, (H a = some (exo a C (some dx)) ∨ H a = some (exg a (.ref C) (some dx))) ∧ (H dx = some (exd dx fs) ∨ H dx = some (.xd fs))
theorem XOb.same {H H' : Hp} {a C : Addr} {fs : List (Str × V)} (h : XOb H a C fs) (s : Same H H') : XOb H' a C fs := by
  obtain ⟨dx, h1, h2⟩ := h
  exact ⟨dx, h1.imp (s _ _) (s _ _), h2.imp (s _ _) (s _ _)⟩
theorem xob_inst {X : Cx} {pins : List (Addr × Obj)} {σ : L2.St} {H : Hp} {s : Shared} {a C : Addr} {fs : List (Str × V)} (I : Inv X pins σ H s) (h : XOb H a C fs) :
    ∃ (ox od : Obj) (mA : Str → Option Value), PySem.W.InstAt s.heap a ox C (some od) ∧ (∀ n, PySem.W.lookIn n od = some (mA n)) ∧ ∀ n, RelO (fs.lookup n) (mA n) := by
  obtain ⟨dx, e, ed⟩ := h
  have hd : ∃ mA, s.heap.Ns1 dx mA ∧ ∀ f, RelO (fs.lookup f) (mA f) := by
    rcases ed with ed | ed
    · exact exd_at I.hok ed
    · exact I.hok dx _ ed
  obtain ⟨mA, hns, hr⟩ := hd
  obtain ⟨od, hod, hl⟩ := lookIn_ns hns
  rcases e with e | e
  · obtain ⟨t1, ho⟩ := exo_at I.hok e
    exact ⟨_, od, mA, ⟨ho, rfl, rfl, hod⟩, hl, hr⟩
  · obtain ⟨o, vs, h1, h2, h3, h4⟩ := exg_at I.hok e
    exact ⟨o, od, mA, ⟨h1, h2, by unfold PySem.W.notCls; rw [h4] <;> rfl, by rw [h3]; exact hod⟩, hl, hr⟩
section
variable {X : Cx}
/-- e.n of such an exception -/
@[irreducible] def rXo (K : PySem.W.Frag) (n : Str) (x : V) (H1 : Hp) (Q : VK) : Prop := ∃ (a C : Addr) (fs : List (Str × V)) (v : V), x = .ref a ∧ ExcC K C ∧ PySem.W.findIn K (.ref C) n = some none ∧ XOb H1 a C fs ∧ fs.lookup n = some v ∧ Q v H1
def tXo (K : PySem.W.Frag) (n : Str) (te : TE) : TE := fun σ H Q => te σ H fun x H1 => rXo K n x H1 Q
theorem pe_xo {K : PySem.W.Frag} (hk : X.K = K) {e : Expr} {te : TE} {pos : Pos} {n : Str} (he : PE X e te) (hb : attributeBase e n X.env (eval e X.env) = eval e X.env := by rfl) : PE X (.Attribute e n pos) (tXo K n te) := by
  subst hk
  constructor
  intro pins s σ H Q I h
  refine attr_of hb (thn (he.run pins s σ H _ I h) ?_)
  rintro u s1 ⟨x, H1, I1, rx, hh⟩
  unfold rXo at hh
  obtain ⟨a, C, fs, v, rfl, T, hno, hO, hv, q⟩ := hh
  obtain rfl : u = Value.ref a := rx
  obtain ⟨ox, od, mA, J, hl, hr⟩ := xob_inst I1 hO
  obtain ⟨z, hz, rz⟩ := RelO.some_of (v := v) (o := mA n) (by rw [← hv]; exact hr n)
  refine HandSPX.exc_get I1.kIn J T.hg T.hk T.hs (PySem.W.findObj_own T.hd hno rfl ?_) (handed_of rz) ⟨v, H1, I1.tok _, rz, q⟩
  rw [hl, hz]
@[irreducible] def rIsX (K : PySem.W.Frag) : List V → Hp → VK → Prop := fun xs H Q => ∃ (a C : Addr) (fs : List (Str × V)) (c : V) (u : Value) (b : Bool), xs = [.ref a, c] ∧ ClsV c u ∧ ExcC K C ∧ XOb H a C fs ∧ PySem.W.kitOne K (.ref C) u = some b ∧ Q (.bl b) H
theorem call_isX {K : PySem.W.Frag} (hk : X.K = K) : CallR X (.builtin "isinstance") (rIsX K) := by
  subst hk
  intro pins s σ H xs us Q I r h
  unfold rIsX at h
  obtain ⟨a, C, fs, c, u, b, rfl, k, T, hO, e, q⟩ := h
  obtain ⟨u1, u2, rfl, r1, r2⟩ := vals2 r
  have e2 := k.eq r2
  subst e2
  obtain rfl : u1 = Value.ref a := r1
  obtain ⟨ox, od, mA, J, _, _⟩ := xob_inst I hO
  have hcl : (PySem.W.clsIn X.K C).isSome = true := by
    have hd := T.hd
    unfold PySem.W.hasDictIn at hd
    cases hc : PySem.W.clsIn X.K C with
    | some _ => rfl
    | none =>
      rw [hc] at hd
      cases hd
  exact PySem.W.kia_one (PySem.W.kitx_exc hcl T.hg T.hk T.hs T.ha T.hn T.ht T.hm) I.kIn J e (fun z => nomatch z) fun tk => ⟨.bl b, H, I.tok tk, rfl, q⟩
/-- C(e, ..) as a value -/
def tMkV (C : Addr) (sp : Sp) (ta : TA) : TE := fun σ H Q => ta σ H fun vs H1 => vs.length ≤ 1000 ∧ ∀ a, H1 a = none → sp (.ref a :: vs) (upd H1 a (exo a C none)) (fun v H2 => v = .non ∧ Q (.ref a) H2) fun _ _ _ => False
theorem pe_oex {CX : CXT} {x : Str} {C fI : Addr} {k : Nat} {fd : FuncData} {ps : List Str} {sp : Sp} {e : Expr} {es : List Expr} {p pos : Pos} {ta : TA} (T : OexG X.K C) (iC : PySem.W.findIn X.K (.ref C) "__init__" = some (some (.ref fI)))
    (tI : PySem.W.typeIn X.K (.ref fI) = some (.type "function")) (F1 : FnOk X.prog X.w X.K X.mg X.base CX k fI fd ps sp) (hr : Room (k + 1) X.A) (hb : Binds X.K fd ps []) (hx : Passes CX X fun _ _ _ => False) (hg : Gl X x) (hm : X.mg x = some (.ref C)) (ha : PA X (e :: es) ta)
    (hdb : (x == ("__debug__" : Str)) = false := by decide) (he : starEach (e :: es) X.env = (false, eval e X.env) :: starEach es X.env := by rfl) (hpl : (backTo pos (starEach es X.env)).any (·.1) = false := by rfl) :
    PE X (.Call (.Name x p) (e :: es) [] pos) (tMkV C sp ta) := by
  constructor
  intro pins s σ H Q I h
  obtain ⟨nm, q, N, bs, bm, sn, sub, ab, col, dd, k0, k1, k2, k3, k5, B, ni, ii, bmB, hC, hF, hT, _, _⟩ := T.cls
  refine wpAny_Call_Name_kw (ld_glob I hg hm ?_ hdb)
  refine PySem.W.callWith_K (h₀ := X.base) I.ok.mod.kin T.kC (thn (ha.run pos pins s σ H _ I h) ?_) he hpl
  rintro us ⟨hp, g, dr, tk, os⟩ ⟨vs, H1, I1, r1, hz, q1⟩
  refine ⟨I1.kIn, ?_⟩
  show wpAny _ _ (call (.ref C) us) _ _ _
  have up1 : hp.objs.size ≤ hp.objs.size + 1 := by omega
  have hq := q1 (hp.objs.size + 1) (I1.hok.fresh up1)
  obtain ⟨h2, eh2⟩ : ∃ h2, h2 = (hp.push (PySem.W.kdv_tup us)).push (PySem.HandSPX.excO C hp.objs.size) := ⟨_, rfl⟩
  have kk : ∀ b o, hp.get? b = some o → h2.get? b = some o := fun b o z => by
    rw [eh2]
    exact Heap.get?_push_of_some _ (Heap.get?_push_of_some _ z)
  have hget : h2.get? (hp.objs.size + 1) = some (PySem.HandSPX.excO C hp.objs.size) := by
    rw [eh2]
    heap_get
  have I2 : Inv X pins σ (upd H1 (hp.objs.size + 1) (exo (hp.objs.size + 1) C none)) ⟨h2, g, dr, tk, os⟩ := I1.laid (t' := tk) (a := hp.objs.size + 1) (h' := h2) kk up1 (exo_ok hget)
  have r2 : Vals (V.ref (hp.objs.size + 1) :: vs) (Value.ref (hp.objs.size + 1) :: us) := .cons rfl r1
  have hl : (Value.ref (hp.objs.size + 1) :: us).length = ps.length := r2.length.symm.trans (F1.len _ _ _ _ hq)
  have hus : us.length ≤ sizeLine := by
    have z := Paired.length r1
    rw [sizeLine_eq]
    omega
  have hb2 := hb ⟨h2, g, dr, tk, os⟩ (Value.ref (hp.objs.size + 1) :: us) I2.kIn (by rw [List.append_nil]; exact hl)
  rw [List.append_nil] at hb2
  refine wpAny_call (PySem.HandSPX.call_own hF hT (I1.kIn _ _ hC) (PySem.W.looks_findIn I1.kIn iC) (fun self => PySem.W.bind_fn I1.kIn self tI) hus ?_)
  rw [← eh2]
  refine codeAny_mono (F1.run _ X.stack _ _ ⟨Value.ref (hp.objs.size + 1) :: us, []⟩ (Value.ref (hp.objs.size + 1) :: us) _ _ (fun _ _ _ => False) (hr.make C us []) (I2.env0.make C us []) hb2 r2 hq) ?_
  rintro (er | fl) s' hq'
  · exact hx pins σ _ _ er s' I2 hq'
  · cases fl with
    | ret u =>
      obtain ⟨v, H2, os2, bare2, un2, hok2, rv, ev, q2⟩ := hq'
      subst ev
      exact ⟨rv, .ref (hp.objs.size + 1), H2, I2.call' (ch := []) os2 un2 hok2 bare2 (fun b z => absurd z (by simp)), rfl, q2⟩
    | next => exact False.elim hq'
    | brk => exact False.elim hq'
    | cont => exact False.elim hq'
end
end XB
namespace XB
open PySem PySem.Spec PyProof.Rows L2
/-! ### own exception classes under their names -/
/-- what the written part says of an own exception class of ValueError, whose __init__ is st -/
structure Ek (K : PySem.W.Frag) (mg : Str → Option Value) (x q : Str) (st : Stmt) : Prop where
  ex : ∃ (C fI : Addr) (fd : FuncData), mg x = some (.ref C) ∧ OexG K C ∧ ExcC K C ∧ PySem.W.findIn K (.ref C) "__init__" = some (some (.ref fI)) ∧ PySem.W.typeIn K (.ref fI) = some (.type "function") ∧ Fun K "__init__" q st fI fd
/-- of a class: a name that it does not know -/
def NoF (K : PySem.W.Frag) (mg : Str → Option Value) (x f : Str) : Prop := ∀ C, mg x = some (.ref C) → PySem.W.findIn K (.ref C) f = some none
def Kit (K : PySem.W.Frag) (mg : Str → Option Value) (x y : Str) (b : Bool) : Prop := ∀ C D, mg x = some (.ref C) → mg y = some (.ref D) → PySem.W.kitOne K (.ref C) (.ref D) = some b
def KitB (K : PySem.W.Frag) (mg : Str → Option Value) (x : Str) (y : String) (b : Bool) : Prop := ∀ C, mg x = some (.ref C) → PySem.W.kitOne K (.ref C) (.type y) = some b
def Exm (K : PySem.W.Frag) (mg : Str → Option Value) (x y : Str) (b : Bool) : Prop := ∀ C D, mg x = some (.ref C) → mg y = some (.ref D) → PySem.W.exmOne K (.ref C) (.ref D) = some b
/-- an exception of the class of that name -/
def Ex1 (K : PySem.W.Frag) (mg : Str → Option Value) (x : Str) (H : Hp) (a : Addr) (fs : List (Str × V)) : Prop := ∃ C, mg x = some (.ref C) ∧ ExcC K C ∧ XOb H a C fs
theorem Ex1.same {K : PySem.W.Frag} {mg : Str → Option Value} {x : Str} {H H' : Hp} {a : Addr} {fs : List (Str × V)} (h : Ex1 K mg x H a fs) (s : Same H H') : Ex1 K mg x H' a fs := by
  obtain ⟨C, h1, h2, h3⟩ := h
  exact ⟨C, h1, h2, h3.same s⟩
theorem cls_eq {mg : Str → Option Value} {x : Str} {C D : Addr} (h : mg x = some (.ref C)) (g : mg x = some (.ref D)) : C = D := Value.ref.inj (Option.some.inj (h.symm.trans g))
/-- e.f -/
theorem xo_at {K : PySem.W.Frag} {mg : Str → Option Value} {x n : Str} {H : Hp} {a : Addr} {fs : List (Str × V)} {y : V} {Q : VK} (h : Ex1 K mg x H a fs) (nf : NoF K mg x n) (e : fs.lookup n = some y) (q : Q y H) : rXo K n (.ref a) H Q := by
  obtain ⟨C, hC, T, hO⟩ := h
  unfold rXo
  exact ⟨a, C, fs, y, rfl, T, nf C hC, hO, e, q⟩
theorem is_at {K : PySem.W.Frag} {mg : Str → Option Value} {x y : Str} {H : Hp} {a D : Addr} {fs : List (Str × V)} {b : Bool} {Q : VK} (h : Ex1 K mg x H a fs) (k : Kit K mg x y b) (hD : mg y = some (.ref D)) (q : Q (.bl b) H) : rIsX K [.ref a, .ref D] H Q := by
  obtain ⟨C, hC, T, hO⟩ := h
  unfold rIsX
  exact ⟨a, C, fs, .ref D, .ref D, b, rfl, .own D, T, hO, k C D hC hD, q⟩
theorem is_atB {K : PySem.W.Frag} {mg : Str → Option Value} {x : Str} {y : String} {H : Hp} {a : Addr} {fs : List (Str × V)} {b : Bool} {Q : VK} (h : Ex1 K mg x H a fs) (k : KitB K mg x y b) (q : Q (.bl b) H) : rIsX K [.ref a, .ty y] H Q := by
  obtain ⟨C, hC, T, hO⟩ := h
  unfold rIsX
  exact ⟨a, C, fs, .ty y, .type y, b, rfl, .ty y, T, hO, k C hC, q⟩
/-- the promise of an __init__ that sets one field -/
def spIni (K : PySem.W.Frag) (C : Addr) (f : Str) : Sp := fun vs H Q _ => ∃ (a : Addr) (y : V), vs = [.ref a, y] ∧ H a = some (exo a C none) ∧ ∀ dx, H dx = none → dx ≠ a → Q .non (upd (upd H dx (exd dx [(f, y)])) a (exo a C (some dx)))
structure MkE (P : Program) (w : World) (K : PySem.W.Frag) (mg : Str → Option Value) (base : Heap) (k : Nat) (x f : Str) : Prop where
  ex : ∃ (C fI : Addr) (fd : FuncData) (ps : List Str), mg x = some (.ref C) ∧ OexG K C ∧ ExcC K C ∧ PySem.W.findIn K (.ref C) "__init__" = some (some (.ref fI)) ∧ PySem.W.typeIn K (.ref fI) = some (.type "function") ∧ FnOk P w K mg base CX0 k fI fd ps (spIni K C f) ∧ Binds K fd ps [] ∧ ∀ (s : Shared) (u v : Value), BindsTo s fd ⟨[u], [(f, v)]⟩ (ps.zip [u, v])
section
variable {P : Program} {w : World} {K : PySem.W.Frag} {mg : Str → Option Value} {base : Heap}
theorem mke0 {x q f : Str} {st : Stmt} {N ps : List Str} {k : Nat} (D : Ek K mg x q st) (hp : ps.length = 2)
    (hb : ∀ (kV doc pm : Value) (an : Option Addr) (cdv ct : Value) (us : List Value), us.length = ps.length → bindArgs (PySem.W.fnOf "__init__" q (defArgs st) (defBody st) (defScope st) .none kV doc pm an cdv ct) ⟨us, []⟩ = pure (ps.zip us))
    (hk : ∀ (kV doc pm : Value) (an : Option Addr) (cdv ct u v : Value), bindArgs (PySem.W.fnOf "__init__" q (defArgs st) (defBody st) (defScope st) .none kV doc pm an cdv ct) ⟨[u], [(f, v)]⟩ = pure (ps.zip [u, v]))
    (S : FnScope N ps (defScope st))
    (hbody : ∀ (C f' : Addr) (cdv : Value) (A : Around) (outer : List Env) (s : Shared) (H : Hp) (vs : List V) (Q : VK) (E : XK), OexG K C → mg x = some (.ref C) → Room k (A.deeper (envOfC q (defScope st) s.heap.objs.size f' cdv)) → spIni K C f vs H Q E →
      ∃ t, PSs (cxOf CX0 P w K mg base N q (defScope st) f' cdv A outer s H E).nox (defBody st) t ∧ t { nx := fun _ H' => Q .non H', rt := Q } (start N vs) H) : MkE P w K mg base (k + 1) x f := by
  obtain ⟨C, fI, fd, h1, h2, h3, h4, h5, F⟩ := D.ex
  refine ⟨C, fI, fd, ps, h1, h2, h3, h4, h5, F.ok S (fun vs H Q E h => ?_) (fun cdv A outer s H vs Q E hr h => hbody C fI cdv A outer s H vs Q E h2 h1 hr h), F.binds hb, fun s u v => ?_⟩
  · obtain ⟨a, y, rfl, _⟩ := h
    rw [hp]
    rfl
  · obtain ⟨oc, od, kV, doc, pm, an, cdv, ct, osl, rfl, lk, hcd⟩ := F.ex
    exact .of_eq (hk kV doc pm an cdv ct u v)
end
section
variable {X : Cx}
@[irreducible] def rNew (K : PySem.W.Frag) (mg : Str → Option Value) (x f : Str) (σ : L2.St) (y : V) (H1 : Hp) (Q : VK) : Prop := ∀ C, mg x = some (.ref C) → ExcC K C → (tNil σ H1 fun ys H2 => (y :: ys).length ≤ 1000 ∧ ∀ a, H2 a = none → spIni K C f (.ref a :: (y :: ys)) (upd H2 a (exo a C none)) (fun v H3 => v = .non ∧ Q (.ref a) H3) fun _ _ _ => False)
def tNew (K : PySem.W.Frag) (mg : Str → Option Value) (x f : Str) (te : TE) : TE := fun σ H Q => te σ H fun y H1 => rNew K mg x f σ y H1 Q
theorem pe_new {k j : Nat} {x f : Str} {e : Expr} {te : TE} {p pos : Pos} (c : MkE X.prog X.w X.K X.mg X.base k x f) (hr : Room j X.A) (hk : k + 1 ≤ j) (hg : Gl X x) (ha : PE X e te)
    (hdb : (x == ("__debug__" : Str)) = false := by decide) (he : starEach [e] X.env = (false, eval e X.env) :: starEach [] X.env := by rfl) (hpl : (backTo pos (starEach ([] : List Expr) X.env)).any (·.1) = false := by rfl) :
    PE X (.Call (.Name x p) [e] [] pos) (tNew X.K X.mg x f te) := by
  obtain ⟨C, fI, fd, ps, h1, h2, h3, h4, h5, F, b, _⟩ := c.ex
  have r := pe_oex (pos := pos) (p := p) h2 h4 h5 F (hr.mono hk) b pass0 hg h1 (pa_cons (hs := he) ha pa_nil) hdb he hpl
  constructor
  intro pins s σ H Q I h
  refine r.run pins s σ H Q I ?_
  have e1 : ∀ P : Addr → Prop, (∀ C', X.mg x = some (.ref C') → ExcC X.K C' → P C') = P C := fun P => propext ⟨fun g => g C h1 h3, fun g C' z _ => by rw [cls_eq z h1]; exact g⟩
  unfold tNew rNew at h
  simp only [e1] at h
  exact h
/-- C(e) made: how it stands -/
theorem new_at {K : PySem.W.Frag} {mg : Str → Option Value} {x f : Str} {y : V} {σ : L2.St} {H1 : Hp} {Q : VK} (q : ∀ H' a, Same H1 H' → Ex1 K mg x H' a [(f, y)] → Q (.ref a) H') : rNew K mg x f σ y H1 Q := by
  unfold rNew
  intro C hC T
  refine (show 1 ≤ 1000 ∧ _ from ⟨by decide, fun a ha => ⟨a, y, rfl, upd_same, fun dx hdx hne => ⟨rfl, q _ a (fun b o z => ?_) ⟨C, hC, T, dx, .inl upd_same, .inl ?_⟩⟩⟩⟩)
  · have hb : b ≠ a := fun w => by
      rw [w, ha] at z
      cases z
    have hd : b ≠ dx := fun w => by
      rw [← w, upd_ne hb, z] at hdx
      cases hdx
    rw [upd_ne hb, upd_ne hd, upd_ne hb]
    exact z
  · rw [upd_ne hne, upd_same]
end
end XB
set_option Elab.async false
set_option linter.all false
set_option maxRecDepth 100000
set_option maxHeartbeats 4000000
/-! an own exception made by a call with keywords alone -/
namespace PySem
namespace XOK
open Builtin Builtin.ObjectAttr HandSPX PySem.Spec PyProof.Rows
section
variable {prog : Program} {w : World} {A : Around} {E : Value → Shared → Prop} {R : Result → Shared → Prop} {h : Heap} {g : Array GenState} {d : Drawn} {t : Nat} {os : OsState}
variable {nm q : Str} {C N : Addr} {bs bm bmB : List Value} {hdct : Bool} {sn : List Str} {sub : List Value} {ab : Bool} {col : Option Bool} {dd : Option Addr} {k0 k1 k2 k3 k5 : Option Value} {B newId initId : String} {kw : List (Str × Value)}
theorem chk_type (hC : h.get? C = some (excClassObj nm q C N bs bm hdct sn sub ab col dd k0 k1 k2 k3 k5 newId)) {M : Model} {Q : Unit → Shared → Prop} (hq : Q () ⟨h, g, d, t, os⟩) : wpAny M A (checkBuiltinCall "type.__call__" ⟨[.ref C], kw⟩) Q E ⟨h, g, d, t, os⟩ := by
  have z3 := tc_sub
  have zT : (⟨h, g, d, t, os⟩ : Shared).TypeIs (.ref C) "type" := ⟨_, hC, rfl⟩
  simp only [tc_split, tc_kind, checkBuiltinCall]
  repeat (any_goals (first | assumption | with_reducible refine wpAny_onRaise ?_ | with_reducible refine wpAny_loadPart_at hC ?_ | with_reducible refine wpAny_map ?_ | wp_step))
theorem chk_new (F : ExcBaseFacts B newId initId bmB) (hT : ∀ Y : String, bm.contains (.type Y) = bmB.contains (.type Y)) {M : Model} {Q : Unit → Shared → Prop}
    (hC : h.get? C = some (excClassObj nm q C N bs bm hdct sn sub ab col dd k0 k1 k2 k3 k5 newId)) (hq : Q () ⟨h, g, d, t, os⟩) : wpAny M A (checkBuiltinCall newId ⟨[.ref C], kw⟩) Q E ⟨h, g, d, t, os⟩ := by
  have zc : (Value.ref C :: bm).contains (.type B) = true := by rw [List.contains_cons, hT, F.hasB, Bool.or_true]
  have zs := F.noStar
  simp only [F.newRow, F.newSplit, F.newKind, checkBuiltinCall]
  repeat (first | refine wpAny_loadPart_at hC ?_ | refine wpAny_staticBase_exc hC ?_ | (refine wpAny_isSubtype_exc hC ?_; rw [zc]) | refine wpAny_madeBy_exc hC ?_ | simp only [Bool.false_eq_true, bne_self_eq_false, if_false] | wp_step)
  exact hq
theorem make_new (F : ExcBaseFacts B newId initId bmB) (hT : ∀ Y : String, bm.contains (.type Y) = bmB.contains (.type Y)) (hC : h.get? C = some (excClassObj nm q C N bs bm hdct sn sub ab col dd k0 k1 k2 k3 k5 newId))
    (hq : R (.ok (.ret (.ref (h.objs.size + 1)))) ⟨(h.push { cls := .type "tuple", data := .seq #[] }).push { cls := .ref C, data := .fields #[.ref h.objs.size, .none, .none, .none, .bool false, .none] }, g, d, t, os⟩) :
    codeAny (model prog w) A (.builtin newId ⟨[.ref C], kw⟩) R ⟨h, g, d, t, os⟩ := by
  have z1 : (Value.ref C :: bm).contains (.type B) = true := by rw [List.contains_cons, hT, F.hasB, Bool.or_true]
  have z2 : (Value.ref C :: bm).contains (.type "AttributeError") = false := by rw [List.contains_cons, hT, F.noAttr, Bool.or_false]; rfl
  have z3 : (Value.ref C :: bm).contains (.type "NameError") = false := by rw [List.contains_cons, hT, F.noName, Bool.or_false]; rfl
  have zl : ([] : List Value).length ≤ sizeLine := Nat.zero_le _
  have ze := F.ends
  refine codeAny_builtinAt F.entry ?_
  unfold Builtin.«BaseException.__new__»
  refine wpAt_bind (show wpAt _ _ _ (stack >>= _) _ _ _ from ?_)
  refine wpAt_bind (wpAt_stack fun pa lo => wpAt_of_wpAny ?_)
  wp_walk
  refine (wpAt_of_wpAny ?_)
  rw [F.owner]
  repeat (first | with_reducible refine wpAny_loadPart_at hC ?_ | with_reducible refine wpAny_madeHere_exc F.canon hC ?_ | (with_reducible refine wpAny_isSubtype_exc hC ?_; first | rw [z1] | rw [z2] | rw [z3]) | wp_step)
  show R _ _
  rw [Heap.size_push]
  exact hq
theorem type_kw (F : ExcBaseFacts B newId initId bmB) (hT : ∀ Y : String, bm.contains (.type Y) = bmB.contains (.type Y)) {fI : Addr} {Q : Fin → Shared → Prop} (hC : h.get? C = some (excClassObj nm q C N bs bm hdct sn sub ab col dd k0 k1 k2 k3 k5 newId))
    (hi : W.Looks (model prog w) h (typeLookup (.ref C) "__init__") (some (.ref fI))) (hb : ∀ self, W.Looks (model prog w) h (bindSpecial (.ref fI) self) (.ref fI, [self]))
    (hq : codeAny (model prog w) A (.call (.ref fI) ⟨[.ref (h.objs.size + 1)], kw⟩) (fun r s' => match r with | .ok (.ret v) => v = .none ∧ Q (.done (.ret (.ref (h.objs.size + 1)))) s' | .ok _ => False | .error e => E e s')
      ⟨(h.push (W.kdv_tup [])).push (excO C h.objs.size), g, d, t, os⟩) : wpAny (model prog w) A (Builtin.«type.__call__» ⟨[.ref C], kw⟩) Q E ⟨h, g, d, t, os⟩ := by
  repeat (first | with_reducible refine wpAny_madeBy_exc hC ?_ | with_reducible refine wpAny_loadPart_at hC ?_ | wp_step)
  refine codeAny_call_builtin_code (Code.quiet_builtin _ F.quiet) (chk_new F hT hC (make_new F hT hC ?_))
  show wpAny _ _ _ _ _ _
  obtain ⟨h2, e2⟩ : ∃ h2, h2 = (h.push (W.kdv_tup [])).push (excO C h.objs.size) := ⟨_, rfl⟩
  have kp : ∀ b o, h.get? b = some o → h2.get? b = some o := fun b o e => by
    rw [e2]
    exact Heap.get?_push_of_some _ (Heap.get?_push_of_some _ e)
  have hg : h2.get? (h.objs.size + 1) = some (excO C h.objs.size) := by
    rw [e2]
    heap_get
  have hC2 := kp _ _ hC
  have zz : (Value.ref C :: bm).contains (.ref C) = true := by simp
  have j1 := hi.keeps kp
  have j2 := (hb (.ref (h.objs.size + 1))).keeps kp
  rw [← e2] at hq
  rw [show (h.push { cls := .type "tuple", data := .seq #[] }).push { cls := .ref C, data := .fields #[.ref h.objs.size, .none, .none, .none, .bool false, .none] } = h2 from e2.symm]
  unfold isInstance
  repeat (first | (with_reducible refine wpAny_isSubtype_exc hC2 ?_; rw [zz]) | with_reducible refine wpAny_loadPart_at hg ?_ | wp_step)
  show wpAny _ _ (typeLookup (.ref C) _) _ _ _
  refine j1.at (wpAny_holding (wpAny_bind (j2.at (wpAny_bind (wpAny_call (codeAny_mono hq ?_))))))
  rintro (e | fl) s' z
  · exact z
  · cases fl with
    | ret v =>
      obtain ⟨rfl, z⟩ := z
      first
        | exact wpAny_pure (wpAny_pure z)
        | (wp_walk; exact z)
    | next => exact False.elim z
    | brk => exact False.elim z
    | cont => exact False.elim z
theorem call_kw (F : ExcBaseFacts B newId initId bmB) (hT : ∀ Y : String, bm.contains (.type Y) = bmB.contains (.type Y)) {fI : Addr} (hC : h.get? C = some (excClassObj nm q C N bs bm hdct sn sub ab col dd k0 k1 k2 k3 k5 newId))
    (hi : W.Looks (model prog w) h (typeLookup (.ref C) "__init__") (some (.ref fI))) (hb : ∀ self, W.Looks (model prog w) h (bindSpecial (.ref fI) self) (.ref fI, [self]))
    (hq : codeAny (model prog w) (A.under (.builtin "type.__call__" ⟨[.ref C], kw⟩)) (.call (.ref fI) ⟨[.ref (h.objs.size + 1)], kw⟩) (W.InitBack (h.objs.size + 1) R) ⟨(h.push (W.kdv_tup [])).push (excO C h.objs.size), g, d, t, os⟩) :
    codeAny (model prog w) A (.call (.ref C) ⟨[], kw⟩) R ⟨h, g, d, t, os⟩ := by
  have y1 := tc_lookup
  have y2 := tc_bind (.ref C)
  have yT : (⟨h, g, d, t, os⟩ : Shared).TypeIs (.ref C) "type" := ⟨_, hC, rfl⟩
  refine codeAny_of_tree (show wpAny _ _ (callAny (.ref C) _) _ _ _ from ?_)
  repeat (any_goals (first | assumption | with_reducible refine wpAny_loadPart_at hC ?_ | wp_step))
  refine ⟨rfl, codeAny_call_builtin_at (Code.quiet_builtin _ (by decide +kernel)) entry_typeCall (chk_type hC (type_kw F hT hC hi hb (codeAny_mono hq ?_)))⟩
  rintro (e | fl) s' z
  · exact z
  · cases fl <;> exact z
end
end XOK
end PySem
namespace XB
open PySem PySem.Spec PyProof.Rows L2
section
variable {X : Cx}
/-- C(f = e) -/
theorem pe_newK {k j : Nat} {x f : Str} {e : Expr} {te : TE} {p pos kpos : Pos} (c : MkE X.prog X.w X.K X.mg X.base k x f) (hr : Room j X.A) (hk : k + 1 ≤ j) (hg : Gl X x) (ha : PE X e te)
    (hall : (backToKw pos (keywordEach [⟨some f, e, kpos⟩] X.env)).all (·.1.isSome) = true := by rfl) (hks : (backToKw pos (keywordEach [⟨some f, e, kpos⟩] X.env)).filterMap (·.1) = [f] := by rfl) (hdb : (x == ("__debug__" : Str)) = false := by decide)
    (hpl : ((backTo pos (starEach ([] : List Expr) X.env)).any (·.1) || (backToKw pos (keywordEach [⟨some f, e, kpos⟩] X.env)).any (·.1.isNone)) = false := by rfl) :
    PE X (.Call (.Name x p) [] [⟨some f, e, kpos⟩] pos) (tNew X.K X.mg x f te) := by
  obtain ⟨C, fI, fd, ps, h1, h2, h3, h4, h5, F, _, b⟩ := c.ex
  constructor
  intro pins s σ H Q I h
  obtain ⟨nm, q, N, bs, bm, sn, sub, ab, col, dd, k0, k1, k2, k3, k5, B, ni, ii, bmB, hC, hF, hT, _, _⟩ := h2.cls
  refine wpAny_Call_Name_kw (ld_glob I hg h1 ?_ hdb)
  refine PySem.W.callWith_KW0 (h₀ := X.base) I.ok.mod.kin h2.kC hall ?_ hpl
  have e1 : ∀ P : Addr → Prop, (∀ C', X.mg x = some (.ref C') → ExcC X.K C' → P C') = P C := fun P => propext ⟨fun g => g C h1 h3, fun g C' z _ => by rw [cls_eq z h1]; exact g⟩
  unfold tNew rNew at h
  simp only [e1] at h
  refine thn ((pk_cons ha pk_nil).run pos pins s σ H _ I (show tCons te tNil σ H (fun vs H2 => vs.length ≤ 1000 ∧ ∀ a, H2 a = none → spIni X.K C f (.ref a :: vs) (upd H2 a (exo a C none)) (fun v H3 => v = .non ∧ Q (.ref a) H3) fun _ _ _ => False) from h)) ?_
  rintro ws ⟨hp, g, dr, tk, os⟩ ⟨zs, H1, I1, rz, hz, q1⟩
  refine ⟨I1.kIn, ?_⟩
  rw [hks]
  have up1 : hp.objs.size ≤ hp.objs.size + 1 := by omega
  have hq := q1 (hp.objs.size + 1) (I1.hok.fresh up1)
  obtain ⟨a', y', ev, _⟩ := id hq
  obtain ⟨_, ez⟩ := List.cons.inj ev
  subst ez
  obtain ⟨u, rfl, ru⟩ := rz.one
  obtain ⟨h2', eh2⟩ : ∃ h2', h2' = (hp.push (PySem.W.kdv_tup [])).push (PySem.HandSPX.excO C hp.objs.size) := ⟨_, rfl⟩
  have kk : ∀ b o, hp.get? b = some o → h2'.get? b = some o := fun b o z => by
    rw [eh2]
    exact Heap.get?_push_of_some _ (Heap.get?_push_of_some _ z)
  have hget : h2'.get? (hp.objs.size + 1) = some (PySem.HandSPX.excO C hp.objs.size) := by
    rw [eh2]
    heap_get
  have I2 : Inv X pins σ (upd H1 (hp.objs.size + 1) (exo (hp.objs.size + 1) C none)) ⟨h2', g, dr, tk, os⟩ := I1.laid (t' := tk) (a := hp.objs.size + 1) (h' := h2') kk up1 (exo_ok hget)
  have r2 : Vals [V.ref (hp.objs.size + 1), y'] [Value.ref (hp.objs.size + 1), u] := .cons rfl (.cons ru .nil)
  refine wpAny_call (PySem.XOK.call_kw (kw := [(f, u)]) hF hT (I1.kIn _ _ hC) (PySem.W.looks_findIn I1.kIn h4) (fun self => PySem.W.bind_fn I1.kIn self h5) ?_)
  rw [← eh2]
  refine codeAny_mono (F.run _ X.stack _ _ ⟨[.ref (hp.objs.size + 1)], [(f, u)]⟩ [.ref (hp.objs.size + 1), u] _ _ (fun _ _ _ => False) ((hr.mono hk).make C [] [(f, u)]) (I2.env0.make C [] [(f, u)]) (b _ _ _) r2 hq) ?_
  rintro (er | fl) s' hq'
  · exact pass0 pins σ _ _ er s' I2 hq'
  · cases fl with
    | ret u =>
      obtain ⟨v, H2, os2, bare2, un2, hok2, rv, ev, q2⟩ := hq'
      subst ev
      exact ⟨rv, .ref (hp.objs.size + 1), H2, I2.call' (ch := []) os2 un2 hok2 bare2 (fun b z => absurd z (by simp)), rfl, q2⟩
    | next => exact False.elim hq'
    | brk => exact False.elim hq'
    | cont => exact False.elim hq'
end
end XB
set_option Elab.async false
set_option linter.all false
set_option maxRecDepth 100000
set_option maxHeartbeats 4000000
/-! an exception that is caught and kept -/
namespace XB
open PySem PySem.Spec PyProof.Rows L2
section
variable {X : Cx} {pins : List (Addr × Obj)} {σ : L2.St} {H : Hp} {s : Shared} {a : Addr} {o : HO}
/-- an object that nothing told of, new since the entry, is told of -/
theorem adopt (I : Inv X pins σ H s) (hn : H a = none) (h0 : X.s_0.heap.get? a = none) (hL : a ≠ X.env.locals) (hc : ∀ x c, X.env.cells.lookup x = some c → c ≠ a) (hp : ∀ p ∈ X.pn ++ pins, p.1 ≠ a) (new : ObjOk X.prog X.w (upd H a o) s.heap a o) : Inv X pins σ (upd H a o) s := by
  obtain ⟨b1, b2, b3, b4, b5, b6, b7⟩ := I.base
  have nh : ∀ {b : Addr} {u : HO}, H b = some u → b ≠ a := fun {b u} e z => by
    rw [z, hn] at e
    cases e
  refine ⟨I.ok, I.os, I.bare, ⟨b1, b2, fun b u e n hx => ?_, b4, fun b xs e => ?_, fun b u v e => ?_, fun b ps e => ?_⟩, I.loc, I.cell, ?_, fun x c e => ?_, fun p hm => ?_, ?_, I.len⟩
  · have : b ≠ a := fun z => by
      rw [z, h0] at e
      cases e
    rw [upd_ne this]
    exact b3 b u e n hx
  · have z := b5 b xs e
    rw [upd_ne (nh z), z]
  · have z := b6 b u v e
    rw [upd_ne (nh z), z]
  · obtain ⟨more, z⟩ := b7 b ps e
    exact ⟨more, by rw [upd_ne (nh z), z]⟩
  · rw [upd_ne (Ne.symm hL)]
    exact I.free
  · rw [upd_ne (hc x c e)]
    exact I.freeC x c e
  · obtain ⟨p1, p2, p3⟩ := I.pin p hm
    exact ⟨p1, by rw [upd_ne (hp p hm), p2], p3⟩
  · exact I.hok.laidN (fun _ _ e => e) hn new
end
/-- what the clause 'except x as n' wishes, the exception being kept -/
def wKeep (K : PySem.W.Frag) (c : Value) (i : Nat) (ts : Addr → Value → Option Addr → TS) (Wout : WX) (D : Ends) : WX := fun cls d σ H =>
  ∃ b, PySem.W.exmOne K cls c = some b ∧ (b = true → ∀ a, H a = none → ts a cls d { nx := fun σ' H' => D.nx (σ'.set i none) (upd H' a (exg a cls d)), rt := fun v H' => D.rt v (upd H' a (exg a cls d)), bk := fun σ' H' => D.bk (σ'.set i none) (upd H' a (exg a cls d)), ct := fun σ' H' => D.ct (σ'.set i none) (upd H' a (exg a cls d)) } (σ.set i (some (.ref a))) H) ∧
    (b = false → Wout cls d σ H)
section
variable {X : Cx} {x n : Str} {c : Value} {i : Nat} {body suite : List Stmt} {b₀ : Stmt} {np pos pos' : Pos} {tb : WX → TS} {ts : Addr → Value → Option Addr → TS} {Wout : WX}
theorem ps_keep (hx : X.ex = []) (hs : X.stack = X.env :: X.outer) (hf : X.env.frame = some X.env.locals) (hN : X.N.Nodup) (hi : X.N[i]? = some n) (hln : X.env.kindOf n = some .local) (hc : L2.Names X x c) (tk : Takes X Wout)
    (hb : ∀ (W : WX) (pn : List (Addr × Obj)) (xe : Value → Shared → Prop), Takes (X.tr pn xe) W → PassesOwn (model X.prog X.w) X.A X.env xe → PSs (X.tr pn xe) body (tb W))
    (hsu : ∀ (a : Addr) (oe : Obj) (cls : Value) (d : Option Addr) (pn : List (Addr × Obj)), Zc cls d oe → (∃ vs, oe.data = .fields vs) → PSs (X.suite a ((a, oe) :: pn)) (b₀ :: suite) (ts a cls d)) :
    PS X (.Try body [.ExceptHandler (some (.Name x np)) (some n) (b₀ :: suite) pos'] [] [] pos) (fun D σ H => tb (wKeep X.K c i ts Wout D) D σ H) := by
  constructor
  intro pins s σ H D I h
  have kk := I.ok
  have frm : X.A.frames = some (X.env :: X.outer) := by rw [kk.frames, hs]
  have lo : Loc X.env.scope n := .inl hln
  refine wpAny_Try_except (wpAny_mono ((hb (wKeep X.K c i ts Wout D) (X.pn ++ pins) (fun e s₁ => wpAny (model X.prog X.w) X.A (noteFrame e X.env) (fun _ s₂ => wpAny (model X.prog X.w) X.A (setFlight e none) (fun _ s₃ => wpAny (model X.prog X.w) X.A (handleBy e X.env [.ExceptHandler (some (.Name x np)) (some n) (b₀ :: suite) pos']) (SP X pins D) X.xe s₃) X.xe s₂) X.xe s₁) ?_ PassesOwn.looking).run [] s σ H D (I.toTry _) h) ?_ (fun _ _ he => he))
  · rintro u s' ⟨a, B, sI, pins', σ', H', cls, d, rfl, J', nb, up, sky, na, os, ag, b, hb1, hyes, hno⟩
    have J : Inv X pins σ' H' sI := J'.ofTry kk
    rw [hs] at sky
    show wpAny (model X.prog X.w) X.A (noteFrame (.ref a) X.env) _ _ _
    refine Sky.land Zc.steady frm hf sky fun h3 fl3 up3 => ?_
    have J3 : Inv X pins σ' H' { s' with heap := h3 } := J.landed nb fl3.1 (up.trans up3) os ag
    obtain ⟨oe3, vs3, he3, hz3, hd3⟩ := fl3.there
    have nfr : a ∉ frs (X.env :: X.outer) := fun hm => by
      obtain ⟨_, o', e', hnf⟩ := fl3.2.2.1.mem hm
      rw [he3] at e'
      cases e'
      exact hnf _ hd3
    have nL : a ≠ X.env.locals := fun z => nfr (List.mem_filterMap.mpr ⟨X.env, List.mem_cons_self, by rw [hf, z]⟩)
    have nF : a ∉ X.fs := fun hm => by
      obtain ⟨e, he, q⟩ := List.mem_filterMap.mp hm
      exact nfr (List.mem_filterMap.mpr ⟨e, List.mem_cons_of_mem _ he, q⟩)
    have Ba : B.get? a = none := fl3.2.1
    have gone : sI.heap.get? a = none := by
      cases q : sI.heap.get? a with
      | none => rfl
      | some o =>
        have z := nb a o q (by rw [hs]; exact nfr)
        rw [Ba] at z
        cases z
    have g0 : X.s_0.heap.get? a = none := by
      cases q : X.s_0.heap.get? a with
      | none => rfl
      | some o =>
        obtain ⟨o', z⟩ := J.base.there a o q (by rw [hx]; simp)
        rw [gone] at z
        cases z
    have gc : ∀ x c, X.env.cells.lookup x = some c → c ≠ a := fun x c e z => by
      obtain ⟨v, o, ho, _⟩ := J.cell x c e
      rw [z, gone] at ho
      cases ho
    have gp : ∀ p ∈ X.pn ++ pins, p.1 ≠ a := fun p hp z => by
      have w := (J.pin p hp).1
      rw [z, gone] at w
      cases w
    have S3 := J3.suite he3 hd3 na nL nF
    refine wpAny_handleBy_cons (codeAny_handlers_test ?_) (by intro q; cases q)
    have LT : PySem.W.Looks (model X.prog X.w) h3 (typeOf (.ref a)) cls := fun A Q E s k q => wpAny_typeOf_ref (k _ _ he3) (by rw [hz3.1]; exact q)
    have LM := PySem.W.exm_one (M := model X.prog X.w) J3.kIn LT hb1
    have tst : ∀ {Q : Value → Shared → Prop} {E : Value → Shared → Prop}, Q c { s' with heap := h3 } → wpAny (model X.prog X.w) (X.A.mark (some (.ref a))) (eval (.Name x np) X.env) Q E { s' with heap := h3 } := fun {Q E} q => by
      obtain ⟨hg, hdbg, hm | ⟨hm, hv, hnn⟩⟩ := hc
      · exact ld_glob (X := X.suite a ((a, oe3) :: (X.pn ++ pins))) S3 hg hm q hdbg
      · exact ld_blt (X := X.suite a ((a, oe3) :: (X.pn ++ pins))) S3 hg hm hv q hnn hdbg
    refine tst (LM.here ?_)
    cases b with
    | true =>
      refine codeAny_handlers_suite_as (HandSPX.lands_againZ fl3 fun h4 fl4 up4 => ?_)
      have J4 : Inv X pins σ' H' { s' with heap := h4 } := J.landed nb fl4.1 ((up.trans up3).trans up4) os ag
      obtain ⟨oe4, vs4, he4, hz4, hd4⟩ := fl4.there
      have S4 := J4.suite he4 hd4 na nL nF
      refine store_ok (X := X.suite a ((a, oe4) :: (X.pn ++ pins))) (v := .ref a) S4 hN hi lo rfl (fun s5 S5 => ?_) (.inr hln)
      refine wpAny_mono ((hsu a oe4 cls d (X.pn ++ pins) hz4 ⟨_, hd4⟩).run [] s5 _ H' _ S5 (hyes rfl a na)) ?_ (fun _ _ z => False.elim z)
      have fin : ∀ {s6 : Shared} {σ6 : L2.St} {H6 : Hp} {Q : Shared → Prop}, Inv (X.suite a ((a, oe4) :: (X.pn ++ pins))) [] σ6 H6 s6 → (∀ s7, Inv X pins (σ6.set i none) (upd H6 a (exg a cls d)) s7 → Q s7) →
          wpAny (model X.prog X.w) X.A (do bindName X.env n .none; unbindBehindTheSuite X.env n pos') (fun _ s7 => Q s7) X.xe s6 := fun {s6 σ6 H6 Q} S6 hq => by
        obtain ⟨w1, w2, _⟩ := S6.pin (a, oe4) (List.mem_append_left _ List.mem_cons_self)
        exact gone_ok (adopt (S6.unsuite kk) w2 g0 nL gc gp (exg_ok w1 hz4.1 hz4.2 hd4)) hN hi hln hq
      intro f s6 hsp
      cases f with
      | next =>
        obtain ⟨σ6, H6, S6, q6⟩ := hsp
        exact fin S6 fun s7 J7 => ⟨_, _, J7, q6⟩
      | brk =>
        obtain ⟨σ6, H6, S6, q6⟩ := hsp
        exact fin S6 fun s7 J7 => ⟨_, _, J7, q6⟩
      | cont =>
        obtain ⟨σ6, H6, S6, q6⟩ := hsp
        exact fin S6 fun s7 J7 => ⟨_, _, J7, q6⟩
      | ret u =>
        obtain ⟨v6, σ6, H6, S6, r6, q6⟩ := hsp
        exact fin S6 fun s7 J7 => ⟨_, _, _, J7, r6, q6⟩
    | false =>
      show wpAny _ X.A (handleBy (.ref a) X.env []) _ _ _
      refine wpAny_handleBy_nil ?_
      obtain ⟨k1, k2, k3, oe, vs, Tb, oT, tss, he, hz, hd, h1, hr⟩ := id fl3
      unfold PySem.passOn
      refine wpAny_bind (wpAny_field he hd h1 ?_)
      rw [if_neg (show ¬ ((Value.ref Tb == Value.none) = true) from by simp)]
      have last : wpAny (model X.prog X.w) X.A (setFlight (.ref a) X.env.frame) (fun _ s4 => wpAny (model X.prog X.w) X.A (throw (.ref a) : Sem Flow) (SP X pins D) X.xe s4) X.xe { s' with heap := h3 } := by
        rw [hf]
        refine HandSPX.setFlight_upZ fl3 fun h4 hh4 up4 => wpAny_throw (tk _ _ ⟨a, B, sI, pins, σ', H', cls, d, rfl, J, nb, (up.trans up3).trans up4, .inr (.inr ?_), na, os, ag, hno rfl⟩)
        rw [hs]
        exact hh4
      first
        | exact wpAny_bind (wpAny_pure (wpAny_bind last))
        | exact wpAny_bind last
  · intro f s1 hsp
    cases f with
    | next =>
      obtain ⟨σ', H', J', q⟩ := hsp
      exact wpAny_execs_nil ⟨σ', H', J'.ofTry kk, q⟩
    | brk =>
      obtain ⟨σ', H', J', q⟩ := hsp
      exact ⟨σ', H', J'.ofTry kk, q⟩
    | cont =>
      obtain ⟨σ', H', J', q⟩ := hsp
      exact ⟨σ', H', J'.ofTry kk, q⟩
    | ret u =>
      obtain ⟨v, σ', H', J', r, q⟩ := hsp
      exact ⟨v, σ', H', J'.ofTry kk, r, q⟩
end
/-! ### an own exception raised -/
section
variable {X : Cx}
/-- C(e) to be raised -/
@[irreducible] def rMk (K : PySem.W.Frag) (mg : Str → Option Value) (x f : Str) (σ : L2.St) (y : V) (H1 : Hp) (Q : XK) : Prop := ∀ C, mg x = some (.ref C) → ExcC K C → (tNil σ H1 fun ys H2 => (y :: ys).length ≤ 1000 ∧ ∀ a, H2 a = none → spIni K C f (.ref a :: (y :: ys)) (upd H2 a (exo a C none))
  (fun v H3 => v = .non ∧ ∃ (d : Addr) (fs : List (Str × V)), H3 a = some (exo a C (some d)) ∧ H3 d = some (exd d fs) ∧ H2 d = none ∧ Q (.ref C) (some d) (upd (del H3 a) d (.xd fs))) fun _ _ _ => False)
theorem mk_at {K : PySem.W.Frag} {mg : Str → Option Value} {x f : Str} {y : V} {σ : L2.St} {H1 : Hp} {Q : XK} (q : ∀ C H' d, mg x = some (.ref C) → ExcC K C → Same H1 H' → H' d = some (.xd [(f, y)]) → Q (.ref C) (some d) H') : rMk K mg x f σ y H1 Q := by
  unfold rMk
  intro C hC T
  refine (show 1 ≤ 1000 ∧ _ from ⟨by decide, fun a ha => ⟨a, y, rfl, upd_same, fun dx hdx hne => ⟨rfl, dx, [(f, y)], upd_same, ?_, ?_, q C _ dx hC T ?_ upd_same⟩⟩⟩)
  · rw [upd_ne hne, upd_same]
  · rw [upd_ne hne] at hdx
    exact hdx
  · have hd : H1 dx = none := by
      rw [upd_ne hne] at hdx
      exact hdx
    intro b o e
    have e1 : b ≠ a := ne_of_none e ha
    have e2 : b ≠ dx := ne_of_none e hd
    rw [upd_ne e2, del_ne e1, upd_ne e1, upd_ne e2, upd_ne e1, e]
theorem pmk_gen {CX : CXT} {x : Str} {C fI : Addr} {k : Nat} {fd : FuncData} {ps : List Str} {sp : Sp} {e : Expr} {es : List Expr} {p pos : Pos} {ta : TA} (T : OexG X.K C) (iC : PySem.W.findIn X.K (.ref C) "__init__" = some (some (.ref fI)))
    (tI : PySem.W.typeIn X.K (.ref fI) = some (.type "function")) (F1 : FnOk X.prog X.w X.K X.mg X.base CX k fI fd ps sp) (hr : Room (k + 1) X.A) (hb : Binds X.K fd ps []) (hx : Passes CX X fun _ _ _ => False) (hg : Gl X x) (hm : X.mg x = some (.ref C)) (ha : PA X (e :: es) ta)
    (hdb : (x == ("__debug__" : Str)) = false := by decide) (he : starEach (e :: es) X.env = (false, eval e X.env) :: starEach es X.env := by rfl) (hpl : (backTo pos (starEach es X.env)).any (·.1) = false := by rfl) :
    PMk X (.Call (.Name x p) (e :: es) [] pos) (fun σ H Q => ta σ H fun vs H1 => vs.length ≤ 1000 ∧ ∀ a, H1 a = none → sp (.ref a :: vs) (upd H1 a (exo a C none)) (fun v H2 => v = .non ∧ ∃ (d : Addr) (fs : List (Str × V)), H2 a = some (exo a C (some d)) ∧ H2 d = some (exd d fs) ∧ H1 d = none ∧ Q (.ref C) (some d) (upd (del H2 a) d (.xd fs))) fun _ _ _ => False) := by
  intro pins s σ H Q I h
  obtain ⟨nm, q, N, bs, bm, sn, sub, ab, col, dd, k0, k1, k2, k3, k5, B, ni, ii, bmB, hC, hF, hT, _, _⟩ := T.cls
  refine wpAny_Call_Name_kw (ld_glob I hg hm ?_ hdb)
  refine PySem.W.callWith_K (h₀ := X.base) I.ok.mod.kin T.kC (thn (ha.run pos pins s σ H _ I h) ?_) he hpl
  rintro us ⟨hp, g, dr, tk, os⟩ ⟨vs, H1, I1, r1, hz, q1⟩
  refine ⟨I1.kIn, ?_⟩
  show wpAny _ _ (call (.ref C) us) _ _ _
  have up1 : hp.objs.size ≤ hp.objs.size + 1 := by omega
  have hq := q1 (hp.objs.size + 1) (I1.hok.fresh up1)
  obtain ⟨h2, eh2⟩ : ∃ h2, h2 = (hp.push (PySem.W.kdv_tup us)).push (PySem.HandSPX.excO C hp.objs.size) := ⟨_, rfl⟩
  have kk : ∀ b o, hp.get? b = some o → h2.get? b = some o := fun b o z => by
    rw [eh2]
    exact Heap.get?_push_of_some _ (Heap.get?_push_of_some _ z)
  have hget : h2.get? (hp.objs.size + 1) = some (PySem.HandSPX.excO C hp.objs.size) := by
    rw [eh2]
    heap_get
  have I2 : Inv X pins σ (upd H1 (hp.objs.size + 1) (exo (hp.objs.size + 1) C none)) ⟨h2, g, dr, tk, os⟩ := I1.laid (t' := tk) (a := hp.objs.size + 1) (h' := h2) kk up1 (exo_ok hget)
  have r2 : Vals (V.ref (hp.objs.size + 1) :: vs) (Value.ref (hp.objs.size + 1) :: us) := .cons rfl r1
  have hl : (Value.ref (hp.objs.size + 1) :: us).length = ps.length := r2.length.symm.trans (F1.len _ _ _ _ hq)
  have hus : us.length ≤ sizeLine := by
    have z := Paired.length r1
    rw [sizeLine_eq]
    omega
  have hb2 := hb ⟨h2, g, dr, tk, os⟩ (Value.ref (hp.objs.size + 1) :: us) I2.kIn (by rw [List.append_nil]; exact hl)
  rw [List.append_nil] at hb2
  refine wpAny_call (PySem.HandSPX.call_own hF hT (I1.kIn _ _ hC) (PySem.W.looks_findIn I1.kIn iC) (fun self => PySem.W.bind_fn I1.kIn self tI) hus ?_)
  rw [← eh2]
  refine codeAny_mono (F1.run _ X.stack _ _ ⟨Value.ref (hp.objs.size + 1) :: us, []⟩ (Value.ref (hp.objs.size + 1) :: us) _ _ (fun _ _ _ => False) (hr.make C us []) (I2.env0.make C us []) hb2 r2 hq) ?_
  rintro (er | fl) s' hq'
  · exact hx pins σ _ _ er s' I2 hq'
  · cases fl with
    | ret u =>
      obtain ⟨v, H2, os2, bare2, un2, hok2, rv, ev, d, fs, ea, ed, hd1, q2⟩ := hq'
      subst ev
      obtain ⟨h3, g3, d3, t3, os3⟩ := s'
      exact ⟨rv, mk_end (raises_own T.exC T.tyC) I1 up1 kk un2 hok2 os2 bare2 ea ed hd1 q2⟩
    | next => exact False.elim hq'
    | brk => exact False.elim hq'
    | cont => exact False.elim hq'
theorem pmk_new {k j : Nat} {x f : Str} {e : Expr} {te : TE} {p pos : Pos} (c : MkE X.prog X.w X.K X.mg X.base k x f) (hr : Room j X.A) (hk : k + 1 ≤ j) (hg : Gl X x) (ha : PE X e te)
    (hdb : (x == ("__debug__" : Str)) = false := by decide) (he : starEach [e] X.env = (false, eval e X.env) :: starEach [] X.env := by rfl) (hpl : (backTo pos (starEach ([] : List Expr) X.env)).any (·.1) = false := by rfl) :
    PMk X (.Call (.Name x p) [e] [] pos) (fun σ H Q => te σ H fun y H1 => rMk X.K X.mg x f σ y H1 Q) := by
  obtain ⟨C, fI, fd, ps, h1, h2, h3, h4, h5, F, b, _⟩ := c.ex
  intro pins s σ H Q I h
  refine pmk_gen (pos := pos) (p := p) h2 h4 h5 F (hr.mono hk) b pass0 hg h1 (pa_cons (hs := he) ha pa_nil) hdb he hpl pins s σ H Q I ?_
  have e1 : ∀ P : Addr → Prop, (∀ C', X.mg x = some (.ref C') → ExcC X.K C' → P C') = P C := fun P => propext ⟨fun g => g C h1 h3, fun g C' z _ => by rw [cls_eq z h1]; exact g⟩
  unfold rMk at h
  simp only [e1] at h
  exact h
end
/-! ### classes with two fields -/
def spIni2 (K : PySem.W.Frag) (C : Addr) (f g : Str) : Sp := fun vs H Q _ => ∃ (a : Addr) (y z : V), vs = [.ref a, y, z] ∧ H a = some (exo a C none) ∧ ∀ dx, H dx = none → dx ≠ a → Q .non (upd (upd H dx (exd dx [(g, z), (f, y)])) a (exo a C (some dx)))
structure MkE2 (P : Program) (w : World) (K : PySem.W.Frag) (mg : Str → Option Value) (base : Heap) (k : Nat) (x f g : Str) : Prop where
  ex : ∃ (C fI : Addr) (fd : FuncData) (ps : List Str), mg x = some (.ref C) ∧ OexG K C ∧ ExcC K C ∧ PySem.W.findIn K (.ref C) "__init__" = some (some (.ref fI)) ∧ PySem.W.typeIn K (.ref fI) = some (.type "function") ∧ FnOk P w K mg base CX0 k fI fd ps (spIni2 K C f g) ∧ Binds K fd ps [] ∧
    ∀ (s : Shared) (u v z : Value), BindsTo s fd ⟨[u], [(g, v), (f, z)]⟩ (ps.zip [u, z, v])
section
variable {P : Program} {w : World} {K : PySem.W.Frag} {mg : Str → Option Value} {base : Heap}
theorem mke2 {x q f g : Str} {st : Stmt} {N ps : List Str} {k : Nat} (D : Ek K mg x q st) (hp : ps.length = 3)
    (hb : ∀ (kV doc pm : Value) (an : Option Addr) (cdv ct : Value) (us : List Value), us.length = ps.length → bindArgs (PySem.W.fnOf "__init__" q (defArgs st) (defBody st) (defScope st) .none kV doc pm an cdv ct) ⟨us, []⟩ = pure (ps.zip us))
    (hk : ∀ (kV doc pm : Value) (an : Option Addr) (cdv ct u v z : Value), bindArgs (PySem.W.fnOf "__init__" q (defArgs st) (defBody st) (defScope st) .none kV doc pm an cdv ct) ⟨[u], [(g, v), (f, z)]⟩ = pure (ps.zip [u, z, v]))
    (S : FnScope N ps (defScope st))
    (hbody : ∀ (C f' : Addr) (cdv : Value) (A : Around) (outer : List Env) (s : Shared) (H : Hp) (vs : List V) (Q : VK) (E : XK), mg x = some (.ref C) → Room k (A.deeper (envOfC q (defScope st) s.heap.objs.size f' cdv)) → spIni2 K C f g vs H Q E →
      ∃ t, PSs (cxOf CX0 P w K mg base N q (defScope st) f' cdv A outer s H E).nox (defBody st) t ∧ t { nx := fun _ H' => Q .non H', rt := Q } (start N vs) H) : MkE2 P w K mg base (k + 1) x f g := by
  obtain ⟨C, fI, fd, h1, h2, h3, h4, h5, F⟩ := D.ex
  refine ⟨C, fI, fd, ps, h1, h2, h3, h4, h5, F.ok S (fun vs H Q E h => ?_) (fun cdv A outer s H vs Q E hr h => hbody C fI cdv A outer s H vs Q E h1 hr h), F.binds hb, fun s u v z => ?_⟩
  · obtain ⟨a, y, z, rfl, _⟩ := h
    rw [hp]
    rfl
  · obtain ⟨oc, od, kV, doc, pm, an, cdv, ct, osl, rfl, lk, hcd⟩ := F.ex
    exact .of_eq (hk kV doc pm an cdv ct u v z)
end
/-- two stores on a new exception -/
theorem two_st {H : Hp} {a dx : Addr} {u v v' : HO} (h : dx ≠ a) : upd (upd (upd H dx v) a u) dx v' = upd (upd H dx v') a u := by
  funext b
  by_cases h1 : b = dx
  · rw [h1, upd_same, upd_ne h, upd_same]
  · by_cases h2 : b = a
    · rw [h2, upd_ne (Ne.symm h), upd_same, upd_same]
    · rw [upd_ne h1, upd_ne h2, upd_ne h1, upd_ne h2, upd_ne h1]
section
variable {X : Cx}
@[irreducible] def rMk2 (K : PySem.W.Frag) (mg : Str → Option Value) (x f g : Str) (σ : L2.St) (y z : V) (H1 : Hp) (Q : XK) : Prop := ∀ C, mg x = some (.ref C) → ExcC K C → (tNil σ H1 fun ys H2 => (y :: z :: ys).length ≤ 1000 ∧ ∀ a, H2 a = none → spIni2 K C f g (.ref a :: (y :: z :: ys)) (upd H2 a (exo a C none))
  (fun v H3 => v = .non ∧ ∃ (d : Addr) (fs : List (Str × V)), H3 a = some (exo a C (some d)) ∧ H3 d = some (exd d fs) ∧ H2 d = none ∧ Q (.ref C) (some d) (upd (del H3 a) d (.xd fs))) fun _ _ _ => False)
theorem mk_at2 {K : PySem.W.Frag} {mg : Str → Option Value} {x f g : Str} {y z : V} {σ : L2.St} {H1 : Hp} {Q : XK} (q : ∀ C H' d, mg x = some (.ref C) → ExcC K C → Same H1 H' → H' d = some (.xd [(g, z), (f, y)]) → Q (.ref C) (some d) H') : rMk2 K mg x f g σ y z H1 Q := by
  unfold rMk2
  intro C hC T
  refine (show 2 ≤ 1000 ∧ _ from ⟨by decide, fun a ha => ⟨a, y, z, rfl, upd_same, fun dx hdx hne => ⟨rfl, dx, [(g, z), (f, y)], upd_same, ?_, ?_, q C _ dx hC T ?_ upd_same⟩⟩⟩)
  · rw [upd_ne hne, upd_same]
  · rw [upd_ne hne] at hdx
    exact hdx
  · have hd : H1 dx = none := by
      rw [upd_ne hne] at hdx
      exact hdx
    intro b o e
    have e1 : b ≠ a := ne_of_none e ha
    have e2 : b ≠ dx := ne_of_none e hd
    rw [upd_ne e2, del_ne e1, upd_ne e1, upd_ne e2, upd_ne e1, e]
theorem pmk_new2 {k j : Nat} {x f g : Str} {e1 e2 : Expr} {t1 t2 : TE} {p pos : Pos} (c : MkE2 X.prog X.w X.K X.mg X.base k x f g) (hr : Room j X.A) (hk : k + 1 ≤ j) (hg : Gl X x) (ha : PA X [e1, e2] (tCons t1 (tCons t2 tNil)))
    (hdb : (x == ("__debug__" : Str)) = false := by decide) (he : starEach [e1, e2] X.env = (false, eval e1 X.env) :: starEach [e2] X.env := by rfl) (hpl : (backTo pos (starEach [e2] X.env)).any (·.1) = false := by rfl) :
    PMk X (.Call (.Name x p) [e1, e2] [] pos) (fun σ H Q => t1 σ H fun y H1 => t2 σ H1 fun z H2 => rMk2 X.K X.mg x f g σ y z H2 Q) := by
  obtain ⟨C, fI, fd, ps, h1, h2, h3, h4, h5, F, b, _⟩ := c.ex
  intro pins s σ H Q I h
  refine pmk_gen (pos := pos) (p := p) h2 h4 h5 F (hr.mono hk) b pass0 hg h1 ha hdb he hpl pins s σ H Q I ?_
  have e1 : ∀ P : Addr → Prop, (∀ C', X.mg x = some (.ref C') → ExcC X.K C' → P C') = P C := fun P => propext ⟨fun g => g C h1 h3, fun g C' z _ => by rw [cls_eq z h1]; exact g⟩
  unfold rMk2 at h
  simp only [e1] at h
  exact h
@[irreducible] def rNew2 (K : PySem.W.Frag) (mg : Str → Option Value) (x f g : Str) (σ : L2.St) (z y : V) (H1 : Hp) (Q : VK) : Prop := ∀ C, mg x = some (.ref C) → ExcC K C → ∀ a, H1 a = none → spIni2 K C f g [.ref a, y, z] (upd H1 a (exo a C none)) (fun v H3 => v = .non ∧ Q (.ref a) H3) fun _ _ _ => False
theorem new_at2 {K : PySem.W.Frag} {mg : Str → Option Value} {x f g : Str} {y z : V} {σ : L2.St} {H1 : Hp} {Q : VK} (q : ∀ H' a, Same H1 H' → Ex1 K mg x H' a [(g, z), (f, y)] → Q (.ref a) H') : rNew2 K mg x f g σ z y H1 Q := by
  unfold rNew2
  intro C hC T a ha
  refine ⟨a, y, z, rfl, upd_same, fun dx hdx hne => ⟨rfl, q _ a (fun b o w => ?_) ⟨C, hC, T, dx, .inl upd_same, .inl ?_⟩⟩⟩
  · have hb : b ≠ a := ne_of_none w ha
    have hd : b ≠ dx := fun e => by
      rw [← e, upd_ne hb, w] at hdx
      cases hdx
    rw [upd_ne hb, upd_ne hd, upd_ne hb]
    exact w
  · rw [upd_ne hne, upd_same]
/-- C(g = e1, f = e2) -/
theorem pe_newK2 {k j : Nat} {x f g : Str} {e1 e2 : Expr} {t1 t2 : TE} {p pos kp1 kp2 : Pos} (c : MkE2 X.prog X.w X.K X.mg X.base k x f g) (hr : Room j X.A) (hk : k + 1 ≤ j) (hg : Gl X x) (h1e : PE X e1 t1) (h2e : PE X e2 t2)
    (hall : (backToKw pos (keywordEach [⟨some g, e1, kp1⟩, ⟨some f, e2, kp2⟩] X.env)).all (·.1.isSome) = true := by rfl) (hks : (backToKw pos (keywordEach [⟨some g, e1, kp1⟩, ⟨some f, e2, kp2⟩] X.env)).filterMap (·.1) = [g, f] := by rfl) (hdb : (x == ("__debug__" : Str)) = false := by decide)
    (hpl : ((backTo pos (starEach ([] : List Expr) X.env)).any (·.1) || (backToKw pos (keywordEach [⟨some g, e1, kp1⟩, ⟨some f, e2, kp2⟩] X.env)).any (·.1.isNone)) = false := by rfl) :
    PE X (.Call (.Name x p) [] [⟨some g, e1, kp1⟩, ⟨some f, e2, kp2⟩] pos) (fun σ H Q => t1 σ H fun z H1 => t2 σ H1 fun y H2 => rNew2 X.K X.mg x f g σ z y H2 Q) := by
  obtain ⟨C, fI, fd, ps, h1, h2, h3, h4, h5, F, _, b⟩ := c.ex
  constructor
  intro pins s σ H Q I h
  obtain ⟨nm, q, N, bs, bm, sn, sub, ab, col, dd, k0, k1, k2, k3, k5, B, ni, ii, bmB, hC, hF, hT, _, _⟩ := h2.cls
  refine wpAny_Call_Name_kw (ld_glob I hg h1 ?_ hdb)
  refine PySem.W.callWith_KW0 (h₀ := X.base) I.ok.mod.kin h2.kC hall ?_ hpl
  have e1 : ∀ P : Addr → Prop, (∀ C', X.mg x = some (.ref C') → ExcC X.K C' → P C') = P C := fun P => propext ⟨fun g => g C h1 h3, fun g C' z _ => by rw [cls_eq z h1]; exact g⟩
  unfold rNew2 at h
  simp only [e1] at h
  refine thn ((pk_cons h1e (pk_cons h2e pk_nil)).run pos pins s σ H _ I (show tCons t1 (tCons t2 tNil) σ H (fun vs H2 => match vs with
    | [z, y] => ∀ a, H2 a = none → spIni2 X.K C f g [.ref a, y, z] (upd H2 a (exo a C none)) (fun v H3 => v = .non ∧ Q (.ref a) H3) fun _ _ _ => False
    | _ => False) from h)) ?_
  rintro ws ⟨hp, gg, dr, tk, os⟩ ⟨zs, H1, I1, rz, hm⟩
  obtain ⟨z, y, rfl⟩ : ∃ z y, zs = [z, y] := by
    rcases zs with _ | ⟨z, _ | ⟨y, _ | ⟨_, _⟩⟩⟩
    · exact False.elim hm
    · exact False.elim hm
    · exact ⟨z, y, rfl⟩
    · exact False.elim hm
  have q1 : ∀ a, H1 a = none → spIni2 X.K C f g [.ref a, y, z] (upd H1 a (exo a C none)) (fun v H3 => v = .non ∧ Q (.ref a) H3) fun _ _ _ => False := hm
  refine ⟨I1.kIn, ?_⟩
  rw [hks]
  have up1 : hp.objs.size ≤ hp.objs.size + 1 := by omega
  have hq := q1 (hp.objs.size + 1) (I1.hok.fresh up1)
  obtain ⟨u, v, rfl, ru, rv⟩ := vals2 rz
  obtain ⟨h2', eh2⟩ : ∃ h2', h2' = (hp.push (PySem.W.kdv_tup [])).push (PySem.HandSPX.excO C hp.objs.size) := ⟨_, rfl⟩
  have kk : ∀ b o, hp.get? b = some o → h2'.get? b = some o := fun b o z => by
    rw [eh2]
    exact Heap.get?_push_of_some _ (Heap.get?_push_of_some _ z)
  have hget : h2'.get? (hp.objs.size + 1) = some (PySem.HandSPX.excO C hp.objs.size) := by
    rw [eh2]
    heap_get
  have I2 : Inv X pins σ (upd H1 (hp.objs.size + 1) (exo (hp.objs.size + 1) C none)) ⟨h2', gg, dr, tk, os⟩ := I1.laid (t' := tk) (a := hp.objs.size + 1) (h' := h2') kk up1 (exo_ok hget)
  have r2 : Vals [V.ref (hp.objs.size + 1), y, z] [Value.ref (hp.objs.size + 1), v, u] := .cons rfl (.cons rv (.cons ru .nil))
  refine wpAny_call (PySem.XOK.call_kw (kw := [(g, u), (f, v)]) hF hT (I1.kIn _ _ hC) (PySem.W.looks_findIn I1.kIn h4) (fun self => PySem.W.bind_fn I1.kIn self h5) ?_)
  rw [← eh2]
  refine codeAny_mono (F.run _ X.stack _ _ ⟨[.ref (hp.objs.size + 1)], [(g, u), (f, v)]⟩ [.ref (hp.objs.size + 1), v, u] _ _ (fun _ _ _ => False) ((hr.mono hk).make C [] [(g, u), (f, v)]) (I2.env0.make C [] [(g, u), (f, v)]) (b _ _ _ _) r2 hq) ?_
  rintro (er | fl) s' hq'
  · exact pass0 pins σ _ _ er s' I2 hq'
  · cases fl with
    | ret u =>
      obtain ⟨v, H2, os2, bare2, un2, hok2, rv, ev, q2⟩ := hq'
      subst ev
      exact ⟨rv, .ref (hp.objs.size + 1), H2, I2.call' (ch := []) os2 un2 hok2 bare2 (fun b z => absurd z (by simp)), rfl, q2⟩
    | next => exact False.elim hq'
    | brk => exact False.elim hq'
    | cont => exact False.elim hq'
end
section
variable {X : Cx} {W : WX}
/-- raise C(e) -/
theorem ps_rs {K : PySem.W.Frag} {mg : Str → Option Value} {k j : Nat} {x f : Str} {e : Expr} {te : TE} {p pos pos' : Pos} (hK : X.K = K) (hmg : X.mg = mg) (hcm : X.calm = true) (tk : Takes X W) (c : MkE X.prog X.w X.K X.mg X.base k x f) (hr : Room j X.A) (hk : k + 1 ≤ j) (hg : Gl X x) (ha : PE X e te)
    (hdb : (x == ("__debug__" : Str)) = false := by decide) (he : starEach [e] X.env = (false, eval e X.env) :: starEach [] X.env := by rfl) (hpl : (backTo pos (starEach ([] : List Expr) X.env)).any (·.1) = false := by rfl) :
    PS X (.Raise (some (.Call (.Name x p) [e] [] pos)) none pos') (fun _ σ H => te σ H fun y H1 => rMk K mg x f σ y H1 fun cls d H' => W cls d σ H') := by
  subst hK hmg
  exact ps_raise hcm tk (pmk_new c hr hk hg ha hdb he hpl)
theorem ps_rs2 {K : PySem.W.Frag} {mg : Str → Option Value} {k j : Nat} {x f g : Str} {e1 e2 : Expr} {t1 t2 : TE} {p pos pos' : Pos} (hK : X.K = K) (hmg : X.mg = mg) (hcm : X.calm = true) (tk : Takes X W) (c : MkE2 X.prog X.w X.K X.mg X.base k x f g) (hr : Room j X.A) (hk : k + 1 ≤ j) (hg : Gl X x) (ha : PA X [e1, e2] (tCons t1 (tCons t2 tNil)))
    (hdb : (x == ("__debug__" : Str)) = false := by decide) (he : starEach [e1, e2] X.env = (false, eval e1 X.env) :: starEach [e2] X.env := by rfl) (hpl : (backTo pos (starEach [e2] X.env)).any (·.1) = false := by rfl) :
    PS X (.Raise (some (.Call (.Name x p) [e1, e2] [] pos)) none pos') (fun _ σ H => t1 σ H fun y H1 => t2 σ H1 fun z H2 => rMk2 K mg x f g σ y z H2 fun cls d H' => W cls d σ H') := by
  subst hK hmg
  exact ps_raise hcm tk (pmk_new2 c hr hk hg ha hdb he hpl)
end
end XB
set_option Elab.async false
set_option linter.all false
set_option maxRecDepth 100000
set_option maxHeartbeats 4000000
/-! own classes: operators, items, lengths told by their methods -/
namespace XB
open PySem PySem.Spec PyProof.Rows L2
section
variable {X : Cx} {CX : CXT} {k : Nat} {C f : Addr} {fd : FuncData} {ps : List Str} {sp : Sp} {E : XK}
/-- a def called on values, in the model's words -/
theorem run_def (F : FnOk X.prog X.w X.K X.mg X.base CX k f fd ps sp) (hr : Room k X.A) (hb : L2.Binds X.K fd ps []) (hx : Passes CX X E) {pins : List (Addr × Obj)} {σ : L2.St} {H : Hp} {s : Shared} (I : Inv X pins σ H s) {us : List Value} {vs : List V} (hv : Vals vs us) {Q : VK} (h : sp vs H Q E) :
    wpAny (model X.prog X.w) X.A (call (.ref f) us) (EP X pins σ Q) X.xe s := by
  have hl := F.len vs H Q E h
  have b := hb s us I.kIn (by rw [List.append_nil, ← hv.length]; exact hl)
  rw [List.append_nil] at b
  refine wpAny_call (codeAny_mono (F.run _ X.stack _ _ ⟨us, []⟩ us _ Q E hr I.env0 b hv h) ?_)
  rintro (er | fl) s' hq'
  · exact hx pins σ _ _ er s' I hq'
  · cases fl with
    | ret u =>
      obtain ⟨v, H2, os2, bare2, un2, hok2, rv, q2⟩ := hq'
      exact ⟨v, H2, I.call' (ch := []) os2 un2 hok2 bare2 (fun b z => absurd z (by simp)), rv, q2⟩
    | next => exact False.elim hq'
    | brk => exact False.elim hq'
    | cont => exact False.elim hq'
/-- the same, one unit deeper: within a built-in -/
theorem run_at {A' : Around} (hfr : A'.frames = X.A.frames) (F : FnOk X.prog X.w X.K X.mg X.base CX k f fd ps sp) (hr : Room k X.A) (hb : L2.Binds X.K fd ps []) (hx : Passes CX X E) {pins : List (Addr × Obj)} {σ : L2.St} {H : Hp} {s : Shared} (I : Inv X pins σ H s) {us : List Value} {vs : List V} (hv : Vals vs us) {Q : VK} (hr1 : Room k A') (h : sp vs H Q E) :
    wpAny (model X.prog X.w) A' (call (.ref f) us) (EP X pins σ Q) X.xe s := by
  have hl := F.len vs H Q E h
  have b := hb s us I.kIn (by rw [List.append_nil, ← hv.length]; exact hl)
  rw [List.append_nil] at b
  have e0 := I.env0
  have e1 : Env0 X.prog X.w X.K X.mg X.base A' X.stack s H := ⟨hfr.trans e0.frames, e0.mod, e0.bs, e0.bsz, e0.funs, e0.frf, e0.hok, e0.bare⟩
  refine wpAny_call (codeAny_mono (F.run _ X.stack _ _ ⟨us, []⟩ us _ Q E hr1 e1 b hv h) ?_)
  rintro (er | fl) s' hq'
  · exact hx pins σ _ _ er s' I hq'
  · cases fl with
    | ret u =>
      obtain ⟨v, H2, os2, bare2, un2, hok2, rv, q2⟩ := hq'
      exact ⟨v, H2, I.call' (ch := []) os2 un2 hok2 bare2 (fun b z => absurd z (by simp)), rv, q2⟩
    | next => exact False.elim hq'
    | brk => exact False.elim hq'
    | cont => exact False.elim hq'
theorem run_in1 (F : FnOk X.prog X.w X.K X.mg X.base CX k f fd ps sp) (hr : Room k X.A) (hb : L2.Binds X.K fd ps []) (hx : Passes CX X E) {pins : List (Addr × Obj)} {σ : L2.St} {H : Hp} {s : Shared} (I : Inv X pins σ H s) {us : List Value} {vs : List V} (hv : Vals vs us) {Q : VK} (hr1 : Room k X.A.in1) (h : sp vs H Q E) :
    wpAny (model X.prog X.w) X.A.in1 (call (.ref f) us) (EP X pins σ Q) X.xe s := run_at (A' := X.A.in1) rfl F hr hb hx I hv hr1 h
theorem Room.in1 {k j : Nat} {A : Around} (h : Room j A) (hk : k + 1 ≤ j) : Room k A.in1 := ⟨h.hd, by have := h.dp; show A.depth + 3 * k + 5 < recursionLimit; omega, by have := h.un; show A.units + 1 + 16 * k + 200 < cLine; omega⟩
theorem ins_at {pins : List (Addr × Obj)} {σ : L2.St} {H : Hp} {s : Shared} {a C dx : Addr} {fs : List (Str × V)} (I : Inv X pins σ H s) (h : H a = some (.ins C dx fs)) : ∃ ox od, PySem.W.InstAt s.heap a ox C od := by
  obtain ⟨ox, od, h1, _⟩ := StX.insC_at I (.inr ⟨dx, fs, h⟩)
  exact ⟨ox, od, h1⟩
theorem cmpBack {Q : VK} {pins : List (Addr × Obj)} {σ : L2.St} {u : Value} {s' : Shared} (h : EP X pins σ Q u s') : PySem.W.CmpBack (EP X pins σ Q) u s' := by
  obtain ⟨v, H', I, r, q⟩ := id h
  cases u with
  | notImplemented => cases v <;> first | (cases r; done) | (obtain ⟨_, r⟩ := r; cases r; done)
  | _ => exact h
theorem looks_ins {M : Model} {h : Heap} {b C : Addr} {oy : Obj} {oe : Option Obj} (ib : PySem.W.InstAt h b oy C oe) : PySem.W.Looks M h (typeOf (.ref b)) (.ref C) := by
  intro A Q E s keep hq
  have hg := keep _ _ ib.at_
  unfold typeOf
  repeat (first | with_reducible refine wpAny_loadPart_at hg ?_ | wp_step)
  rw [ib.cls]
  exact hq
/-- two things of an own class, joined by its operator -/
def rOwn2 (C : Addr) (sp : Sp) (E : XK) : R2 := fun x y H Q => ∃ a dx fs b dy gs, x = .ref a ∧ y = .ref b ∧ H a = some (.ins C dx fs) ∧ H b = some (.ins C dy gs) ∧ sp [x, y] H Q E
theorem op_own2 {op : Operator} (sf : PySem.W.selfFirst X.K C = true) (M : Meth X.K C (dunder op.info.snd) f) (F : FnOk X.prog X.w X.K X.mg X.base CX k f fd ps sp) (hr : Room k X.A) (hb : L2.Binds X.K fd ps []) (hx : Passes CX X E) : OpR X (binaryOp op) (rOwn2 C sp E) := by
  intro pins s σ H x y v u Q I rx ry h
  obtain ⟨a, dx, fs, b, dy, gs, rfl, rfl, ha, hbb, q⟩ := h
  obtain rfl : v = .ref a := rx
  obtain rfl : u = .ref b := ry
  obtain ⟨ox, od, ia⟩ := ins_at I ha
  obtain ⟨oy, oe, ib⟩ := ins_at I hbb
  obtain ⟨m, fr⟩ := I.fr
  refine PySem.W.binop_K fr I.mod.kin ia ?_ sf M.at_ M.fn (wpAny_mono (run_def F hr hb hx I (show Vals [V.ref a, V.ref b] [Value.ref a, Value.ref b] from .cons rfl (.cons rfl .nil)) q) (fun u' s' h' => cmpBack h') fun e s' he => he)
  exact looks_ins ib
/-- an item of a thing of an own class -/
def rOwnIx (C : Addr) (sp : Sp) (E : XK) : R2 := fun x y H Q => ∃ a dx fs, x = .ref a ∧ H a = some (.ins C dx fs) ∧ sp [x, y] H Q E
theorem entry_subscript : entryFor table "lifetime.subscript" = some Builtin.«lifetime.subscript» := entryFor_of_fast (id (Eq.refl (fastTable "lifetime.subscript")))
theorem callSp_own {A : Around} {pins : List (Addr × Obj)} {σ : L2.St} {H : Hp} {s : Shared} {a dx : Addr} {fs : List (Str × V)} {name : Str} {args : List Value} {Q : Option Value → Shared → Prop} {Ex : Value → Shared → Prop} (I : Inv X pins σ H s) (ha : H a = some (.ins C dx fs)) (M : Meth X.K C name f)
    (h : wpAny (model X.prog X.w) A (call (.ref f) (.ref a :: args)) (fun v => Q (some v)) Ex s) : wpAny (model X.prog X.w) A (callSpecial? (.ref a) name args) Q Ex s := by
  obtain ⟨ox, od, ia⟩ := ins_at I ha
  unfold callSpecial? specialOf
  refine wpAny_bind (wpAny_bind (looks_ins ia A _ _ s (fun _ _ z => z) ?_))
  refine PySem.W.looks_findIn I.kIn M.at_ A _ _ s (fun _ _ z => z) ?_
  refine wpAny_holding (wpAny_bind (PySem.W.bind_fn I.kIn (.ref a) (by
    have := M.fn
    unfold PySem.W.isFn at this
    exact eq_of_beq this) A _ _ s (fun _ _ z => z) ?_))
  refine wpAny_bind (thn h fun v s' q => ?_)
  exact wpAny_pure q
theorem getitemPy_own {A : Around} {pins : List (Addr × Obj)} {σ : L2.St} {H : Hp} {s : Shared} {a dx : Addr} {fs : List (Str × V)} {Q : Bool → Shared → Prop} {Ex : Value → Shared → Prop} (I : Inv X pins σ H s) (ha : H a = some (.ins C dx fs)) (M : Meth X.K C "__getitem__" f) {oc : Value} {od : Option Addr} {fdd : FuncData} {osl : Array (Option Value)} (lk : X.K.lookup f = some ⟨oc, od, .func fdd, osl⟩)
    (h : Q true s) : wpAny (model X.prog X.w) A (getitemInPython (.ref a)) Q Ex s := by
  obtain ⟨ox, od, ia⟩ := ins_at I ha
  unfold getitemInPython specialOf
  refine wpAny_bind (wpAny_bind (looks_ins ia A _ _ s (fun _ _ z => z) ?_))
  refine PySem.W.looks_findIn I.kIn M.at_ A _ _ s (fun _ _ z => z) ?_
  refine wpAny_bind (wpAny_load (I.kIn _ _ lk) ?_)
  exact wpAny_pure h
theorem pe_ixOwn {j : Nat} {a b : Expr} {ta tb : TE} {pos : Pos} (M : Meth X.K C "__getitem__" f) {oc : Value} {od : Option Addr} {fdd : FuncData} {osl : Array (Option Value)} (lk : X.K.lookup f = some ⟨oc, od, .func fdd, osl⟩) (F : FnOk X.prog X.w X.K X.mg X.base CX k f fd ps sp) (hr : Room j X.A) (hk : k + 1 ≤ j) (hb : L2.Binds X.K fd ps []) (hx : Passes CX X E)
    (ha : PE X a ta) (hbb : PE X b tb) (hsl : ∀ o i, subscripted b true o i = runValue (Code.builtin "lifetime.subscript" ⟨[o, i], []⟩)) (hlt : ∀ o r, letTemporaryGo a o r = pure ()) : PE X (.Subscript a b pos) (tOp (rOwnIx C sp E) ta tb) := by
  constructor
  intro pins s σ H Q I h
  rw [eval_Subscript]
  refine wpAny_bind (thn (ha.run pins s σ H _ I h) ?_)
  rintro v s1 ⟨x, H1, I1, rx, h1⟩
  refine wpAny_bind (wpAny_holding (thn (hbb.run pins s1 σ H1 _ I1 h1) ?_))
  rintro u s2 ⟨y, H2, I2, ry, h2⟩
  obtain ⟨p, dx, fs, rfl, hp, q⟩ := h2
  obtain rfl : v = .ref p := rx
  refine wpAny_bind (wpAny_standAt ?_)
  refine wpAny_bind (getitemPy_own I2 hp M lk ?_)
  rw [hsl]
  refine wpAny_bind ?_
  have g : wpAny (model X.prog X.w) (X.A.under (Code.builtin "lifetime.subscript" ⟨[.ref p, u], []⟩)) (call (.ref f) [.ref p, u]) (EP X pins σ Q) X.xe s2 := run_at (A' := X.A.under (Code.builtin "lifetime.subscript" ⟨[.ref p, u], []⟩)) rfl F (hr.mono (by omega)) hb hx I2 (show Vals [V.ref p, y] [Value.ref p, u] from .cons rfl (.cons ry .nil)) (Room.in1 hr hk) q
  refine wpAny_runValue (codeAny_builtin entry_subscript ?_)
  unfold Builtin.«lifetime.subscript»
  refine wpAny_bind (callSp_own I2 hp M (thn g ?_))
  intro v s3 hv
  refine wpAny_pure ?_
  show wpAny _ _ _ _ _ _
  rw [hlt]
  exact wpAny_bind (wpAny_pure (wpAny_pure hv))
/-- the length of a thing of an own class -/
theorem call_ownLen {j : Nat} (M : Meth X.K C "__len__" f) (F : FnOk X.prog X.w X.K X.mg X.base CX k f fd ps sp) (hr : Room j X.A) (hk : k + 1 ≤ j) (hb : L2.Binds X.K fd ps []) (hx : Passes CX X E) : CallR X (.builtin "len") (fun xs H Q => ∃ a dx fs, xs = [.ref a] ∧ H a = some (.ins C dx fs) ∧ sp xs H (fun v H' => ∃ n : Nat, v = .int n ∧ n < 2 ^ 63 ∧ Q (.int n) H') E) := by
  intro pins s σ H xs us Q I rxs h
  obtain ⟨a, dx, fs, rfl, ha, q⟩ := h
  obtain ⟨u, rfl, ru⟩ := rxs.one
  obtain rfl : u = .ref a := ru
  obtain ⟨ox, od, ia⟩ := ins_at I ha
  obtain ⟨m, fr⟩ := I.fr
  refine PySem.W.len_K fr I.mod.kin ia M.at_ M.fn (wpAny_mono (run_in1 F (hr.mono (by omega)) hb hx I rxs (Room.in1 hr hk) q) (fun u' s' h' => ?_) fun e s' he => he)
  obtain ⟨v, H', I', r, n, rfl, hn, q'⟩ := h'
  obtain ⟨t, rfl⟩ := r
  exact ⟨⟨by omega, by omega⟩, .int n, H', I'.tok _, ⟨_, rfl⟩, q'⟩
end
end XB
set_option Elab.async false
set_option linter.all false
set_option maxRecDepth 100000
set_option maxHeartbeats 4000000
/-! promises of defs that may ask for repr: no repr runs around them -/
namespace XB
open PySem PySem.Spec PyProof.Rows L2
section
variable {P : Program} {w : World} {K : PySem.W.Frag} {mg : Str → Option Value} {base : Heap} {CX : CXT}
/-- a promise that is kept where no repr runs around -/
structure FnG (P : Program) (w : World) (K : PySem.W.Frag) (mg : Str → Option Value) (base : Heap) (CX : CXT) (lev : Nat) (at_ : Addr) (fdat : FuncData) (pars : List Str) (sp : Sp) : Prop where
  many : ∀ vs H Q E, sp vs H Q E → vs.length = pars.length
  goes : ∀ {A : Around} {outer : List Env} {s : Shared} {H : Hp} {args : Args} {us : List Value} {vs : List V} {Q : VK} {E : XK}, A.guards = some [] → Room lev A → Env0 P w K mg base A outer s H →
    BindsTo s fdat args (pars.zip us) → Vals vs us → sp vs H Q E → codeAny (model P w) A (.call (.ref at_) args) (CR CX outer P w H s Q E) s
theorem FnOk.toG {k : Nat} {f : Addr} {fd : FuncData} {ps : List Str} {sp : Sp} (F : FnOk P w K mg base CX k f fd ps sp) : FnG P w K mg base CX k f fd ps sp :=
  ⟨F.len, fun _ hr e0 hb r h => F.run _ _ _ _ _ _ _ _ _ hr e0 hb r h⟩
theorem FnG.mono {j k : Nat} {f : Addr} {fd : FuncData} {ps : List Str} {sp : Sp} (F : FnG P w K mg base CX j f fd ps sp) (h : j ≤ k) : FnG P w K mg base CX k f fd ps sp :=
  ⟨F.many, fun hg hr => F.goes hg (hr.mono h)⟩
/-- the def's body, where no repr runs around -/
theorem fng_of {k : Nat} {f : Addr} {nm ql : Str} {pars : Arguments} {bd : List Stmt} {sc : Scope} {d1 d2 d3 d4 cdv d5 d6 : Value} {o1 o2 : Option Addr} {osl : Array (Option Value)} {N ps : List Str} {sp : Sp}
    (lk : K.lookup f = some ⟨d6, o2, .func (PySem.W.fnOf nm ql pars bd sc d1 d2 d3 d4 o1 cdv d5), osl⟩) (hcd : PySem.W.codeIn K cdv ql = true) (S : FnScope N ps sc) (len : ∀ vs H Q E, sp vs H Q E → vs.length = ps.length)
    (hbody : ∀ (A : Around) (outer : List Env) (s : Shared) (H : Hp) (vs : List V) (Q : VK) (E : XK), A.guards = some [] → Room k (A.deeper (envOfC ql sc s.heap.objs.size f cdv)) → sp vs H Q E →
      ∃ t, PSs (cxOf CX P w K mg base N ql sc f cdv A outer s H E) bd t ∧ t { nx := fun _ H' => Q .non H', rt := Q } (start N vs) H) :
    FnG P w K mg base CX (k + 1) f (PySem.W.fnOf nm ql pars bd sc d1 d2 d3 d4 o1 cdv d5) ps sp := by
  constructor
  · exact len
  · intro A outer s H args us vs Q E hgu hr e0 hbd rel hsp
    have stays : ∀ b o, base.get? b = some o → s.heap.get? b = some o := fun b o e => (e0.bs b o e).1
    have KX : K.In s.heap := e0.mod.kin.keeps stays
    have kinds : ∀ y ∈ ps.zip us, sc.names.lookup y.1 = some .local ∨ (sc.names.lookup y.1 = some .cell ∧ ((cellsFrom (s.heap.objs.size + 1) sc.names []).lookup y.1).isSome = true) := by
      rintro ⟨x, v⟩ hy
      exact (S.par x (List.of_mem_zip hy).1).imp id fun q => ⟨q, PySem.W.cellsFrom_some _ _ _ (.inl q)⟩
    refine codeAny_call_function hr.depth (KX _ _ lk) rfl S.co S.gen rfl (PySem.W.codeRec_of KX hcd) (hbd _ _ _ _ ?_)
    refine wpAny_newFunctionEnv_cells S.kind kinds (fun env he s1 x => ?_)
    cases he
    refine ⟨(e0.mod.nolimit.keeps stays).keeps x.toInCall.keep, codeAny_func ?_⟩
    obtain ⟨t, ht, hq⟩ := hbody A outer s H vs Q E hgu (hr.deeper _) hsp
    have I := inv_start (CX := CX) (mg := mg) (base := base) (P := P) (w := w) (E := E) (cd := cdv) (f := f) (qual := ql) S hr.hd e0 (len _ _ _ _ hsp) rel x
    refine wpAny_mono (ht.run [] s1 _ H _ I hq) ?_ (fun _ _ z => z)
    rintro fl s' hs
    rcases fl with u | _ | _ | _ <;> first
      | (obtain ⟨v, σ', H', J, rv, q⟩ := hs; exact ⟨v, H', J.os, J.bare, J.base, J.hok, rv, q⟩)
      | (obtain ⟨σ', H', J, q⟩ := hs; first | exact ⟨V.non, H', J.os, J.bare, J.base, J.hok, rfl, q⟩ | exact False.elim q)
/-- a def that asks for repr, by its name -/
structure Cg (P : Program) (w : World) (K : PySem.W.Frag) (mg : Str → Option Value) (base : Heap) (CX : CXT) (k : Nat) (x : Str) (sp : Sp) : Prop where
  ex : ∃ (f : Addr) (fd : FuncData) (ps : List Str), FnG P w K mg base CX k f fd ps sp ∧ mg x = some (.ref f) ∧ PySem.W.keepIn K (.ref f) = true ∧ Binds K fd ps []
theorem Cl.toG {k : Nat} {x : Str} {sp : Sp} (c : Cl P w K mg base CX k x sp) : Cg P w K mg base CX k x sp := by
  obtain ⟨f, fd, ps, F, r⟩ := c.ex
  exact ⟨f, fd, ps, FnOk.toG F, r⟩
theorem cg0 {x : Str} {st : Stmt} {N ps : List Str} {k : Nat} {sp : Sp} (D : Dn K mg x st)
    (hb : ∀ (kV doc pm : Value) (an : Option Addr) (cdv ct : Value) (us : List Value), us.length = ps.length → bindArgs (PySem.W.fnOf x x (defArgs st) (defBody st) (defScope st) .none kV doc pm an cdv ct) ⟨us, []⟩ = pure (ps.zip us))
    (S : FnScope N ps (defScope st)) (len : ∀ vs H Q E, sp vs H Q E → vs.length = ps.length)
    (hbody : ∀ (f : Addr) (cdv : Value) (A : Around) (outer : List Env) (s : Shared) (H : Hp) (vs : List V) (Q : VK) (E : XK), (A.deeper (envOfC x (defScope st) s.heap.objs.size f cdv)).guards = some [] → Room k (A.deeper (envOfC x (defScope st) s.heap.objs.size f cdv)) → sp vs H Q E →
      ∃ t, PSs (cxOf CX0 P w K mg base N x (defScope st) f cdv A outer s H E).nox (defBody st) t ∧ t { nx := fun _ H' => Q .non H', rt := Q } (start N vs) H) : Cg P w K mg base CX0 (k + 1) x sp := by
  obtain ⟨f, fd, F, hm⟩ := D.ex
  obtain ⟨oc, od, kV, doc, pm, an, cdv, ct, osl, rfl, lk, hcd⟩ := id F.ex
  refine ⟨f, _, ps, fng_of lk hcd S len (fun A outer s H vs Q E hg hr h => ?_), hm, F.kp, F.binds hb⟩
  obtain ⟨t, ht, q⟩ := hbody f cdv A outer s H vs Q E hg hr h
  exact ⟨t, ht.nox, q⟩
end
section
variable {X : Cx} {k j : Nat} {x : Str} {sp : Sp} {p pos : Pos} {e : Expr} {es : List Expr} {t : TA}
theorem pe_g (c : Cg X.prog X.w X.K X.mg X.base CX0 k x sp) (hgu : X.A.guards = some []) (hr : Room j X.A) (hk : k ≤ j) (hg : Gl X x) (ha : PA X (e :: es) t)
    (hdb : (x == ("__debug__" : Str)) = false := by decide) (he : starEach (e :: es) X.env = (false, eval e X.env) :: starEach es X.env := by rfl) (hpl : (backTo pos (starEach es X.env)).any (·.1) = false := by rfl) :
    PE X (.Call (.Name x p) (e :: es) [] pos) (tCall sp [] E0 t) := by
  obtain ⟨f, fd, ps, F, hm, kp, b⟩ := c.ex
  constructor
  intro pins s σ H Q I h
  refine wpAny_Call_Name_kw (ld_glob I hg hm ?_ hdb)
  refine PySem.W.callWith_K (h₀ := X.base) I.ok.mod.kin kp (thn (ha.run pos pins s σ H _ I h) ?_) he hpl
  rintro us s1 ⟨vs, H1, I1, r, q⟩
  have q' : sp vs H1 Q E0 := by
    rw [List.append_nil] at q
    exact q
  have hl : us.length = ps.length := by
    rw [← r.length]
    exact F.many _ _ _ _ q'
  have bb := b s1 us I1.kIn (by rw [List.append_nil]; exact hl)
  rw [List.append_nil] at bb
  refine ⟨I1.kIn, wpAny_call (codeAny_mono (F.goes (outer := X.stack) (Q := Q) (E := E0) hgu (hr.mono hk) I1.env0 bb r q') ?_)⟩
  rintro (er | fl) s' hq
  · exact hq.elim
  · rcases fl with u | _ | _ | _ <;> first
      | exact I1.after hq
      | exact False.elim hq
/-- repr of data -/
theorem call_reprD (hgu : X.A.guards = some []) (hu : X.A.units + 70 < cLine) : CallR X (.builtin "repr") (fun xs H Q => ∃ x d, xs = [x] ∧ Dp X.K H x d ∧ d.showable = true ∧ d.hasDict = false ∧ d.depth ≤ 64 ∧ d.shown.length ≤ sizeLine ∧ Q (.str d.shown) H) := by
  intro pins s σ H xs us Q I r h
  obtain ⟨x, d, rfl, hd, hs, hnd, hdp, hz, q⟩ := h
  cases r with
  | cons rx rr =>
    cases rr
    obtain ⟨as, hr⟩ := Dp.reads I d x _ hd rx
    cases hr with
    | none => exact PySem.P.repr_of_none ⟨.str _, H, I.tok _, ⟨_, rfl⟩, q⟩
    | bool b => exact PySem.P.repr_of_bool ⟨.str _, H, I.tok _, ⟨_, rfl⟩, q⟩
    | int i t => exact PySem.P.repr_of_int (of_decide_eq_true hs) ⟨.str _, H, I.tok _, ⟨_, rfl⟩, q⟩
    | str z t => exact PySem.P.repr_of_str ⟨.str _, H, I.tok _, ⟨_, rfl⟩, q⟩ hz
    | list h1 h2 h3 h4 => exact repr_of_reads' (.list h1 h2 h3 h4) hs (fun z => by rw [hnd] at z; cases z) hgu (by omega) (fun _ _ e => e) (fun h' u tk k => ⟨.str _, H, I.kept k, ⟨_, rfl⟩, q⟩) hz
    | tuple h1 h2 h3 h4 => exact repr_of_reads' (.tuple h1 h2 h3 h4) hs (fun z => by rw [hnd] at z; cases z) hgu (by omega) (fun _ _ e => e) (fun h' u tk k => ⟨.str _, H, I.kept k, ⟨_, rfl⟩, q⟩) hz
    | dict h1 h2 h3 h4 h5 => cases hnd
end
end XB
set_option Elab.async false
set_option linter.all false
set_option maxRecDepth 100000
set_option maxHeartbeats 4000000
/-! further rules: enumerate of a tuple, min and max of two texts, the order of pairs of texts -/
namespace PySem
open Sem (wp)
open AutoSeq1 (wpAny_loadPart')
theorem XBmeets_enumT (l : Addr) (items : Array Value) :
    Meets (Builtin.«enumerate.__new__» ⟨[.type "enumerate", .ref l], []⟩) (fun _ R s => s.heap.IsTuple l items ∧
      R (.ok (.ret (.ref (s.heap.push { cls := .type "tuple_iterator", data := .fields #[.ref l, .int 0 0] }).objs.size)))
        { s with heap := (s.heap.push { cls := .type "tuple_iterator", data := .fields #[.ref l, .int 0 0] }).push { cls := .type "enumerate", data := .fields #[.none, .bool false, .ref s.heap.objs.size, rawInt 0, .none, .none] } }) :=
  .of_wp fun prog w A R s ⟨hT, hR⟩ => by
    obtain ⟨hp, gg, dd, tk, os⟩ := s
    have subE := sub_enumerate
    have hT' : Heap.IsTuple (Shared.heap ⟨hp, gg, dd, tk, os⟩) l items := hT
    have it_ : ∀ {A' : Around} {E : Value → Shared → Prop} {Q : Value → Shared → Prop}, Q (.ref hp.objs.size) ⟨hp.push { cls := .type "tuple_iterator", data := .fields #[.ref l, .int 0 0] }, gg, dd, tk, os⟩ → wpAny (model prog w) A' (pyIter (.ref l)) Q E ⟨hp, gg, dd, tk, os⟩ :=
      fun q => wpAny_pyIter_tuple hT' q
    wp_walk using it_
    refine wpAny_stack_any fun st => wpAny_pure ?_
    split
    · rename_i c _ _ _ _ _
      cases (c == Value.type "enumerate") <;> (wp_walk using it_; exact ⟨_, rfl, hR⟩)
    · wp_walk using it_
      exact ⟨_, rfl, hR⟩
section
variable {prog : Program} {w : World} {A : Around} {E : Value → Shared → Prop} {s : Shared}
theorem XBcall_enumT {l : Addr} {items : Array Value} {Q : Value → Shared → Prop} (hT : s.heap.IsTuple l items)
    (h : ∀ h', IsEnum h' (s.heap.objs.size + 1) s.heap.objs.size 0 .none → h'.IsTupleIter s.heap.objs.size l 0 → (∀ b o, s.heap.get? b = some o → h'.get? b = some o) → Q (.ref (s.heap.objs.size + 1)) { s with heap := h' }) :
    wpAny (model prog w) A (call (.type "enumerate") [.ref l]) Q E s := by
  refine callType_new F.called_enumerate (by decide) (F.typeCall_enumerate_1 _) (F.newCall_enumerate_1 _) (fun obj => F.args_object_init_2 obj _) F.entry_enumerate_new (XBmeets_enumT l items) ⟨hT, ?_⟩
  have hz : (s.heap.push { cls := .type "tuple_iterator", data := .fields #[.ref l, .int 0 0] }).objs.size = s.heap.objs.size + 1 := Heap.size_push ..
  show _ ∧ _
  rw [hz]
  have he := Heap.get?_push_size (s.heap.push { cls := .type "tuple_iterator", data := .fields #[.ref l, .int 0 0] }) (o := { cls := .type "enumerate", data := .fields #[.none, .bool false, .ref s.heap.objs.size, rawInt 0, .none, .none] }) rfl
  rw [hz] at he
  exact ⟨⟨_, he, rfl⟩, h _ he ⟨_, Heap.get?_push_of_some _ (Heap.get?_push_size _ rfl), rfl, rfl⟩ fun b o x => Heap.get?_push_of_some _ (Heap.get?_push_of_some _ x)⟩
end
end PySem
namespace XB
open PySem PySem.Spec PyProof.Rows L2
/-- the tuple at a, each item in a new pair with its number -/
def IeT (K : PySem.W.Frag) (a : Addr) : It where
  go := fun i H => ∃ (xs : List V) (x : V), SqT K H a xs ∧ xs[i]? = some x
  yld := fun i H v H' => ∃ T x, v = .ref T ∧ H T = none ∧ H' = upd H T (.tup [.int (i : Nat), x]) ∧ ∀ xs, SqT K H a xs → xs[i]? = some x
  stop := fun i H => ∃ xs : List V, SqT K H a xs ∧ xs.length = i
theorem turn_IeT {P : Program} {w : World} {K : PySem.W.Frag} {elts : List Expr} {kk : Nat} {tpos : Pos} (a e it : Addr) :
    Turn P w K (.Tuple elts kk tpos) (IeT K a) [e, it] e (fun i h => (∃ old, IsEnum h e it ((i : Nat) : Int) old) ∧ h.IsTupleIter it a i ∧ e ≠ it ∧ a ≠ it ∧ a ≠ e) where
  mem := List.mem_cons_self
  obj := fun i h st b hb => by
    obtain ⟨⟨old, he⟩, ⟨o, ho, hc, hd⟩, _⟩ := st
    rcases List.mem_cons.mp hb with rfl | hb
    · exact ⟨_, he, fun v q => nomatch q⟩
    · rw [List.mem_singleton.mp hb]
      exact ⟨o, ho, fun v q => by rw [hd] at q; cases q⟩
  keep := fun i h h' ⟨⟨old, he⟩, hi, r⟩ k => ⟨⟨old, k e List.mem_cons_self _ he⟩, hi.at fun o q => k it (by simp) o q, r⟩
  item := by
    intro X hP hw hK hc i pins s σ H E I hf st hg
    subst hP hw hK
    obtain ⟨⟨old, he⟩, hit, hne, nai, nae⟩ := st
    obtain ⟨xs, x, hq, hx⟩ := hg
    obtain ⟨its, rv, p, hz⟩ := I.tuple hq
    obtain ⟨u, hu, ru⟩ := rv.get hx
    have hel : e < s.heap.objs.size := Heap.lt_size he
    have hil : it < s.heap.objs.size := by
      obtain ⟨_, q, _⟩ := hit
      exact Heap.lt_size q
    have hlen : i < its.toArray.size := by
      rw [List.size_toArray]
      exact (List.getElem?_eq_some_iff.mp hu).1
    refine wpAny_pyNext_enum_itemD (Draws.tuple (prog := X.prog) (w := X.w) (A := X.A.in1) (I.ok.hd hc) it a nai its.toArray) he ⟨hit, p⟩ hlen hne (by simp [hne]; exact fun z => nae z.symm) fun v h' tk hv ho hs hT hsz hk => ?_
    have hv' : v = u := by
      rw [List.getElem?_toArray, hu] at hv
      exact (Option.some.inj hv).symm
    subst hv'
    refine ⟨_, rfl, wpAny_letOwnedTupleGo_enum (s := { s with heap := h', toks := tk + 1 }) ho fun h'' he' sb => ?_⟩
    have hT2 : h''.get? s.heap.objs.size = some { cls := .type "tuple", data := .seq #[.int i tk, v] } := (sb.2 _ (Nat.ne_of_gt hel)).trans hT
    have new : ObjOk X.prog X.w (upd H s.heap.objs.size (.tup [.int (i : Nat), x])) h'' s.heap.objs.size (.tup [.int (i : Nat), x]) :=
      ⟨by show 2 ≤ sizeLine; decide, [.int i tk, v], .cons ⟨_, rfl⟩ (.cons ru .nil), ⟨_, hT2, rfl, _, rfl⟩⟩
    have I1 := I.turnedNew (t' := tk + 1) (ch := [e, it]) (fun b ob hb q => (sb.2 b (fun z => hb (by simp [z]))).trans (hk b ob (fun z => hb (by simp [z])) (fun z => hb (by simp [z])) q)) hf (Nat.le_refl _) new
    refine ⟨.ref s.heap.objs.size, _, I1, rfl, ⟨_, x, rfl, I.hok.fresh (Nat.le_refl _), rfl, fun ys hy => by rw [I.tuple_inj hy hq]; exact hx⟩, ⟨⟨v, ?_⟩, hs.1.at fun o q => (sb.2 it (Ne.symm hne)).trans q, hne, nai, nae⟩, fun b hb => ?_⟩
    · rw [show ((i + 1 : Nat) : Int) = (i : Int) + 1 by omega]
      exact he'
    · have hb' : b < s.heap.objs.size := by
        rcases List.mem_cons.mp hb with rfl | z
        · exact hel
        · rw [List.mem_singleton.mp z]
          exact hil
      rw [upd_ne (Nat.ne_of_lt hb')]
      exact (hf b hb).1
  done := by
    intro X hP hw hK hc i pins s σ H E I hf st hg
    subst hP hw hK
    obtain ⟨⟨old, he⟩, hit, hne, nai, nae⟩ := st
    obtain ⟨xs, hq, hx⟩ := hg
    obtain ⟨its, rv, p, hz⟩ := I.tuple hq
    obtain ⟨f0, f1, f2, f3, f4, f5⟩ := hf it (by simp)
    have hsz : its.toArray.size = i := by
      rw [List.size_toArray, ← rv.length]
      exact hx
    refine wpAny_pyNext_enum_endD (Draws.tuple (prog := X.prog) (w := X.w) (A := X.A.in1) (I.ok.hd hc) it a nai its.toArray) he (by rw [hsz]; exact ⟨hit, p⟩) fun h' eb => ⟨rfl, I.turned (t' := s.toks) (fun b o hb q => eb b o hb q) f0 f1 f3 f4 f5⟩
  self := fun A i s Q E st h => let ⟨⟨_, he⟩, _⟩ := st; wpAny_pyIter_enum he h
def iEnT (K : PySem.W.Frag) (ta : TA) : TI := fun σ H R => ta σ H fun vs H1 => ∃ a xs, vs = [.ref a] ∧ SqT K H1 a xs ∧ R (IeT K a) H1
/-- enumerate(t), t a tuple, to a target of several names -/
theorem pi_enumT {X : Cx} {e : Expr} {ta : TA} {p pos tpos : Pos} {elts : List Expr} {kk : Nat} (hg : Gl X "enumerate") (hm : X.mg "enumerate" = none) (ha : PA X [e] ta) (hs : starEach [e] X.env = [(false, eval e X.env)] := by rfl) :
    PI X (.Tuple elts kk tpos) (.Call (.Name "enumerate" p) [e] [] pos) (iEnT X.K ta) := by
  constructor
  intro pins s σ H R I h
  refine Call_ (ld_blt I hg hm boot_enumerate (PyProof.Rows.callWith_type1 (thn (ha.run pos pins s σ H _ I h) ?_) hs rfl))
  rintro us s1 ⟨vs, H1, I1, r1, a, xs, rfl, hq, q⟩
  cases r1 with
  | cons r rr =>
    cases rr
    cases r
    obtain ⟨its, rv, p', hz⟩ := I1.tuple hq
    refine XBcall_enumT p' fun h' he hit hk => wpAny_pyIter_enum he ?_
    have hal : a < s1.heap.objs.size := by
      obtain ⟨o, e1, _⟩ := p'
      exact Heap.lt_size e1
    have I2 : Inv X pins σ H1 { s1 with heap := h' } := I1.kept (t' := s1.toks) hk
    refine ⟨s1.heap.objs.size + 1, [s1.heap.objs.size + 1, s1.heap.objs.size], _, _, H1, rfl, I2, turn_IeT a (s1.heap.objs.size + 1) s1.heap.objs.size, ⟨⟨.none, he⟩, hit, Nat.succ_ne_self _, Nat.ne_of_lt hal, Nat.ne_of_lt (Nat.lt_succ_of_lt hal)⟩, fun b hb => ?_, q⟩
    have hle : s1.heap.objs.size ≤ b := by
      rcases List.mem_cons.mp hb with rfl | z
      · exact Nat.le_succ _
      · rw [List.mem_singleton.mp z]
        exact Nat.le_refl _
    exact I1.fpOk hle (I1.hok.fresh hle)
theorem walk_IeT {K : PySem.W.Frag} {a : Addr} {xs : List V} : Walk (IeT K a) xs.length (fun H => SqT K H a xs) (YPair (fun i => some (.int (i : Nat))) (fun i => xs[i]?)) := by
  refine ⟨fun i _ hi q => ⟨xs, xs[i], q, by simp [hi]⟩, fun _ q => ⟨xs, q, rfl⟩, fun i H v H' _ q y => ?_⟩
  obtain ⟨T, x, h1, h2, h3, h4⟩ := y
  exact ⟨T, .int (i : Nat), x, h1, h2, h3, rfl, h4 xs q⟩
/-! ### the order of texts -/
/-- the one text ahead of the other -/
def sLt (a b : Str) : Bool := decide (a.cps.toList < b.cps.toList)
theorem cmp_gt {prog : Program} {w : World} {A : Around} {a b : Str} {t u : Tok} : CmpOf prog w A .Gt (fun i v => (#[Value.str a t, Value.str b u] : Array Value)[i]? = some v) (fun i j => sLt ([a, b].getD j a) ([a, b].getD i a)) := fun i j vi vj s Q E hi hj h => by
  rcases i with _ | _ | i <;> rcases j with _ | _ | j <;> simp at hi hj
  all_goals (subst hi; subst hj; exact PySem.P.gt_str h)
theorem cmp_lt {prog : Program} {w : World} {A : Around} {a b : Str} {t u : Tok} : CmpOf prog w A .Lt (fun i v => (#[Value.str a t, Value.str b u] : Array Value)[i]? = some v) (fun i j => sLt ([a, b].getD i a) ([a, b].getD j a)) := fun i j vi vj s Q E hi hj h => by
  rcases i with _ | _ | i <;> rcases j with _ | _ | j <;> simp at hi hj
  all_goals (subst hi; subst hj; exact PyProof.Rows.lt_str h)
section
variable {prog : Program} {w : World} {A : Around} {E : Value → Shared → Prop} {s : Shared}
/-- the pair that min and max lay, walked -/
theorem two_walk {x y : Value} (hh : A.handled = none) {op : CmpOp} {bt : Nat → Nat → Bool} {Q : Value → Shared → Prop} (cmp : CmpOf prog w A.in1 op (fun i v => (#[x, y] : Array Value)[i]? = some v) bt)
    (h : ∀ v h' tk, (#[x, y] : Array Value)[argBest bt 1]? = some v → (∀ c o, s.heap.get? c = some o → h'.get? c = some o) → Q v { s with heap := h', toks := tk }) :
    wpAny (model prog w) A.in1 (pyIter (.ref s.heap.objs.size)) (fun it s₂ => ∃ I fp wr n P St bt, it = .ref I ∧ Walks prog w A.in1 I fp wr n P St ∧ St 0 s₂.heap ∧ (∀ b ∈ fp, b < s₂.heap.objs.size) ∧ 0 < n ∧ CmpOf prog w A.in1 op P bt ∧
      ∀ v h' tk, P (argBest bt (n - 1)) v → (∀ b o, b ∉ wr → s₂.heap.get? b = some o → h'.get? b = some o) → Q v { s₂ with heap := h', toks := tk }) E
      { s with heap := s.heap.push { cls := .type "tuple", data := .seq #[x, y] } } := by
  have hT : (s.heap.push { cls := .type "tuple", data := .seq #[x, y] }).IsTuple s.heap.objs.size #[x, y] := ⟨_, Heap.get?_push_size _ rfl, rfl, 0, rfl⟩
  have hsz : (s.heap.push { cls := .type "tuple", data := .seq #[x, y] }).objs.size = s.heap.objs.size + 1 := Heap.size_push ..
  refine wpAny_pyIter_tuple hT ?_
  refine ⟨(s.heap.push { cls := .type "tuple", data := .seq #[x, y] }).objs.size, [(s.heap.push { cls := .type "tuple", data := .seq #[x, y] }).objs.size, s.heap.objs.size], [(s.heap.push { cls := .type "tuple", data := .seq #[x, y] }).objs.size], 2, _, _, bt, rfl,
    Walks.tuple (A := A.in1) hh _ s.heap.objs.size (by rw [hsz]; exact Nat.ne_of_lt (Nat.lt_succ_self _)) #[x, y], ⟨⟨_, Heap.get?_push_size _ rfl, rfl, rfl⟩, hT.push _⟩, fun c hc => ?_, by decide, cmp, fun v h' tk hP hk => ?_⟩
  · show c < ((s.heap.push _).push _).objs.size
    rw [Heap.size_push, hsz]
    rcases List.mem_cons.mp hc with rfl | hc
    · rw [hsz]
      exact Nat.lt_succ_self _
    · rw [List.mem_singleton.mp hc]
      exact Nat.lt_succ_of_lt (Nat.lt_succ_self _)
  · refine h v h' tk hP fun c o e => hk c o (fun hm => ?_) (Heap.get?_push_of_some _ (Heap.get?_push_of_some _ e))
    have e2 := Heap.lt_size e
    rw [List.mem_singleton.mp hm, hsz] at e2
    exact Nat.lt_irrefl _ (Nat.lt_of_succ_lt e2)
end
section
variable {X : Cx}
theorem call_max2S (hc : X.calm = true) : CallR X (.builtin "max") (fun xs H Q => ∃ i j, xs = [.str i, .str j] ∧ Q (.str (if sLt i j then j else i)) H) := by
  intro pins s σ H xs us Q I r h
  obtain ⟨i, j, rfl, q⟩ := h
  obtain ⟨u, w', rfl, ⟨t, rfl⟩, ⟨t', rfl⟩⟩ := vals2 r
  refine call_max_two (two_walk (I.ok.hd hc) cmp_gt fun v h' tk hv k => ?_)
  refine ⟨_, H, I.kept k, ?_, q⟩
  have e : argBest (fun a b => sLt ([i, j].getD b i) ([i, j].getD a i)) 1 = if sLt i j then 1 else 0 := rfl
  rw [e] at hv
  cases hb : sLt i j
  · rw [hb] at hv
    exact ⟨t, (Option.some.inj hv).symm⟩
  · rw [hb] at hv
    exact ⟨t', (Option.some.inj hv).symm⟩
theorem call_min2S (hc : X.calm = true) : CallR X (.builtin "min") (fun xs H Q => ∃ i j, xs = [.str i, .str j] ∧ Q (.str (if sLt j i then j else i)) H) := by
  intro pins s σ H xs us Q I r h
  obtain ⟨i, j, rfl, q⟩ := h
  obtain ⟨u, w', rfl, ⟨t, rfl⟩, ⟨t', rfl⟩⟩ := vals2 r
  refine call_min_two (two_walk (I.ok.hd hc) cmp_lt fun v h' tk hv k => ?_)
  refine ⟨_, H, I.kept k, ?_, q⟩
  have e : argBest (fun a b => sLt ([i, j].getD a i) ([i, j].getD b i)) 1 = if sLt j i then 1 else 0 := rfl
  rw [e] at hv
  cases hb : sLt j i
  · rw [hb] at hv
    exact ⟨t, (Option.some.inj hv).symm⟩
  · rw [hb] at hv
    exact ⟨t', (Option.some.inj hv).symm⟩
/-- t < u, two pairs of texts -/
theorem op_ltSS (hu : X.A.units + 64 < cLine) : OpR X (compareOp .Lt) (fun x y H Q => ∃ p q a b c d, x = .ref p ∧ y = .ref q ∧ SqT X.K H p [.str a, .str b] ∧ SqT X.K H q [.str c, .str d] ∧ Q (.bl (if a == c then (if b == d then false else sLt b d) else sLt a c)) H) := by
  intro pins s σ H x y v u Q I rx ry h
  obtain ⟨p, q, a, b, c, d, rfl, rfl, hp, hq, h⟩ := h
  cases rx
  cases ry
  obtain ⟨its, r1, t1, _⟩ := I.tuple hp
  obtain ⟨jts, r2, t2, _⟩ := I.tuple hq
  obtain ⟨_, _, rfl, ⟨ta, rfl⟩, ⟨tb, rfl⟩⟩ := vals2 r1
  obtain ⟨_, _, rfl, ⟨tc, rfl⟩, ⟨td, rfl⟩⟩ := vals2 r2
  have L := Ob.RcOp.tuples_lt (A := X.A) (s := s) (e := fun j => [a == c, b == d].getD j false) (r := fun j => [sLt a c, sLt b d].getD j false) t1 t2 (by omega)
    (fun j h1 h2 => by
      rcases j with _ | _ | j
      · exact SeqAt.EqAt.str_str _ _ _ _
      · exact SeqAt.EqAt.str_str _ _ _ _
      · exact absurd h1 (by simp))
    (fun j h1 h2 _ => by
      rcases j with _ | _ | j
      · exact fun _ _ _ _ z => PyProof.Rows.lt_str z
      · exact fun _ _ _ _ z => PyProof.Rows.lt_str z
      · exact absurd h1 (by simp))
  exact L _ _ _ _ ⟨.bl _, H, I, rfl, h⟩
end
end XB
/-! piles as rows read from the last piece on: the action of steps on least piles -/
namespace XM
/-- what is asked of names: which touch, and an order -/
structure Ord (α : Type) [DecidableEq α] where
  tc : α → α → Bool
  lt : α → α → Bool
  refl : ∀ a, tc a a = true
  symm : ∀ a b, tc a b = tc b a
  irr : ∀ a, lt a a = false
  trans : ∀ a b c, lt a b = true → lt b c = true → lt a c = true
  tot : ∀ a b, a ≠ b → lt a b = false → lt b a = true
section
variable {α : Type} [DecidableEq α] (O : Ord α)
abbrev Row (α : Type) := List (α × Int)
/-- a piece of this name comes to lie on top: no other of its name is met, all that it might pass are less -/
def top (a : α) : Row α → Bool
  | [] => true
  | y :: r => if O.tc y.1 a then decide (y.1 ≠ a) else O.lt y.1 a && top a r
def ins (x : α × Int) : Row α → Row α
  | [] => [x]
  | y :: r => if y.1 = x.1 then (if y.2 + x.2 = 0 then r else (x.1, y.2 + x.2) :: r)
    else if O.tc y.1 x.1 then x :: y :: r
    else if O.lt y.1 x.1 && top O x.1 r then x :: y :: r else y :: ins x r
/-- a least pile, from the last piece on -/
def NF : Row α → Prop
  | [] => True
  | y :: r => y.2 ≠ 0 ∧ top O y.1 r = true ∧ NF r
variable {O}
theorem lt_of_not {a b : α} (h : O.tc a b = false) (n : O.lt a b = false) : O.lt b a = true :=
  O.tot a b (fun e => by rw [e, O.refl] at h; cases h) n
theorem lt_asym {a b : α} (h : O.lt a b = true) : O.lt b a = false := by
  cases e : O.lt b a
  · rfl
  · have := O.trans a b a h e
    rw [O.irr] at this
    cases this
theorem ne_of_apart {a b : α} (h : O.tc a b = false) : a ≠ b := fun e => by
  rw [e, O.refl] at h
  cases h
theorem top_same {a : α} {s : Int} {r : Row α} : top O a ((a, s) :: r) = false := by
  unfold top
  rw [if_pos (O.refl a)]
  simp
theorem top_touch {a : α} {y : α × Int} {r : Row α} (h : O.tc y.1 a = true) (n : y.1 ≠ a) : top O a (y :: r) = true := by
  unfold top
  rw [if_pos h]
  simpa using n
theorem top_apart {a : α} {y : α × Int} {r : Row α} (h : O.tc y.1 a = false) : top O a (y :: r) = (O.lt y.1 a && top O a r) := by
  show (if O.tc y.1 a then decide (y.1 ≠ a) else O.lt y.1 a && top O a r) = _
  rw [if_neg (by rw [h]; decide)]
theorem ins_same {a : α} {s u : Int} {r : Row α} : ins O (a, s) ((a, u) :: r) = if u + s = 0 then r else (a, u + s) :: r := by
  unfold ins
  rw [if_pos rfl]
theorem ins_touch {x y : α × Int} {r : Row α} (h : O.tc y.1 x.1 = true) (n : y.1 ≠ x.1) : ins O x (y :: r) = x :: y :: r := by
  unfold ins
  rw [if_neg n, if_pos h]
theorem ins_apart {x y : α × Int} {r : Row α} (h : O.tc y.1 x.1 = false) : ins O x (y :: r) = if O.lt y.1 x.1 && top O x.1 r then x :: y :: r else y :: ins O x r := by
  show (if y.1 = x.1 then _ else if O.tc y.1 x.1 then _ else _) = _
  rw [if_neg (ne_of_apart h), if_neg (by rw [h]; decide)]
theorem ins_top {x : α × Int} : ∀ {r : Row α}, top O x.1 r = true → ins O x r = x :: r
  | [], _ => rfl
  | y :: r, h => by
    cases hc : O.tc y.1 x.1
    · rw [top_apart hc] at h
      rw [ins_apart hc, if_pos h]
    · by_cases e : y.1 = x.1
      · unfold top at h
        rw [if_pos hc] at h
        simp [e] at h
      · exact ins_touch hc e
theorem apart_symm {a b : α} (h : O.tc a b = false) : O.tc b a = false := by rw [O.symm]; exact h
/-- what is put below the top does not bar another name that lay on top -/
theorem top_ins {z : α} {x : α × Int} (hx : O.tc x.1 z = false) : ∀ {r : Row α}, top O z r = true → top O x.1 r = false → top O z (ins O x r) = true
  | [], _, h => by cases h
  | w :: r, hz, h => by
    by_cases e : w.1 = x.1
    · obtain ⟨w1, w2⟩ := w
      obtain ⟨x1, x2⟩ := x
      have e : w1 = x1 := e
      subst e
      have hw : O.tc w1 z = false := hx
      rw [top_apart (y := (w1, w2)) hw] at hz
      rw [ins_same]
      by_cases h0 : w2 + x2 = 0
      · rw [if_pos h0]
        exact (Bool.and_eq_true_iff.mp hz).2
      · rw [if_neg h0, top_apart (y := (w1, w2 + x2)) hw]
        exact hz
    · cases hc : O.tc w.1 x.1
      · rw [top_apart hc] at h
        rw [ins_apart hc, if_neg (by rw [h]; decide)]
        cases hwz : O.tc w.1 z
        · rw [top_apart hwz] at hz ⊢
          obtain ⟨z1, z2⟩ := Bool.and_eq_true_iff.mp hz
          rw [z1, Bool.true_and]
          cases ht : top O x.1 r
          · exact top_ins hx z2 ht
          · rw [ins_top ht, top_apart hx, z2, Bool.and_true]
            rw [ht, Bool.and_true] at h
            exact O.trans _ _ _ (lt_of_not hc h) z1
        · have n : w.1 ≠ z := by
            intro q
            unfold top at hz
            rw [if_pos hwz] at hz
            simp [q] at hz
          exact top_touch hwz n
      · rw [top_touch hc e] at h
        cases h
theorem nf_ins {x : α × Int} (hx : x.2 ≠ 0) : ∀ {r : Row α}, NF O r → NF O (ins O x r)
  | [], _ => ⟨hx, rfl, True.intro⟩
  | w :: r, h => by
    obtain ⟨w0, wt, wr⟩ := h
    by_cases e : w.1 = x.1
    · obtain ⟨w1, w2⟩ := w
      obtain ⟨x1, x2⟩ := x
      have e : w1 = x1 := e
      subst e
      rw [ins_same]
      by_cases h0 : w2 + x2 = 0
      · rw [if_pos h0]
        exact wr
      · rw [if_neg h0]
        exact ⟨h0, wt, wr⟩
    · cases hc : O.tc w.1 x.1
      · rw [ins_apart hc]
        cases ht : O.lt w.1 x.1 && top O x.1 r
        · rw [if_neg (by decide)]
          refine ⟨w0, ?_, nf_ins hx wr⟩
          cases h2 : top O x.1 r
          · exact top_ins (apart_symm hc) wt h2
          · rw [h2, Bool.and_true] at ht
            rw [ins_top h2, top_apart (apart_symm hc), wt, Bool.and_true]
            exact lt_of_not hc ht
        · rw [if_pos rfl]
          exact ⟨hx, by rw [top_apart hc]; exact ht, w0, wt, wr⟩
      · rw [ins_touch hc e]
        exact ⟨hx, top_touch hc e, w0, wt, wr⟩
/-- if a put step frees the top for a name, it took away the piece on the very top -/
theorem freed {b : α} {x : α × Int} (hx : O.tc x.1 b = false) : ∀ {r : Row α}, NF O r → top O x.1 r = false → top O b r = false → top O b (ins O x r) = true →
    ∃ u r', r = (x.1, u) :: r' ∧ O.lt x.1 b = false
  | [], _, h, _, _ => by cases h
  | w :: r, hN, h1, h2, h3 => by
    obtain ⟨w0, wt, wr⟩ := hN
    by_cases e : w.1 = x.1
    · obtain ⟨w1, w2⟩ := w
      obtain ⟨x1, x2⟩ := x
      have e : w1 = x1 := e
      subst e
      refine ⟨w2, r, rfl, ?_⟩
      rw [ins_same] at h3
      rw [top_apart (y := (w1, w2)) hx] at h2
      by_cases h0 : w2 + x2 = 0
      · rw [if_pos h0] at h3
        rw [h3, Bool.and_true] at h2
        exact h2
      · rw [if_neg h0, top_apart (y := (w1, w2 + x2)) hx] at h3
        have h2' : (O.lt w1 b && top O b r) = false := h2
        have h3' : (O.lt w1 b && top O b r) = true := h3
        rw [h2'] at h3'
        cases h3'
    · cases hc : O.tc w.1 x.1
      · rw [top_apart hc] at h1
        rw [ins_apart hc, if_neg (by rw [h1]; decide)] at h3
        cases hwb : O.tc w.1 b
        · rw [top_apart hwb] at h2 h3
          obtain ⟨p1, p2⟩ := Bool.and_eq_true_iff.mp h3
          rw [p1, Bool.true_and] at h2
          have h4 : top O x.1 r = false := by
            cases q : top O x.1 r
            · rfl
            · rw [ins_top q, top_apart hx, h2, Bool.and_false] at p2
              cases p2
          obtain ⟨u, r', rfl, h5⟩ := freed hx wr h4 h2 p2
          rw [top_apart (y := (x.1, u)) (apart_symm hc)] at wt
          have q1 := (Bool.and_eq_true_iff.mp wt).1
          have q2 := O.trans _ _ _ q1 p1
          have q3 : O.lt x.1 b = true := q2
          rw [h5] at q3
          cases q3
        · have n : w.1 ≠ b := by
            intro q
            unfold top at h3
            rw [if_pos hwb] at h3
            simp [q] at h3
          rw [top_touch hwb n] at h2
          cases h2
      · rw [top_touch hc e] at h1
        cases h1
theorem freed_same {x : α × Int} : ∀ {r : Row α}, NF O r → top O x.1 r = false → top O x.1 (ins O x r) = true → ∃ u r', r = (x.1, u) :: r'
  | [], _, h, _ => by cases h
  | w :: r, hN, h1, h3 => by
    obtain ⟨w0, wt, wr⟩ := hN
    by_cases e : w.1 = x.1
    · exact ⟨w.2, r, by rw [← e]⟩
    · cases hc : O.tc w.1 x.1
      · rw [top_apart hc] at h1
        rw [ins_apart hc, if_neg (by rw [h1]; decide), top_apart hc] at h3
        obtain ⟨p1, p2⟩ := Bool.and_eq_true_iff.mp h3
        rw [p1, Bool.true_and] at h1
        obtain ⟨u, r', rfl⟩ := freed_same wr h1 p2
        rw [top_apart (y := (x.1, u)) (apart_symm hc)] at wt
        have q1 := (Bool.and_eq_true_iff.mp wt).1
        have q2 := lt_asym p1
        have q3 : O.lt x.1 w.1 = true := q1
        rw [q2] at q3
        cases q3
      · rw [top_touch hc e] at h1
        cases h1
/-- steps of names that are apart may be put in either order -/
theorem ins_comm {x y : α × Int} (hxy : O.tc x.1 y.1 = false) : ∀ {r : Row α}, NF O r → ins O x (ins O y r) = ins O y (ins O x r)
  | [], _ => by
    show ins O x [y] = ins O y [x]
    rw [ins_apart (apart_symm hxy), ins_apart hxy]
    show (if O.lt y.1 x.1 && true then [x, y] else [y, x]) = if O.lt x.1 y.1 && true then [y, x] else [x, y]
    cases h : O.lt y.1 x.1
    · rw [lt_of_not (apart_symm hxy) h]
      rfl
    · rw [lt_asym h]
      rfl
  | z :: r, hN => by
    have hyx := apart_symm hxy
    have key : ∀ {x y : α × Int}, O.tc x.1 y.1 = false → z.1 = x.1 → ins O x (ins O y (z :: r)) = ins O y (ins O x (z :: r)) := by
      intro x y hxy e
      obtain ⟨z1, z2⟩ := z
      obtain ⟨x1, x2⟩ := x
      have e : z1 = x1 := e
      subst e
      obtain ⟨_, zt, zr⟩ := hN
      have hzy : O.tc z1 y.1 = false := hxy
      rw [ins_apart (x := y) (y := (z1, z2)) hzy, ins_same]
      cases hB : O.lt z1 y.1 && top O y.1 r
      · rw [if_neg (by decide), ins_same]
        by_cases h0 : z2 + x2 = 0
        · rw [if_pos h0, if_pos h0]
        · rw [if_neg h0, if_neg h0, ins_apart (x := y) (y := (z1, z2 + x2)) hzy, if_neg (by rw [hB]; decide)]
      · rw [if_pos rfl, ins_apart (x := (z1, x2)) (y := y) (apart_symm hxy), if_neg (by rw [top_same (s := z2)]; simp), ins_same]
        by_cases h0 : z2 + x2 = 0
        · rw [if_pos h0, ins_top (Bool.and_eq_true_iff.mp hB).2]
        · rw [if_neg h0, ins_apart (x := y) (y := (z1, z2 + x2)) hzy, if_pos hB]
    by_cases ex : z.1 = x.1
    · exact key hxy ex
    by_cases ey : z.1 = y.1
    · exact (key hyx ey).symm
    obtain ⟨z0, zt, zr⟩ := hN
    have ih := ins_comm hxy zr
    have topx : ∀ {x y : α × Int}, O.tc x.1 y.1 = false → z.1 ≠ x.1 → z.1 ≠ y.1 → O.tc z.1 x.1 = true → ins O x (ins O y (z :: r)) = ins O y (ins O x (z :: r)) := by
      intro x y hxy ex ey hx
      have hyx := apart_symm hxy
      rw [ins_touch hx ex, ins_apart (x := y) (y := x) hxy]
      cases hT : top O y.1 (z :: r)
      · rw [if_neg (by simp)]
        have hy : O.tc z.1 y.1 = false := by
          cases q : O.tc z.1 y.1
          · rfl
          · rw [top_touch q ey] at hT
            cases hT
        rw [top_apart hy] at hT
        rw [ins_apart (x := y) (y := z) hy, if_neg (by rw [hT]; decide), ins_touch hx ex]
      · rw [ins_top hT, ins_apart (x := x) (y := y) hyx, top_touch hx ex, ins_touch hx ex]
        cases h : O.lt x.1 y.1
        · rw [lt_of_not hxy h]
          rfl
        · rw [lt_asym h]
          rfl
    cases hx : O.tc z.1 x.1
    · cases hy : O.tc z.1 y.1
      · -- z is apart from both
        have mixed : ∀ {x y : α × Int}, O.tc x.1 y.1 = false → O.tc z.1 x.1 = false → O.tc z.1 y.1 = false → (O.lt z.1 x.1 && top O x.1 r) = true → (O.lt z.1 y.1 && top O y.1 r) = false → ins O x (ins O y (z :: r)) = ins O y (ins O x (z :: r)) := by
          intro x y hxy hx hy hA hB
          have hyx := apart_symm hxy
          obtain ⟨a1, a2⟩ := Bool.and_eq_true_iff.mp hA
          rw [ins_apart (x := y) (y := z) hy, if_neg (by rw [hB]; decide), ins_apart (x := x) (y := z) hx (r := r), if_pos hA, ins_apart (x := y) (y := x) hxy, top_apart hy, hB, Bool.and_false, if_neg (by decide)]
          rw [ins_apart (x := y) (y := z) hy, if_neg (by rw [hB]; decide), ins_apart (x := x) (y := z) hx]
          have t : top O x.1 (ins O y r) = true := by
            cases q : top O y.1 r
            · exact top_ins hyx a2 q
            · rw [q, Bool.and_true] at hB
              rw [ins_top q, top_apart hyx, a2, Bool.and_true]
              exact O.trans _ _ _ (lt_of_not hy hB) a1
          rw [a1, t]
          rfl
        cases hA : O.lt z.1 x.1 && top O x.1 r
        · cases hB : O.lt z.1 y.1 && top O y.1 r
          · rw [ins_apart (x := y) (y := z) hy, if_neg (by rw [hB]; decide), ins_apart (x := x) (y := z) hx (r := r), if_neg (by rw [hA]; decide)]
            have no : ∀ {x y : α × Int}, O.tc x.1 y.1 = false → O.tc z.1 x.1 = false → (O.lt z.1 x.1 && top O x.1 r) = false → (O.lt z.1 y.1 && top O y.1 r) = false → (O.lt z.1 y.1 && top O y.1 (ins O x r)) = false := by
              intro x y hxy hx hA hB
              cases q : O.lt z.1 y.1 && top O y.1 (ins O x r)
              · rfl
              · obtain ⟨q1, q2⟩ := Bool.and_eq_true_iff.mp q
                rw [q1, Bool.true_and] at hB
                cases t : top O x.1 r
                · obtain ⟨u, r', rfl, h5⟩ := freed hxy zr t hB q2
                  rw [top_apart (y := (x.1, u)) (apart_symm hx)] at zt
                  have w1 : O.lt x.1 z.1 = true := (Bool.and_eq_true_iff.mp zt).1
                  rw [O.trans _ _ _ w1 q1] at h5
                  cases h5
                · rw [ins_top t, top_apart hxy, hB, Bool.and_false] at q2
                  cases q2
            rw [ins_apart (x := x) (y := z) hx, if_neg (by rw [no hyx hy hB hA]; decide), ins_apart (x := y) (y := z) hy, if_neg (by rw [no hxy hx hA hB]; decide), ih]
          · exact (mixed hyx hy hx hB hA).symm
        · cases hB : O.lt z.1 y.1 && top O y.1 r
          · exact mixed hxy hx hy hA hB
          · rw [ins_apart (x := y) (y := z) hy, if_pos hB, ins_apart (x := x) (y := z) hx (r := r), if_pos hA, ins_apart (x := x) (y := y) hyx, ins_apart (x := y) (y := x) hxy, top_apart hx, top_apart hy, hA, hB, ins_apart (x := x) (y := z) hx, if_pos hA, ins_apart (x := y) (y := z) hy, if_pos hB]
            cases h : O.lt x.1 y.1
            · rw [lt_of_not hxy h]
              rfl
            · rw [lt_asym h]
              rfl
      · exact (topx hyx ey ex hy).symm
    · exact topx hxy ex ey hx
/-- two steps of one name are one, or none -/
theorem ins_join {a : α} {s t : Int} (hs : s ≠ 0) (ht : t ≠ 0) : ∀ {r : Row α}, NF O r → ins O (a, t) (ins O (a, s) r) = if s + t = 0 then r else ins O (a, s + t) r
  | [], _ => by
    show ins O (a, t) [(a, s)] = _
    rw [ins_same]
    rfl
  | (c, u) :: r, hN => by
    obtain ⟨u0, zt, zr⟩ := hN
    have u0 : u ≠ 0 := u0
    by_cases e : c = a
    · subst e
      rw [ins_same, ins_same]
      by_cases h0 : u + s = 0
      · rw [if_pos h0, ins_top (x := (c, t)) zt]
        by_cases h1 : s + t = 0
        · rw [if_pos h1, show t = u by omega]
        · rw [if_neg h1, if_neg (by omega), show u + (s + t) = t by omega]
      · rw [if_neg h0, ins_same]
        by_cases h1 : s + t = 0
        · rw [if_pos h1, if_neg (by omega), show u + s + t = u by omega]
        · rw [if_neg h1]
          by_cases h2 : u + s + t = 0
          · rw [if_pos h2, if_pos (by omega)]
          · rw [if_neg h2, if_neg (by omega), Int.add_assoc]
    · cases hc : O.tc c a
      · rw [ins_apart (x := (a, s)) (y := (c, u)) hc, ins_apart (x := (a, s + t)) (y := (c, u)) hc]
        cases hA : O.lt c a && top O a r
        · rw [if_neg (by decide), ins_apart (x := (a, t)) (y := (c, u)) hc]
          have no : (O.lt c a && top O a (ins O (a, s) r)) = false := by
            cases q : O.lt c a && top O a (ins O (a, s) r)
            · rfl
            · obtain ⟨q1, q2⟩ := Bool.and_eq_true_iff.mp q
              rw [q1, Bool.true_and] at hA
              obtain ⟨v, r', rfl⟩ := freed_same (x := (a, s)) zr hA q2
              rw [top_apart (y := (a, v)) (apart_symm hc)] at zt
              have w1 : O.lt a c = true := (Bool.and_eq_true_iff.mp zt).1
              rw [lt_asym q1] at w1
              cases w1
          rw [if_neg (show ¬ ((O.lt c a && top O a (ins O (a, s) r)) = true) by rw [no]; decide), ins_join hs ht zr]
          by_cases h1 : s + t = 0
          · rw [if_pos h1, if_pos h1]
          · rw [if_neg h1, if_neg h1, if_neg Bool.false_ne_true]
        · rw [if_pos rfl, if_pos rfl, ins_same]
      · rw [ins_touch (x := (a, s)) (y := (c, u)) hc e, ins_touch (x := (a, s + t)) (y := (c, u)) hc e, ins_same]
end
end XM
set_option linter.all false
namespace XM
section
variable {α : Type} [DecidableEq α] (O : Ord α)
/-- steps put on a least pile, one after another -/
def act (l r : Row α) : Row α := l.foldl (fun r x => ins O x r) r
def NZ (l : Row α) : Prop := ∀ x ∈ l, x.2 ≠ 0
/-- the next step of this name that can come together with one ahead -/
def near (a : α) : Row α → Option Nat
  | [] => none
  | y :: r => if y.1 = a then some 0 else if O.tc y.1 a then none else (near a r).map (· + 1)
def pl : Row α → Bool
  | [] => true
  | x :: r => (near O x.1 r).isNone && pl r
def met : Row α → Option (Nat × Nat)
  | [] => none
  | x :: r => match near O x.1 r with
    | some d => some (0, d + 1)
    | none => (met r).map fun p => (p.1 + 1, p.2 + 1)
variable {O}
theorem NZ.app {l m : Row α} (h : NZ l) (g : NZ m) : NZ (l ++ m) := fun x hx => (List.mem_append.mp hx).elim (h x) (g x)
theorem NZ.left {l m : Row α} (h : NZ (l ++ m)) : NZ l := fun x hx => h x (List.mem_append_left _ hx)
theorem NZ.right {l m : Row α} (h : NZ (l ++ m)) : NZ m := fun x hx => h x (List.mem_append_right _ hx)
theorem act_nil {r : Row α} : act O [] r = r := rfl
theorem act_cons {x : α × Int} {l r : Row α} : act O (x :: l) r = act O l (ins O x r) := rfl
theorem act_app {l m r : Row α} : act O (l ++ m) r = act O m (act O l r) := List.foldl_append
theorem nf_act : ∀ {l r : Row α}, NZ l → NF O r → NF O (act O l r)
  | [], _, _, h => h
  | x :: l, r, z, h => nf_act (l := l) (fun y hy => z y (List.mem_cons_of_mem _ hy)) (nf_ins (z x List.mem_cons_self) h)
theorem nf_nz : ∀ {r : Row α}, NF O r → NZ r
  | [], _ => fun _ h => nomatch h
  | y :: r, h => fun x hx => (List.mem_cons.mp hx).elim (fun e => e ▸ h.1) (nf_nz h.2.2 x)
theorem act_swap {u v r : Row α} {x y : α × Int} (h : O.tc x.1 y.1 = false) (z : NZ u) (hN : NF O r) : act O (u ++ x :: y :: v) r = act O (u ++ y :: x :: v) r := by
  rw [act_app, act_app, act_cons, act_cons, act_cons, act_cons, ins_comm (apart_symm h) (nf_act z hN)]
/-- a step may be brought ahead of those that are apart from it -/
theorem act_move {x : α × Int} {v : Row α} : ∀ {p u r : Row α}, (∀ w ∈ p, O.tc w.1 x.1 = false) → NZ u → NZ p → NF O r → act O (u ++ (p ++ x :: v)) r = act O (u ++ (x :: (p ++ v))) r
  | [], _, _, _, _, _, _ => rfl
  | y :: p, u, r, hp, zu, zp, hN => by
    have e := act_move (x := x) (v := v) (p := p) (u := u ++ [y]) (r := r) (fun w hw => hp w (List.mem_cons_of_mem _ hw)) (zu.app fun w hw => zp w (by rw [List.mem_singleton.mp hw]; exact List.mem_cons_self)) (fun w hw => zp w (List.mem_cons_of_mem _ hw)) hN
    rw [List.append_assoc, List.append_assoc] at e
    have e2 : act O (u ++ (y :: p ++ x :: v)) r = act O (u ++ (y :: x :: (p ++ v))) r := e
    rw [e2, act_swap (hp y List.mem_cons_self) zu hN]
    rfl
/-- the two that can come together do -/
theorem act_meet {a : α} {s t : Int} {u m v r : Row α} (hm : ∀ w ∈ m, O.tc w.1 a = false) (hs : s ≠ 0) (ht : t ≠ 0) (zu : NZ u) (zm : NZ m) (hN : NF O r) :
    act O (u ++ (a, s) :: (m ++ (a, t) :: v)) r = act O (u ++ ((if s + t = 0 then [] else [(a, s + t)]) ++ (m ++ v))) r := by
  have e := act_move (x := (a, t)) (v := v) (p := m) (u := u ++ [(a, s)]) (r := r) hm (zu.app fun w hw => by rw [List.mem_singleton.mp hw]; exact hs) zm hN
  rw [List.append_assoc, List.append_assoc] at e
  have e2 : act O (u ++ (a, s) :: (m ++ (a, t) :: v)) r = act O (u ++ (a, s) :: (a, t) :: (m ++ v)) r := e
  rw [e2, act_app, act_app, act_cons, act_cons, ins_join hs ht (nf_act zu hN)]
  by_cases h : s + t = 0
  · rw [if_pos h, if_pos h, List.nil_append]
  · rw [if_neg h, if_neg h]
    rfl
theorem act_fix : ∀ {r : Row α}, NF O r → act O r.reverse [] = r
  | [], _ => rfl
  | y :: r, h => by
    rw [List.reverse_cons, act_app, act_fix h.2.2]
    exact ins_top h.2.1
/-- a least pile does what its steps did -/
theorem act_ins {x : α × Int} : ∀ {r q : Row α}, NF O r → x.2 ≠ 0 → NF O q → act O (ins O x r).reverse q = ins O x (act O r.reverse q)
  | [], _, _, _, _ => rfl
  | y :: r, q, h, hx, hq => by
    obtain ⟨y0, yt, yr⟩ := h
    have hQ : NF O (act O r.reverse q) := nf_act (fun w hw => nf_nz yr w (List.mem_reverse.mp hw)) hq
    by_cases e : y.1 = x.1
    · obtain ⟨y1, y2⟩ := y
      obtain ⟨x1, x2⟩ := x
      have e : y1 = x1 := e
      subst e
      rw [ins_same, List.reverse_cons, act_app, act_cons, act_nil, ins_join y0 hx hQ]
      by_cases h0 : y2 + x2 = 0
      · rw [if_pos h0, if_pos h0]
      · rw [if_neg h0, if_neg h0, List.reverse_cons, act_app]
        rfl
    · have stay : act O (x :: y :: r).reverse q = ins O x (act O (y :: r).reverse q) := by
        rw [List.reverse_cons, act_app]
        rfl
      cases hc : O.tc y.1 x.1
      · rw [ins_apart hc]
        cases hA : O.lt y.1 x.1 && top O x.1 r
        · rw [if_neg (by decide), List.reverse_cons, act_app, act_ins yr hx hq, List.reverse_cons, act_app]
          exact ins_comm hc hQ
        · rw [if_pos rfl]
          exact stay
      · rw [ins_touch hc e]
        exact stay
theorem act_self : ∀ {l q : Row α}, NZ l → NF O q → act O (act O l []).reverse q = act O l q := by
  intro l
  have gen : ∀ (n : Nat) (l q : Row α), l.length = n → NZ l → NF O q → act O (act O l []).reverse q = act O l q := by
    intro n
    induction n with
    | zero =>
      intro l q h _ _
      rw [List.length_eq_zero_iff.mp h]
      rfl
    | succ n ih =>
      intro l q h z hq
      obtain ⟨p, x, rfl⟩ : ∃ p x, l = p ++ [x] := ⟨l.dropLast, l.getLast (fun e => by rw [e] at h; cases h), (List.dropLast_concat_getLast _).symm⟩
      rw [act_app, act_app, act_cons, act_nil, act_cons, act_nil, act_ins (nf_act z.left (show NF O [] from True.intro)) (z x (by simp)) hq, ih p q (by rw [List.length_append] at h; simpa using h) z.left hq]
  exact fun {q} => gen _ l q rfl
/-- the steps that take steps back -/
def back (l : Row α) : Row α := (l.map fun x => (x.1, -x.2)).reverse
theorem back_nz {l : Row α} (h : NZ l) : NZ (back l) := fun x hx => by
  obtain ⟨y, hy, rfl⟩ := List.mem_map.mp (List.mem_reverse.mp hx)
  have := h y hy
  show -y.2 ≠ 0
  omega
theorem act_back : ∀ {l r : Row α}, NZ l → NF O r → act O (back l) (act O l r) = r
  | [], _, _, _ => rfl
  | x :: l, r, z, h => by
    have hx := z x List.mem_cons_self
    have zl : NZ l := fun y hy => z y (List.mem_cons_of_mem _ hy)
    unfold back
    rw [List.map_cons, List.reverse_cons, act_app, act_cons, act_cons]
    have e := act_back zl (nf_ins hx h)
    unfold back at e
    rw [e, act_nil]
    have j := ins_join (O := O) (a := x.1) (s := x.2) (t := -x.2) hx (by omega) h
    rw [if_pos (by omega)] at j
    exact j
theorem back_back (l : Row α) : back (back l) = l := by
  unfold back
  rw [List.map_reverse, List.reverse_reverse, List.map_map]
  have e : ((fun x : α × Int => (x.1, -x.2)) ∘ fun x => (x.1, -x.2)) = id := by
    funext x
    show (x.1, - -x.2) = x
    rw [Int.neg_neg]
  rw [e, List.map_id]
/-- what makes the same pile is taken back alike -/
theorem act_back_eq {l m r : Row α} (zl : NZ l) (zm : NZ m) (h : act O l [] = act O m []) (hN : NF O r) : act O (back l) r = act O (back m) r := by
  have same : ∀ {q}, NF O q → act O l q = act O m q := fun {q} hq => by rw [← act_self zl hq, h, act_self zm hq]
  have e := act_back (back_nz zl) hN
  rw [back_back] at e
  have e2 := same (nf_act (back_nz zl) hN)
  rw [e] at e2
  have e3 := act_back zm (nf_act (back_nz zl) hN)
  rw [← e2] at e3
  exact e3.symm
/-! ### coming together -/
theorem near_none {a : α} : ∀ {m v : Row α}, (∀ w ∈ m, O.tc w.1 a = false) → (near O a (m ++ v)) = (near O a v).map (· + m.length)
  | [], v, _ => by
    show near O a v = (near O a v).map (· + 0)
    cases near O a v <;> rfl
  | y :: m, v, h => by
    have hy := h y List.mem_cons_self
    show (if y.1 = a then some 0 else if O.tc y.1 a then none else (near O a (m ++ v)).map (· + 1)) = _
    rw [if_neg (ne_of_apart hy), if_neg (by rw [hy]; decide), near_none (fun w hw => h w (List.mem_cons_of_mem _ hw))]
    cases near O a v <;> rfl
theorem near_some {a : α} : ∀ {r : Row α} {d : Nat}, near O a r = some d → ∃ m t v, r = m ++ (a, t) :: v ∧ m.length = d ∧ ∀ w ∈ m, O.tc w.1 a = false
  | [], _, h => by cases h
  | y :: r, d, h => by
    unfold near at h
    by_cases e : y.1 = a
    · rw [if_pos e] at h
      cases h
      exact ⟨[], y.2, r, by rw [← e]; rfl, rfl, fun _ h => nomatch h⟩
    · rw [if_neg e] at h
      cases hc : O.tc y.1 a
      · rw [hc, if_neg (by decide)] at h
        obtain ⟨d', hd, rfl⟩ := Option.map_eq_some_iff.mp h
        obtain ⟨m, t, v, rfl, hl, hm⟩ := near_some hd
        refine ⟨y :: m, t, v, rfl, by rw [List.length_cons, hl], fun w hw => ?_⟩
        rcases List.mem_cons.mp hw with rfl | hw
        · exact hc
        · exact hm w hw
      · rw [hc, if_pos rfl] at h
        cases h
theorem met_pl : ∀ {l : Row α}, met O l = none ↔ pl O l = true
  | [] => ⟨fun _ => rfl, fun _ => rfl⟩
  | x :: r => by
    unfold met pl
    cases near O x.1 r with
    | some d => simp
    | none =>
      simp only [Option.isNone_none, Bool.true_and, Option.map_eq_none_iff]
      exact met_pl
theorem met_some : ∀ {l : Row α} {i j : Nat}, met O l = some (i, j) → ∃ u a s m t v, l = u ++ (a, s) :: (m ++ (a, t) :: v) ∧ u.length = i ∧ i + 1 + m.length = j ∧ ∀ w ∈ m, O.tc w.1 a = false
  | [], _, _, h => by cases h
  | x :: r, i, j, h => by
    unfold met at h
    cases hn : near O x.1 r with
    | some d =>
      rw [hn] at h
      cases h
      obtain ⟨m, t, v, rfl, hl, hm⟩ := near_some hn
      exact ⟨[], x.1, x.2, m, t, v, rfl, rfl, by rw [hl]; omega, hm⟩
    | none =>
      rw [hn] at h
      obtain ⟨⟨i', j'⟩, h2, e⟩ := Option.map_eq_some_iff.mp h
      cases e
      obtain ⟨u, a, s, m, t, v, rfl, h3, h4, h5⟩ := met_some h2
      exact ⟨x :: u, a, s, m, t, v, rfl, by rw [List.length_cons, h3], by omega, h5⟩
/-! ### changes of neighbours that are apart -/
theorem near_swap {a : α} {x y : α × Int} (h : O.tc x.1 y.1 = false) {v : Row α} : ∀ {u : Row α}, (near O a (u ++ x :: y :: v)).isSome = (near O a (u ++ y :: x :: v)).isSome
  | [] => by
    show (near O a (x :: y :: v)).isSome = (near O a (y :: x :: v)).isSome
    have ne := ne_of_apart h
    simp only [near]
    by_cases ex : x.1 = a
    · have ey : y.1 ≠ a := fun q => ne (ex.trans q.symm)
      have ty : O.tc y.1 a = false := by rw [← ex]; exact apart_symm h
      rw [if_pos ex, if_neg ey, ty]
      simp [ex]
    · by_cases ey : y.1 = a
      · have tx : O.tc x.1 a = false := by rw [← ey]; exact h
        simp [ex, ey, tx]
      · cases tx : O.tc x.1 a <;> cases ty : O.tc y.1 a <;> simp [ex, ey]
  | z :: u => by
    have ih := near_swap (a := a) h (v := v) (u := u)
    show (near O a (z :: (u ++ x :: y :: v))).isSome = (near O a (z :: (u ++ y :: x :: v))).isSome
    simp only [near]
    by_cases ez : z.1 = a
    · simp [ez]
    · cases tz : O.tc z.1 a
      · simp [ez, ih]
      · simp [ez]
theorem pl_swap {x y : α × Int} (h : O.tc x.1 y.1 = false) {v : Row α} : ∀ {u : Row α}, pl O (u ++ x :: y :: v) = pl O (u ++ y :: x :: v)
  | [] => by
    have ne := ne_of_apart h
    show ((near O x.1 (y :: v)).isNone && ((near O y.1 v).isNone && pl O v)) = ((near O y.1 (x :: v)).isNone && ((near O x.1 v).isNone && pl O v))
    have e1 : (near O x.1 (y :: v)).isNone = (near O x.1 v).isNone := by
      simp [near, Ne.symm ne, apart_symm h]
    have e2 : (near O y.1 (x :: v)).isNone = (near O y.1 v).isNone := by
      simp [near, ne, h]
    rw [e1, e2, ← Bool.and_assoc, ← Bool.and_assoc, Bool.and_comm (near O x.1 v).isNone]
  | z :: u => by
    have ih := pl_swap h (v := v) (u := u)
    have e := near_swap (a := z.1) h (v := v) (u := u)
    show ((near O z.1 (u ++ x :: y :: v)).isNone && pl O (u ++ x :: y :: v)) = ((near O z.1 (u ++ y :: x :: v)).isNone && pl O (u ++ y :: x :: v))
    rw [ih]
    congr 1
    cases h1 : near O z.1 (u ++ x :: y :: v) <;> cases h2 : near O z.1 (u ++ y :: x :: v) <;> rw [h1, h2] at e <;> first | rfl | cases e
theorem near_move {a : α} {x : α × Int} {v : Row α} : ∀ {p u : Row α}, (∀ w ∈ p, O.tc w.1 x.1 = false) → (near O a (u ++ (p ++ x :: v))).isSome = (near O a (u ++ (x :: (p ++ v)))).isSome
  | [], _, _ => rfl
  | y :: p, u, h => by
    have e := near_move (a := a) (x := x) (v := v) (p := p) (u := u ++ [y]) fun w hw => h w (List.mem_cons_of_mem _ hw)
    rw [List.append_assoc, List.append_assoc] at e
    exact Eq.trans e (near_swap (h y List.mem_cons_self))
theorem pl_move {x : α × Int} {v : Row α} : ∀ {p u : Row α}, (∀ w ∈ p, O.tc w.1 x.1 = false) → pl O (u ++ (p ++ x :: v)) = pl O (u ++ (x :: (p ++ v)))
  | [], _, _ => rfl
  | y :: p, u, h => by
    have e := pl_move (x := x) (v := v) (p := p) (u := u ++ [y]) fun w hw => h w (List.mem_cons_of_mem _ hw)
    rw [List.append_assoc, List.append_assoc] at e
    exact Eq.trans e (pl_swap (h y List.mem_cons_self))
theorem pl_right : ∀ {u v : Row α}, pl O (u ++ v) = true → pl O v = true
  | [], _, h => h
  | x :: u, v, h => pl_right (u := u) (Bool.and_eq_true_iff.mp (show ((near O x.1 (u ++ v)).isNone && pl O (u ++ v)) = true from h)).2
theorem pl_ne {x y : α × Int} {u v q : Row α} (h : pl O (u ++ y :: (v ++ x :: q)) = true) (hv : ∀ w ∈ v, O.tc w.1 x.1 = false) : y.1 ≠ x.1 := fun e => by
  have h1 := (Bool.and_eq_true_iff.mp (show ((near O y.1 (v ++ x :: q)).isNone && pl O (v ++ x :: q)) = true from pl_right h)).1
  rw [e, near_none hv] at h1
  simp [near] at h1
/-! ### sorting a pile -/
/-- where least names came first -/
structure Srt (O : Ord α) (found left : Row α) : Prop where
  own : ∀ u y v z q, found = u ++ y :: (v ++ z :: q) → O.tc y.1 z.1 = false → (∀ w ∈ v, O.tc w.1 z.1 = false) → O.lt y.1 z.1 = true
  out : ∀ u y v p z q, found = u ++ y :: v → left = p ++ z :: q → O.tc y.1 z.1 = false → (∀ w ∈ v, O.tc w.1 z.1 = false) → (∀ w ∈ p, O.tc w.1 z.1 = false) → O.lt y.1 z.1 = true
theorem Srt.nil (left : Row α) : Srt O [] left := ⟨fun u y v z q h => by simp at h, fun u y v p z q h => by simp at h⟩
/-- the least of those that can stand first -/
structure LeastFirst (O : Ord α) (p : Row α) (x : α × Int) (q : Row α) : Prop where
  free : ∀ w ∈ p, O.tc w.1 x.1 = false
  least : ∀ p' z q', p ++ x :: q = p' ++ z :: q' → (∀ w ∈ p', O.tc w.1 z.1 = false) → z.1 ≠ x.1 → O.lt x.1 z.1 = true
theorem split_end {u v : Row α} {y x : α × Int} {l : Row α} (h : l ++ [x] = u ++ y :: v) : (v = [] ∧ l = u ∧ x = y) ∨ ∃ v', v = v' ++ [x] ∧ l = u ++ y :: v' := by
  rcases List.eq_nil_or_concat v with rfl | ⟨v', z, rfl⟩
  · left
    have := List.append_inj' h rfl
    exact ⟨rfl, this.1, by simpa using this.2⟩
  · right
    rw [List.concat_eq_append] at h ⊢
    have h' : l ++ [x] = (u ++ y :: v') ++ [z] := by rw [h]; simp
    have := List.append_inj' h' rfl
    have e : x = z := by simpa using this.2
    exact ⟨v', by rw [e], this.1⟩
theorem Srt.step {found p q : Row α} {x : α × Int} (S : Srt O found (p ++ x :: q)) (L : LeastFirst O p x q) : Srt O (found ++ [x]) (p ++ q) := by
  constructor
  · intro u y v z r h hyz hv
    have h' : found ++ [x] = (u ++ y :: v) ++ z :: r := by rw [h]; simp
    rcases split_end h' with ⟨rfl, e1, e2⟩ | ⟨r', rfl, e1⟩
    · subst e2
      exact S.out u y v p x q e1 rfl hyz hv L.free
    · exact S.own u y v z r' (by rw [e1]; simp) hyz hv
  · intro u y v p' z q' h h2 hyz hv hp'
    -- z in the row with x
    have place : (∃ q1, p = p' ++ z :: q1) ∨ (∃ q1, q = q1 ++ z :: q' ∧ p' = p ++ q1) := by
      rcases List.append_eq_append_iff.mp h2 with ⟨as, e1, e2⟩ | ⟨bs, e1, e2⟩
      · exact .inr ⟨as, e2, e1⟩
      · cases bs with
        | nil => exact .inr ⟨[], by simpa using e2.symm, by simpa using e1.symm⟩
        | cons b bs =>
          rw [List.cons_append] at e2
          injection e2 with e3 e4
          subst e3
          exact .inl ⟨bs, e1⟩
    rcases split_end h with ⟨rfl, e1, e2⟩ | ⟨v', rfl, e1⟩
    · subst e2
      rcases place with ⟨q1, rfl⟩ | ⟨q1, rfl, rfl⟩
      · exact L.least p' z (q1 ++ x :: q) (by simp) hp' (fun e => by rw [e, O.refl] at hyz; cases hyz)
      · refine L.least (p ++ x :: q1) z q' (by simp) (fun w hw => ?_) (fun e => by rw [e, O.refl] at hyz; cases hyz)
        rcases List.mem_append.mp hw with hw | hw
        · exact hp' w (List.mem_append_left _ hw)
        · rcases List.mem_cons.mp hw with rfl | hw
          · exact hyz
          · exact hp' w (List.mem_append_right _ hw)
    · have hx : O.tc x.1 z.1 = false := hv x (by simp)
      have hv' : ∀ w ∈ v', O.tc w.1 z.1 = false := fun w hw => hv w (List.mem_append_left _ hw)
      rcases place with ⟨q1, rfl⟩ | ⟨q1, rfl, rfl⟩
      · exact S.out u y v' p' z (q1 ++ x :: q) e1 (by simp) hyz hv' hp'
      · refine S.out u y v' (p ++ x :: q1) z q' e1 (by simp) hyz hv' fun w hw => ?_
        rcases List.mem_append.mp hw with hw | hw
        · exact hp' w (List.mem_append_left _ hw)
        · rcases List.mem_cons.mp hw with rfl | hw
          · exact hx
          · exact hp' w (List.mem_append_right _ hw)
theorem top_of {a : α} : ∀ {r : Row α}, (∀ v' y u', r = v' ++ y :: u' → (∀ w ∈ v', O.tc w.1 a = false) → O.tc y.1 a = false → O.lt y.1 a = true) → (∀ v' y u', r = v' ++ y :: u' → (∀ w ∈ v', O.tc w.1 a = false) → y.1 ≠ a) → top O a r = true
  | [], _, _ => rfl
  | y :: r, h1, h2 => by
    cases hc : O.tc y.1 a
    · rw [top_apart hc, h1 [] y r rfl (fun _ h => nomatch h) hc, Bool.true_and]
      refine top_of (fun v' z u' e hv hz => h1 (y :: v') z u' (by rw [e]; rfl) (fun w hw => ?_) hz) (fun v' z u' e hv => h2 (y :: v') z u' (by rw [e]; rfl) fun w hw => ?_)
      · rcases List.mem_cons.mp hw with rfl | hw
        · exact hc
        · exact hv w hw
      · rcases List.mem_cons.mp hw with rfl | hw
        · exact hc
        · exact hv w hw
    · exact top_touch hc (h2 [] y r rfl fun _ h => nomatch h)
/-- a pile in which least names came first is a least pile -/
theorem nf_of {left : Row α} : ∀ (n : Nat) (found : Row α), found.length = n → Srt O found left → pl O (found ++ left) = true → NZ found → NF O found.reverse := by
  intro n
  have pre : ∀ (n : Nat) (found : Row α) (tail : Row α), found.length = n → (∀ u y v z q, found = u ++ y :: (v ++ z :: q) → O.tc y.1 z.1 = false → (∀ w ∈ v, O.tc w.1 z.1 = false) → O.lt y.1 z.1 = true) → pl O (found ++ tail) = true → NZ found → NF O found.reverse := by
    intro n
    induction n with
    | zero =>
      intro found tail h _ _ _
      rw [List.length_eq_zero_iff.mp h]
      exact True.intro
    | succ n ih =>
      intro found tail h hS hP hZ
      obtain ⟨f, x, rfl⟩ : ∃ f x, found = f ++ [x] := ⟨found.dropLast, found.getLast (fun e => by rw [e] at h; cases h), (List.dropLast_concat_getLast _).symm⟩
      have hl : f.length = n := by
        rw [List.length_append] at h
        simpa using h
      rw [List.reverse_append]
      refine ⟨hZ x (by simp), ?_, ih f (x :: tail) hl (fun u y v z q e => hS u y v z (q ++ [x]) (by rw [e]; simp)) (by simpa using hP) hZ.left⟩
      refine top_of (fun v' y u' e hv hy => ?_) (fun v' y u' e hv => ?_)
      · have e2 : f = u'.reverse ++ y :: v'.reverse := by
          have := congrArg List.reverse e
          simpa using this
        exact hS u'.reverse y v'.reverse x [] (by rw [e2]; simp) hy fun w hw => hv w (List.mem_reverse.mp hw)
      · have e2 : f = u'.reverse ++ y :: v'.reverse := by
          have := congrArg List.reverse e
          simpa using this
        exact pl_ne (O := O) (x := x) (y := y) (u := u'.reverse) (v := v'.reverse) (q := tail) (by rw [e2] at hP; simpa using hP) fun w hw => hv w (List.mem_reverse.mp hw)
  intro found h S hP hZ
  exact pre n found left h S.own hP hZ
end
end XM
set_option linter.all false
namespace XM
section
variable {α : Type} [DecidableEq α] {O : Ord α}
theorem ins_len {x : α × Int} : ∀ {r : Row α}, (ins O x r).length ≤ r.length + 1
  | [] => Nat.le_refl _
  | y :: r => by
    have ih := ins_len (x := x) (r := r)
    unfold ins
    split
    · split <;> simp <;> omega
    · split
      · simp
      · split
        · simp
        · simp only [List.length_cons]
          omega
theorem act_len : ∀ {l r : Row α}, (act O l r).length ≤ l.length + r.length
  | [], r => by simp [act]
  | x :: l, r => by
    have h1 := act_len (l := l) (r := ins O x r)
    have h2 := ins_len (O := O) (x := x) (r := r)
    rw [act_cons, List.length_cons]
    omega
/-! ### those that can stand first -/
/-- the first of those that can stand first -/
theorem ex_least : ∀ (n : Nat) (left : Row α), left.length = n → left ≠ [] → ∃ p x q, left = p ++ x :: q ∧ LeastFirst O p x q := by
  intro n
  -- among the splits with a free item there is one of least name
  have gen : ∀ (k : Nat) (left : Row α) (p : Row α) (x : α × Int) (q : Row α), left = p ++ x :: q → (∀ w ∈ p, O.tc w.1 x.1 = false) →
      (left.filter fun y => O.lt y.1 x.1).length ≤ k → ∃ p x q, left = p ++ x :: q ∧ LeastFirst O p x q := by
    intro k
    induction k with
    | zero =>
      intro left p x q e hp hk
      refine ⟨p, x, q, e, hp, fun p' z q' e' hp' hn => ?_⟩
      cases h : O.lt x.1 z.1
      · have hz : O.lt z.1 x.1 = true := O.tot _ _ (fun e => hn e.symm) h
        have hm : z ∈ left.filter fun y => O.lt y.1 x.1 := List.mem_filter.mpr ⟨by rw [e, e']; simp, hz⟩
        rw [List.length_eq_zero_iff.mp (Nat.le_zero.mp hk)] at hm
        cases hm
      · rfl
    | succ k ih =>
      intro left p x q e hp hk
      by_cases hex : ∃ p' z q', left = p' ++ z :: q' ∧ (∀ w ∈ p', O.tc w.1 z.1 = false) ∧ O.lt z.1 x.1 = true
      · obtain ⟨p', z, q', e', hp', hz⟩ := hex
        refine ih left p' z q' e' hp' ?_
        have hlt : (left.filter fun y => O.lt y.1 z.1).length < (left.filter fun y => O.lt y.1 x.1).length := by
          have hsub : (left.filter fun y => O.lt y.1 z.1) = (left.filter fun y => O.lt y.1 x.1).filter fun y => O.lt y.1 z.1 := by
            rw [List.filter_filter]
            congr 1
            funext y
            cases h1 : O.lt y.1 z.1
            · rfl
            · rw [O.trans _ _ _ h1 hz]
              rfl
          rw [hsub]
          have hm : z ∈ left.filter fun y => O.lt y.1 x.1 := List.mem_filter.mpr ⟨by rw [e']; simp, hz⟩
          refine Nat.lt_of_le_of_ne (List.length_filter_le _ _) fun he => ?_
          have := List.length_filter_eq_length_iff.mp he z hm
          rw [O.irr] at this
          cases this
        omega
      · refine ⟨p, x, q, e, hp, fun p' z q' e' hp' hn => ?_⟩
        cases h : O.lt x.1 z.1
        · exact absurd ⟨p', z, q', by rw [e, e'], hp', O.tot _ _ (fun e => hn e.symm) h⟩ hex
        · rfl
  intro left h hne
  cases left with
  | nil => exact absurd rfl hne
  | cons x q => exact gen _ (x :: q) [] x q rfl (fun _ h => nomatch h) (Nat.le_refl _)
/-- each pile can be sorted -/
theorem sort_ex {l : Row α} (hP : pl O l = true) (hZ : NZ l) : ∃ f : Row α, NF O f.reverse ∧ act O f [] = act O l [] ∧ f.length = l.length ∧ ∀ a, (near O a f).isSome = (near O a l).isSome := by
  have go : ∀ (n : Nat) (found left : Row α), left.length = n → Srt O found left → pl O (found ++ left) = true → NZ (found ++ left) →
      ∃ f : Row α, NF O f.reverse ∧ act O f [] = act O (found ++ left) [] ∧ f.length = (found ++ left).length ∧ ∀ a, (near O a f).isSome = (near O a (found ++ left)).isSome := by
    intro n
    induction n with
    | zero =>
      intro found left h S P Z
      have e : left = [] := List.length_eq_zero_iff.mp h
      subst e
      rw [List.append_nil] at Z ⊢
      exact ⟨found, nf_of _ found rfl S P Z, rfl, rfl, fun _ => rfl⟩
    | succ n ih =>
      intro found left h S P Z
      obtain ⟨p, x, q, rfl, L⟩ := ex_least (O := O) _ left rfl (fun e => by rw [e] at h; cases h)
      have zf := Z.left
      have zp : NZ p := Z.right.left
      have e0 : found ++ x :: (p ++ q) = found ++ [x] ++ (p ++ q) := by simp
      have P' : pl O (found ++ [x] ++ (p ++ q)) = true := by rw [← e0, ← pl_move L.free]; exact P
      have Z' : NZ (found ++ [x] ++ (p ++ q)) := fun y hy => Z y (by
        simp only [List.mem_append, List.mem_cons, List.mem_nil_iff, or_false] at hy ⊢
        rcases hy with (hy | hy) | hy | hy <;> simp [hy])
      obtain ⟨f, h1, h2, h3, h4⟩ := ih (found ++ [x]) (p ++ q) (by rw [List.length_append] at h ⊢; simp at h; omega) (S.step L) P' Z'
      refine ⟨f, h1, h2.trans ?_, h3.trans ?_, fun a => (h4 a).trans ?_⟩
      · rw [← e0, act_move L.free zf zp (show NF O [] from True.intro)]
      · simp only [List.length_append, List.length_cons, List.length_nil]
        omega
      · rw [← e0, near_move L.free]
  have := go l.length [] l rfl (Srt.nil l) (by simpa using hP) (by simpa using hZ)
  simpa using this
theorem near_pile {l : Row α} (hP : pl O l = true) (hZ : NZ l) (a : α) : (near O a (act O l []).reverse).isSome = (near O a l).isSome := by
  obtain ⟨f, h1, h2, _, h4⟩ := sort_ex hP hZ
  have e : (act O l []).reverse = f := by
    have := act_fix h1
    rw [List.reverse_reverse] at this
    rw [← h2, this, List.reverse_reverse]
  rw [e]
  exact h4 a
/-- a row is a pile exactly if its pile has as many pieces -/
theorem pile_iff {l : Row α} (hZ : NZ l) : (act O l []).length = l.length ↔ met O l = none := by
  constructor
  · intro h
    cases hm : met O l with
    | none => rfl
    | some ij =>
      obtain ⟨u, a, s, m, t, v, rfl, _, _, h5⟩ := met_some hm
      have hs : s ≠ 0 := hZ (a, s) (by simp)
      have ht : t ≠ 0 := hZ (a, t) (by simp)
      have zu : NZ u := hZ.left
      have zm : NZ m := fun w hw => hZ w (by simp [hw])
      rw [act_meet h5 hs ht zu zm (show NF O [] from True.intro)] at h
      have hl := act_len (O := O) (l := u ++ ((if s + t = 0 then [] else [(a, s + t)]) ++ (m ++ v))) (r := [])
      rw [h] at hl
      simp only [List.length_append, List.length_cons, List.length_nil] at hl
      by_cases h0 : s + t = 0
      · rw [if_pos h0] at hl
        simp at hl
        omega
      · rw [if_neg h0] at hl
        simp at hl
        omega
  · intro h
    obtain ⟨f, h1, h2, h3, _⟩ := sort_ex (O := O) (met_pl.mp h) hZ
    have := act_fix h1
    rw [List.reverse_reverse] at this
    rw [← h2, this, List.length_reverse, h3]
theorem pl_nf : ∀ {r : Row α}, NF O r → pl O r.reverse = true := fun {r} h => by
  have hz : NZ r.reverse := fun x hx => nf_nz h x (List.mem_reverse.mp hx)
  refine met_pl.mp ((pile_iff hz).mp ?_)
  rw [act_fix h, List.length_reverse]
/-! ### the other way round -/
theorem near_map {a : α} {g : α × Int → α × Int} (hg : ∀ x, (g x).1 = x.1) : ∀ {l : Row α}, near O a (l.map g) = near O a l
  | [] => rfl
  | x :: l => by
    show (if (g x).1 = a then some 0 else if O.tc (g x).1 a then none else (near O a (l.map g)).map (· + 1)) = _
    rw [near_map hg, hg]
    rfl
/-- none of one name behind one of the same that could come to it: told from the end -/
theorem pl_rev : ∀ {l : Row α}, pl O l = true → pl O l.reverse = true := by
  have key : ∀ (l : Row α), (∀ u a s m t v, l = u ++ (a, s) :: (m ++ (a, t) :: v) → ∃ w ∈ m, O.tc w.1 a = true) ↔ pl O l = true := by
    intro l
    constructor
    · intro h
      refine met_pl.mp ?_
      cases hm : met O l with
      | none => rfl
      | some ij =>
        obtain ⟨u, a, s, m, t, v, e, _, _, h5⟩ := met_some hm
        obtain ⟨w, hw, h6⟩ := h u a s m t v e
        rw [h5 w hw] at h6
        cases h6
    · intro h u a s m t v e
      by_cases hex : ∃ w ∈ m, O.tc w.1 a = true
      · exact hex
      · exact absurd rfl (pl_ne (O := O) (x := (a, t)) (y := (a, s)) (u := u) (v := m) (q := v) (by rw [← e]; exact h) fun w hw => by
          cases q : O.tc w.1 a
          · rfl
          · exact absurd ⟨w, hw, q⟩ hex)
  intro l h
  refine (key _).mp fun u a s m t v e => ?_
  have e2 : l = v.reverse ++ (a, t) :: (m.reverse ++ (a, s) :: u.reverse) := by
    have := congrArg List.reverse e
    simpa using this
  obtain ⟨w, hw, hc⟩ := (key l).mpr h _ _ _ _ _ _ e2
  exact ⟨w, List.mem_reverse.mp hw, hc⟩
theorem pl_map {g : α × Int → α × Int} (hg : ∀ x, (g x).1 = x.1) : ∀ {l : Row α}, pl O (l.map g) = pl O l
  | [] => rfl
  | x :: l => by
    show ((near O (g x).1 (l.map g)).isNone && pl O (l.map g)) = _
    rw [near_map hg, hg, pl_map hg]
    rfl
/-- what can stand last in a pile can stand first in that of what takes back -/
theorem near_back {l : Row α} (hZ : NZ l) (a : α) : (near O a (act O (back l) []).reverse).isSome = (near O a (act O l [])).isSome := by
  have hN : NF O (act O l []) := nf_act hZ (show NF O [] from True.intro)
  have hz : NZ (act O l []).reverse := fun x hx => nf_nz hN x (List.mem_reverse.mp hx)
  have e : act O (back l) [] = act O (back (act O l []).reverse) [] := act_back_eq hZ hz (act_fix hN).symm (show NF O [] from True.intro)
  have hb : back (act O l []).reverse = (act O l []).map fun x => (x.1, -x.2) := by
    unfold back
    rw [List.map_reverse, List.reverse_reverse]
  have hp : pl O ((act O l []).map fun x => (x.1, -x.2)) = true := by
    rw [pl_map (g := fun x => (x.1, -x.2)) fun _ => rfl]
    have := pl_rev (pl_nf hN)
    rwa [List.reverse_reverse] at this
  rw [e, hb, near_pile hp (by rw [← hb]; exact back_nz hz), near_map (g := fun x => (x.1, -x.2)) fun _ => rfl]
/-! ### names that can stand first, in their order -/
def frs (O : Ord α) (bar : Row α) : Row α → List α
  | [] => []
  | x :: r => if bar.all (fun w => !O.tc w.1 x.1) then x.1 :: frs O (bar ++ [x]) r else frs O (bar ++ [x]) r
theorem mem_frs {n : α} : ∀ {l bar : Row α}, n ∈ frs O bar l ↔ (∀ w ∈ bar, O.tc w.1 n = false) ∧ (near O n l).isSome = true
  | [], bar => by simp [frs, near]
  | x :: l, bar => by
    have ih := mem_frs (n := n) (l := l) (bar := bar ++ [x])
    have all_iff : (bar.all fun w => !O.tc w.1 x.1) = true ↔ ∀ w ∈ bar, O.tc w.1 x.1 = false := by simp
    have hx : (∀ w ∈ bar ++ [x], O.tc w.1 n = false) ↔ (∀ w ∈ bar, O.tc w.1 n = false) ∧ O.tc x.1 n = false := by
      constructor
      · exact fun h => ⟨fun w hw => h w (by simp [hw]), h x (by simp)⟩
      · rintro ⟨h1, h2⟩ w hw
        rcases List.mem_append.mp hw with hw | hw
        · exact h1 w hw
        · rw [List.mem_singleton.mp hw]
          exact h2
    rw [hx] at ih
    unfold frs near
    by_cases e : x.1 = n
    · subst e
      rw [if_pos rfl]
      simp only [Option.isSome_some, and_true]
      have no : x.1 ∉ frs O (bar ++ [x]) l := fun hm => by
        have := (ih.mp hm).1.2
        rw [O.refl] at this
        cases this
      split
      · rename_i h
        exact ⟨fun _ => all_iff.mp h, fun _ => List.mem_cons_self⟩
      · rename_i h
        exact ⟨fun hm => absurd hm no, fun hb => absurd (all_iff.mpr hb) h⟩
    · rw [if_neg e]
      have base : n ∈ frs O (bar ++ [x]) l ↔ (∀ w ∈ bar, O.tc w.1 n = false) ∧ (if O.tc x.1 n then none else (near O n l).map (· + 1)).isSome = true := by
        rw [ih]
        cases hc : O.tc x.1 n <;> simp
      split
      · rw [List.mem_cons]
        exact ⟨fun h => h.elim (fun q => absurd q.symm e) base.mp, fun h => .inr (base.mpr h)⟩
      · exact base
theorem nodup_frs : ∀ {l bar : Row α}, (frs O bar l).Nodup
  | [], _ => List.nodup_nil
  | x :: l, bar => by
    have ih := nodup_frs (l := l) (bar := bar ++ [x])
    unfold frs
    split
    · refine List.nodup_cons.mpr ⟨fun hm => ?_, ih⟩
      have := (mem_frs.mp hm).1 x (by simp)
      rw [O.refl] at this
      cases this
    · exact ih
end
end XM
set_option Elab.async false
set_option linter.all false
set_option maxRecDepth 100000
set_option maxHeartbeats 4000000
namespace XB
open PySem PySem.Spec PyProof.Rows L2
/-! ### the order of texts is one -/
theorem str_ext {a b : Str} (h : a.cps.toList = b.cps.toList) : a = b := by
  obtain ⟨⟨x⟩⟩ := a
  obtain ⟨⟨y⟩⟩ := b
  have h : x = y := h
  rw [h]
theorem sLt_irr (a : Str) : sLt a a = false := decide_eq_false (List.lt_irrefl _)
theorem sLt_trans (a b c : Str) (h : sLt a b = true) (g : sLt b c = true) : sLt a c = true := decide_eq_true (List.lt_trans (of_decide_eq_true h) (of_decide_eq_true g))
theorem sLt_tot (a b : Str) (n : a ≠ b) (h : sLt a b = false) : sLt b a = true := by
  have h1 : ¬ a.cps.toList < b.cps.toList := of_decide_eq_false h
  refine decide_eq_true ?_
  have h2 : b.cps.toList ≤ a.cps.toList := List.not_lt.mp h1
  rcases Classical.em (b.cps.toList < a.cps.toList) with h3 | h3
  · exact h3
  · exact absurd (str_ext (List.le_antisymm (List.not_lt.mp h3) h2)) n
/-! ### fields and rows of steps as data -/
structure Fld where
  names : List Str
  pairs : List (Str × Str)
def apart (F : Fld) (a b : Str) : Bool := F.pairs.contains (a, b) || F.pairs.contains (b, a)
def OF (F : Fld) : XM.Ord Str where
  tc := fun a b => decide (a = b) || !apart F a b
  lt := sLt
  refl := fun a => by simp
  symm := fun a b => by
    unfold apart
    rw [Bool.or_comm (F.pairs.contains (a, b))]
    congr 1
    exact decide_eq_decide.mpr ⟨Eq.symm, Eq.symm⟩
  irr := sLt_irr
  trans := sLt_trans
  tot := sLt_tot
/-- what a field keeps, as far as the functions of piles lean on it -/
structure Fld.Ok (F : Fld) : Prop where
  n0 : 0 < F.names.length
  n6 : F.names.length ≤ 6
  asc : ∀ p ∈ F.pairs, sLt p.1 p.2 = true
  inN : ∀ p ∈ F.pairs, p.1 ∈ F.names ∧ p.2 ∈ F.names
  sgn : ∀ n ∈ F.names, 1 ≤ n.length ∧ n.length ≤ 6 ∧ ∀ c ∈ n.cps.toList, 97 ≤ c ∧ c ≤ 122
  asN : F.names.Pairwise fun a b => sLt a b = true
  asP : F.pairs.Pairwise fun p q => (if p.1 == q.1 then (if p.2 == q.2 then false else sLt p.2 q.2) else sLt p.1 q.1) = true
  len : F.pairs.length ≤ 100
theorem apart_ne {F : Fld} (ok : F.Ok) {a : Str} : apart F a a = false := by
  have h : ¬ (a, a) ∈ F.pairs := fun h => by
    have := ok.asc _ h
    rw [sLt_irr] at this
    cases this
  unfold apart
  simp [h]
theorem tc_eq {F : Fld} (ok : F.Ok) (a b : Str) : (OF F).tc a b = !apart F a b := by
  show (decide (a = b) || !apart F a b) = _
  by_cases e : a = b
  · subst e
    rw [apart_ne ok]
    simp
  · simp [e]
/-- as the program asks it: the less one first -/
theorem apart_min {F : Fld} (ok : F.Ok) (a b : Str) : F.pairs.contains ((if sLt b a then b else a), (if sLt a b then b else a)) = apart F a b := by
  unfold apart
  cases h : sLt a b
  · by_cases e : a = b
    · subst e
      rw [sLt_irr]
      simp
    · have h2 := sLt_tot _ _ e h
      rw [h2]
      have n : ¬ (a, b) ∈ F.pairs := fun q => by
        have := ok.asc _ q
        rw [h] at this
        cases this
      simp [n]
  · have h2 : sLt b a = false := by
      cases q : sLt b a
      · rfl
      · have := sLt_trans _ _ _ h q
        rw [sLt_irr] at this
        cases this
    rw [h2]
    have n : ¬ (b, a) ∈ F.pairs := fun q => by
      have := ok.asc _ q
      rw [h2] at this
      cases this
    simp [n]
def touchL (F : Fld) (n : Str) : List Str := F.names.filter fun o => !apart F n o
theorem mem_touch {F : Fld} {a b : Str} (ok : F.Ok) (hb : b ∈ F.names) : (touchL F a).contains b = (OF F).tc b a := by
  rw [(OF F).symm, tc_eq ok]
  unfold touchL
  cases h : apart F a b <;> simp [hb, h]
def dPair (p : Str × Str) : PyData := .tuple [.str p.1, .str p.2]
def dNames (l : List Str) : PyData := .tuple (l.map .str)
def dField (F : Fld) : PyData := .tuple [dNames F.names, .tuple (F.pairs.map dPair)]
def dStep (s : Str × Int) : PyData := .tuple [.str s.1, .int s.2]
def dSteps (l : List (Str × Int)) : PyData := .tuple (l.map dStep)
/-! ### what stands while other things change -/
/-- tuples stand -/
structure Tk (H H' : Hp) : Prop where
  t : ∀ b xs, H b = some (.tup xs) → H' b = some (.tup xs)
  z : ∀ b o u, H b = some (.frz o u) → H' b = some (.frz o u)
theorem Tk.refl {H : Hp} : Tk H H := ⟨fun _ _ e => e, fun _ _ _ e => e⟩
theorem Tk.trans {H H1 H2 : Hp} (a : Tk H H1) (b : Tk H1 H2) : Tk H H2 := ⟨fun x xs e => b.t x xs (a.t x xs e), fun x o u e => b.z x o u (a.z x o u e)⟩
theorem Tk.of {H H1 : Hp} (a : Same H H1) : Tk H H1 := ⟨fun x xs e => a x _ e, fun x o u e => a x _ e⟩
theorem Tk.new {H H1 : Hp} {p : Addr} {o : HO} (a : Tk H H1) (hp : H1 p = none) : Tk H (upd H1 p o) := a.trans (Tk.of (same_upd hp))
theorem Tk.mut {H H1 : Hp} {p : Addr} {o u : HO} (a : Tk H H1) (hp : H1 p = some u) (h1 : ∀ xs, u ≠ .tup xs) (h2 : ∀ o' u', u ≠ .frz o' u') : Tk H (upd H1 p o) :=
  a.trans ⟨fun b xs e => by rw [upd_ne (ne_of e hp fun q => h1 xs q.symm)]; exact e, fun b o' u' e => by rw [upd_ne (ne_of e hp fun q => h2 o' u' q.symm)]; exact e⟩
theorem Tk.lst {H H1 : Hp} {p : Addr} {o : HO} {xs : List V} (a : Tk H H1) (hp : H1 p = some (.lst xs)) : Tk H (upd H1 p o) := a.mut hp (fun _ q => nomatch q) (fun _ _ q => nomatch q)
theorem Tk.sqT {K : PySem.W.Frag} {H H' : Hp} {a : Addr} {xs : List V} (k : Tk H H') (h : SqT K H a xs) : SqT K H' a xs := by
  rcases h with h | h
  · rcases h with h | ⟨o, h⟩
    · exact .inl (.inl (k.t _ _ h))
    · exact .inl (.inr ⟨o, k.z _ _ _ h⟩)
  · exact .inr h
mutual
def flatD : PyData → Bool
  | .none | .bool _ | .int _ | .str _ => true
  | .tuple xs => flatAll xs
  | .list _ | .dict _ => false
def flatAll : List PyData → Bool
  | [] => true
  | x :: xs => flatD x && flatAll xs
end
mutual
theorem Dp.tk {K : PySem.W.Frag} {H H' : Hp} (k : Tk H H') : ∀ (d : PyData) {v : V}, flatD d = true → Dp K H v d → Dp K H' v d
  | .none, _, _, h => by cases h; exact .non
  | .bool b, _, _, h => by cases h; exact .bl b
  | .int i, _, _, h => by cases h; exact .int i
  | .str x, _, _, h => by cases h; exact .str x
  | .tuple ds, _, hf, h => by
    cases h with
    | tup hs ha => exact .tup (k.sqT hs) (DpAll.tk k ds (by simpa only [flatD] using hf) ha)
  | .list _, _, hf, _ => by simp only [flatD] at hf; cases hf
  | .dict _, _, hf, _ => by simp only [flatD] at hf; cases hf
theorem DpAll.tk {K : PySem.W.Frag} {H H' : Hp} (k : Tk H H') : ∀ (ds : List PyData) {vs : List V}, flatAll ds = true → DpAll K H vs ds → DpAll K H' vs ds
  | [], _, _, h => by cases h; exact .nil
  | d :: ds, _, hf, h => by
    simp only [flatAll, Bool.and_eq_true] at hf
    cases h with
    | cons h1 h2 => exact .cons (Dp.tk k d hf.1 h1) (DpAll.tk k ds hf.2 h2)
end
theorem flatAll_of : ∀ {l : List PyData}, (∀ d ∈ l, flatD d = true) → flatAll l = true
  | [], _ => rfl
  | d :: l, h => by
    simp only [flatAll, Bool.and_eq_true]
    exact ⟨h d List.mem_cons_self, flatAll_of fun x hx => h x (List.mem_cons_of_mem _ hx)⟩
theorem flat_step (s : Str × Int) : flatD (dStep s) = true := rfl
theorem flat_all_steps (l : List (Str × Int)) : flatAll (l.map dStep) = true := flatAll_of fun d hd => by
  obtain ⟨s, _, rfl⟩ := List.mem_map.mp hd
  exact flat_step s
theorem flat_steps (l : List (Str × Int)) : flatD (dSteps l) = true := by
  show flatD (.tuple _) = true
  simp only [flatD]
  exact flat_all_steps l
theorem flat_names (l : List Str) : flatD (dNames l) = true := by
  show flatD (.tuple _) = true
  simp only [flatD]
  exact flatAll_of fun d hd => by
    obtain ⟨s, _, rfl⟩ := List.mem_map.mp hd
    rfl
theorem flat_field (F : Fld) : flatD (dField F) = true := by
  show flatD (.tuple _) = true
  simp only [flatD, flatAll, flat_names, Bool.true_and, Bool.and_true]
  exact flatAll_of fun d hd => by
    obtain ⟨s, _, rfl⟩ := List.mem_map.mp hd
    rfl
end XB
namespace L2
open PySem PySem.Spec PyProof.Rows XB
/-! ### rows of data by places -/
section
variable {K : PySem.W.Frag} {H : Hp}
theorem DpAll.len : ∀ {vs : List V} {ds : List PyData}, DpAll K H vs ds → vs.length = ds.length
  | _, _, .nil => rfl
  | _, _, .cons _ t => by rw [List.length_cons, List.length_cons, DpAll.len t]
theorem DpAll.get : ∀ {vs : List V} {ds : List PyData} {i : Nat} {v : V}, DpAll K H vs ds → vs[i]? = some v → ∃ d, ds[i]? = some d ∧ Dp K H v d
  | _, _, _, _, .nil, e => by simp at e
  | _, _, 0, _, .cons h _, e => by
    cases e
    exact ⟨_, rfl, h⟩
  | _, _, i + 1, _, .cons _ t, e => DpAll.get (i := i) t (by simpa using e)
theorem DpAll.app : ∀ {vs ws : List V} {ds es : List PyData}, DpAll K H vs ds → DpAll K H ws es → DpAll K H (vs ++ ws) (ds ++ es)
  | _, _, _, _, .nil, s => s
  | _, _, _, _, .cons h t, s => .cons h (DpAll.app t s)
theorem DpAll.take : ∀ {vs : List V} {ds : List PyData} (n : Nat), DpAll K H vs ds → DpAll K H (vs.take n) (ds.take n)
  | _, _, 0, _ => .nil
  | _, _, _ + 1, .nil => .nil
  | _, _, n + 1, .cons h t => .cons h (DpAll.take n t)
theorem DpAll.drop : ∀ {vs : List V} {ds : List PyData} (n : Nat), DpAll K H vs ds → DpAll K H (vs.drop n) (ds.drop n)
  | _, _, 0, h => h
  | _, _, _ + 1, .nil => .nil
  | _, _, n + 1, .cons _ t => DpAll.drop n t
theorem DpAll.rev : ∀ {vs : List V} {ds : List PyData}, DpAll K H vs ds → DpAll K H vs.reverse ds.reverse
  | _, _, .nil => .nil
  | _, _, .cons h t => by
    rw [List.reverse_cons, List.reverse_cons]
    exact (DpAll.rev t).app (.cons h .nil)
theorem DpAll.strs : ∀ l : List Str, DpAll K H (l.map V.str) (l.map PyData.str)
  | [] => .nil
  | x :: l => .cons (.str x) (DpAll.strs l)
theorem DpAll.of_strs : ∀ {l : List Str} {vs : List V}, DpAll K H vs (l.map PyData.str) → vs = l.map V.str
  | [], _, h => by
    cases h
    rfl
  | x :: l, _, h => by
    cases h with
    | cons h1 h2 =>
      cases h1
      rw [DpAll.of_strs h2]
      rfl
theorem Dp.step {v : V} {s : Str × Int} (h : Dp K H v (dStep s)) : ∃ a, v = .ref a ∧ SqT K H a [.str s.1, .int s.2] := by
  cases h with
  | tup hs ha =>
    cases ha with
    | cons h1 t =>
      cases t with
      | cons h2 t =>
        cases t
        cases h1
        cases h2
        exact ⟨_, rfl, hs⟩
theorem Dp.of_step {a : Addr} {s : Str × Int} (h : SqT K H a [.str s.1, .int s.2]) : Dp K H (.ref a) (dStep s) := .tup h (.cons (.str _) (.cons (.int _) .nil))
theorem Dp.pair {v : V} {s : Str × Str} (h : Dp K H v (dPair s)) : ∃ a, v = .ref a ∧ SqT K H a [.str s.1, .str s.2] := by
  cases h with
  | tup hs ha =>
    cases ha with
    | cons h1 t =>
      cases t with
      | cons h2 t =>
        cases t
        cases h1
        cases h2
        exact ⟨_, rfl, hs⟩
theorem Dp.steps {v : V} {l : List (Str × Int)} (h : Dp K H v (dSteps l)) : ∃ a vs, v = .ref a ∧ SqT K H a vs ∧ DpAll K H vs (l.map dStep) := by
  cases h with
  | tup hs ha => exact ⟨_, _, rfl, hs, ha⟩
theorem Dp.field {v : V} {F : Fld} (h : Dp K H v (dField F)) : ∃ a n p ps, v = .ref a ∧ SqT K H a [.ref n, .ref p] ∧ SqT K H n (F.names.map V.str) ∧ SqT K H p ps ∧ DpAll K H ps (F.pairs.map dPair) := by
  cases h with
  | tup hs ha =>
    cases ha with
    | cons h1 t =>
      cases t with
      | cons h2 t =>
        cases t
        cases h1 with
        | tup n1 n2 =>
          cases h2 with
          | tup p1 p2 =>
            rw [DpAll.of_strs n2] at n1
            exact ⟨_, _, _, _, rfl, hs, n1, p1, p2⟩
/-- the step at a place -/
theorem DpAll.step {vs : List V} {l : List (Str × Int)} {i : Nat} {s : Str × Int} (h : DpAll K H vs (l.map dStep)) (e : l[i]? = some s) : ∃ a, vs[i]? = some (.ref a) ∧ SqT K H a [.str s.1, .int s.2] := by
  have hl := h.len
  rw [List.length_map] at hl
  have hi : i < vs.length := by
    rw [hl]
    exact (List.getElem?_eq_some_iff.mp e).1
  obtain ⟨d, hd, hv⟩ := h.get (List.getElem?_eq_getElem hi)
  rw [List.getElem?_map, e] at hd
  cases hd
  obtain ⟨a, ha, hs⟩ := hv.step
  exact ⟨a, by rw [List.getElem?_eq_getElem hi, ha], hs⟩
end
end L2
set_option Elab.async false
set_option linter.all false
set_option maxRecDepth 100000
set_option maxHeartbeats 4000000
/-! defs that raise, called by their names; what stands when the tables of code objects grow -/
namespace XB
open PySem PySem.Spec PyProof.Rows L2
section
variable {P : Program} {w : World} {K : PySem.W.Frag} {mg : Str → Option Value} {base : Heap}
theorem clX {x : Str} {st : Stmt} {N ps : List Str} {k : Nat} {sp : Sp} (D : Dn K mg x st)
    (hb : ∀ (kV doc pm : Value) (an : Option Addr) (cdv ct : Value) (us : List Value), us.length = ps.length → bindArgs (PySem.W.fnOf x x (defArgs st) (defBody st) (defScope st) .none kV doc pm an cdv ct) ⟨us, []⟩ = pure (ps.zip us))
    (S : FnScope N ps (defScope st)) (len : ∀ vs H Q E, sp vs H Q E → vs.length = ps.length)
    (hbody : ∀ (f : Addr) (cdv : Value) (A : Around) (outer : List Env) (s : Shared) (H : Hp) (vs : List V) (Q : VK) (E : XK), Room k (A.deeper (envOfC x (defScope st) s.heap.objs.size f cdv)) → sp vs H Q E →
      ∃ t, PSs (cxOf (L2.CX P w) P w K mg base N x (defScope st) f cdv A outer s H E) (defBody st) t ∧ t { nx := fun _ H' => Q .non H', rt := Q } (start N vs) H) : Cl P w K mg base (L2.CX P w) (k + 1) x sp := by
  obtain ⟨f, fd, F, hm⟩ := D.ex
  exact ⟨f, fd, ps, F.okX S len (fun cdv A outer s H vs Q E hr h => hbody f cdv A outer s H vs Q E hr h), hm, F.kp, F.binds hb⟩
end
section
variable {X : Cx} {k j : Nat} {x : Str} {sp : Sp} {p pos : Pos} {e : Expr} {es : List Expr} {t : TA} {E : XK}
/-- a def that may raise, called where what it raises may pass -/
theorem pe_kX (c : Cl X.prog X.w X.K X.mg X.base (L2.CX X.prog X.w) k x sp) (hr : Room j X.A) (hk : k ≤ j) (tk : Takes X fun cls d _ H => E cls d H) (hg : Gl X x) (ha : PA X (e :: es) t)
    (hdb : (x == ("__debug__" : Str)) = false := by decide) (he : starEach (e :: es) X.env = (false, eval e X.env) :: starEach es X.env := by rfl) (hpl : (backTo pos (starEach es X.env)).any (·.1) = false := by rfl) :
    PE X (.Call (.Name x p) (e :: es) [] pos) (tCall sp [] E t) := by
  obtain ⟨f, fd, ps, F, hm, kp, b⟩ := c.ex
  exact pe_call F (hr.mono hk) hg hm kp b .nil (passes_call tk fun _ _ _ _ h => h) ha hdb he hpl
/-- a def that may raise, called where nothing it raises can come about -/
theorem pe_kL (c : Cl X.prog X.w X.K X.mg X.base (L2.CX X.prog X.w) k x sp) (hr : Room j X.A) (hk : k ≤ j) (hg : Gl X x) (ha : PA X (e :: es) t)
    (hdb : (x == ("__debug__" : Str)) = false := by decide) (he : starEach (e :: es) X.env = (false, eval e X.env) :: starEach es X.env := by rfl) (hpl : (backTo pos (starEach es X.env)).any (·.1) = false := by rfl) :
    PE X (.Call (.Name x p) (e :: es) [] pos) (tCall sp [] E0 t) := by
  obtain ⟨f, fd, ps, F, hm, kp, b⟩ := c.ex
  exact pe_call F (hr.mono hk) hg hm kp b .nil passL ha hdb he hpl
end
/-! ### the tables of code objects grow, all else stands -/
open LamX (ExtN Tabs TabS)
theorem extN_tk {H H' : Hp} (s : ExtN H H') : Tk H H' := ⟨fun b xs e => s b _ e fun ps z => (nomatch z), fun b o u e => s b _ e fun ps z => (nomatch z)⟩
theorem extN_at {H H' : Hp} (s : ExtN H H') {b : Addr} {o : HO} (e : H b = some o) (n : ∀ ps, o ≠ .tbl ps) : H' b = some o := s b o e n
theorem extN_lst {H H' : Hp} (s : ExtN H H') {b : Addr} {xs : List V} (e : H b = some (.lst xs)) : H' b = some (.lst xs) := s b _ e fun ps z => (nomatch z)
theorem extN_seq {K : PySem.W.Frag} {H H' : Hp} (s : ExtN H H') {a : Addr} {xs : List V} (h : SqL K H a xs) : SqL K H' a xs := by
  rcases h with h | h
  · rcases h with h | ⟨o, h⟩
    · exact .inl (.inl (extN_lst s h))
    · exact .inl (.inr ⟨o, s a _ h fun ps z => (nomatch z)⟩)
  · exact .inr h
mutual
theorem Dp.ext {K : PySem.W.Frag} {H H' : Hp} (s : ExtN H H') : ∀ (d : PyData) {v : V}, Dp K H v d → Dp K H' v d
  | .none, _, h => by cases h; exact .non
  | .bool b, _, h => by cases h; exact .bl b
  | .int i, _, h => by cases h; exact .int i
  | .str x, _, h => by cases h; exact .str x
  | .list ds, _, h => by
    cases h with
    | lst h1 h2 => exact .lst (extN_seq s h1) (DpAll.ext s ds h2)
  | .tuple ds, _, h => by
    cases h with
    | tup h1 h2 => exact .tup ((extN_tk s).sqT h1) (DpAll.ext s ds h2)
  | .dict _, _, h => by cases h
theorem DpAll.ext {K : PySem.W.Frag} {H H' : Hp} (s : ExtN H H') : ∀ (ds : List PyData) {vs : List V}, DpAll K H vs ds → DpAll K H' vs ds
  | [], _, h => by cases h; exact .nil
  | d :: ds, _, h => by
    cases h with
    | cons h1 h2 => exact .cons (Dp.ext s d h1) (DpAll.ext s ds h2)
end
theorem tabs_same {H H' : Hp} {T : List (Addr × Str)} (t : Tabs T H) (s : Same H H') : Tabs T H' := t.ext s
theorem tabs_first {H : Hp} {c P : Addr} {q : Str} (h : H P = some (.tbl #[])) : Tabs [(P, q)] H := fun y hy => by
  rw [List.mem_singleton.mp hy]
  exact TabS.nil h
theorem extN_same {H H' : Hp} (s : Same H H') : ExtN H H' := ExtN.of s
end XB
set_option Elab.async false
set_option linter.all false
set_option maxRecDepth 100000
set_option maxHeartbeats 4000000
namespace XB
open PySem PySem.Spec PyProof.Rows L2
theorem tyx_tup {K : PySem.W.Frag} {H : Hp} {a : Addr} {xs : List V} (h : SqT K H a xs) : TyX K H (.ref a) (.type "tuple") := by
  rcases h with (h | ⟨o, h⟩) | ⟨o, its, n, hk, hc, _⟩
  · exact .base (.tup h)
  · exact .fTuple h
  · exact .kTuple hk hc
section
variable {X : Cx} {e : Expr} {te : TE} {x : Str} {p q pos : Pos}
/-- isinstance(e, T), T a built-in class -/
theorem pe_isT (T : String) (hgI : Gl X "isinstance") (hmI : X.mg "isinstance" = none) (hgT : Gl X x) (hmT : X.mg x = none) (hv : bootBuiltins x = some (.type T)) (he : PE X e te)
    (hn : x ≠ "__name__" := by decide) (hdb : (x == ("__debug__" : Str)) = false := by decide)
    (h1 : starEach [e, .Name x q] X.env = (false, eval e X.env) :: starEach [.Name x q] X.env := by rfl) (h2 : starEach [.Name x q] X.env = (false, eval (.Name x q) X.env) :: starEach [] X.env := by rfl) :
    PE X (.Call (.Name "isinstance" p) [e, .Name x q] [] pos) (tCB (rIsi X.K) (tCons te (tCons (tC (.ty T)) tNil))) :=
  pe_callB call_isi hgI hmI (by decide +kernel) (pa_cons he (pa_cons (pe_bltn (v := .ty T) hgT hmT hv rfl hn hdb) pa_nil h2) h1) (by decide) (by decide) h1 (by rw [h2]; rfl)
/-- len(e) of a list or a tuple -/
theorem pe_lenS (hg : Gl X "len") (hm : X.mg "len" = none) (he : PE X e te) (h1 : starEach [e] X.env = (false, eval e X.env) :: starEach [] X.env := by rfl) :
    PE X (.Call (.Name "len" p) [e] [] pos) (tCB (fun xs H Q => ∃ p ys, xs = [V.ref p] ∧ (SqL X.K H p ys ∨ SqT X.K H p ys) ∧ Q (.int ys.length) H) (tCons te tNil)) :=
  pe_callB call_len_seq hg hm PySem.boot_len (pa_cons he pa_nil h1) (by decide) (by decide) h1 (by rfl)
/-- len(e) of a text -/
theorem pe_lenT (hg : Gl X "len") (hm : X.mg "len" = none) (he : PE X e te) (h1 : starEach [e] X.env = (false, eval e X.env) :: starEach [] X.env := by rfl) :
    PE X (.Call (.Name "len" p) [e] [] pos) (tCB (fun xs H Q => ∃ z, xs = [V.str z] ∧ z.length ≤ sizeLine ∧ Q (.int z.length) H) (tCons te tNil)) :=
  pe_callB call_len_str hg hm PySem.boot_len (pa_cons he pa_nil h1) (by decide) (by decide) h1 (by rfl)
theorem walk_zipT {K : PySem.W.Frag} {a b : Addr} {xs ys : List V} {n : Nat} (hn : n = min xs.length ys.length) : Walk (RZ.ItzT K a b) n (fun H => SqT K H a xs ∧ SqT K H b ys) (YPair (fun i => xs[i]?) (fun i => ys[i]?)) := by
  subst hn
  constructor
  · intro i H hi q
    have h1 : i < xs.length := by omega
    have h2 : i < ys.length := by omega
    exact ⟨xs, ys, xs[i], ys[i], q.1, q.2, List.getElem?_eq_getElem h1, List.getElem?_eq_getElem h2⟩
  · intro H q
    exact ⟨xs, ys, q.1, q.2, by omega⟩
  · rintro i H v H' _ q ⟨T, x, z, h1, h2, h3, h4, h5⟩
    exact ⟨T, x, z, h1, h2, h3, h4 xs q.1, h5 ys q.2⟩
theorem cut_tail (xs : List V) : cutV xs (some 1) none = xs.drop 1 := by
  unfold cutV
  rw [show HT.sIx xs.length 0 (some 1) = min 1 xs.length from HT.sIx_nat xs.length 0 1, HT.sIx_none]
  cases xs with
  | nil => rfl
  | cons x r =>
    rw [List.length_cons, show min 1 (r.length + 1) = 1 by omega]
    show List.take (r.length + 1 - 1) r = r
    rw [Nat.add_sub_cancel]
    exact List.take_length
/-- the rules within a comprehension's block, where the written part is told by its name -/
theorem op_ltSSk {X : Cx} {K : PySem.W.Frag} (hk : X.K = K) (hu : X.A.units + 64 < cLine) : OpR X (compareOp .Lt) (fun x y H Q => ∃ p q a b c d, x = .ref p ∧ y = .ref q ∧ SqT K H p [.str a, .str b] ∧ SqT K H q [.str c, .str d] ∧ Q (.bl (if a == c then (if b == d then false else sLt b d) else sLt a c)) H) := by
  subst hk
  exact op_ltSS hu
theorem ixk_list {X : Cx} {K : PySem.W.Frag} (hk : X.K = K) : IxR X (rIxL K) := by
  subst hk
  exact ix_list
theorem ixk_tup {X : Cx} {K : PySem.W.Frag} (hk : X.K = K) : IxR X (rIxT K) := by
  subst hk
  exact ix_tup
theorem opk_in_seq {X : Cx} {K : PySem.W.Frag} (hk : X.K = K) : OpR X (compareOp .In) (rIn K false) := by
  subst hk
  exact op_in_seq
theorem opk_notIn_seq {X : Cx} {K : PySem.W.Frag} (hk : X.K = K) : OpR X (compareOp .NotIn) (rIn K true) := by
  subst hk
  exact op_notIn_seq
theorem noPart {σ : L2.St} {H : Hp} {Q : Option Int → Hp → Prop} (h : Q none H) : tNoPart σ H Q := h
/-- t[1:] of a tuple, whatever its length -/
theorem sl_tail {K : PySem.W.Frag} {H : Hp} {a : Addr} {xs : List V} {Q : VK} (h : SqT K H a xs) (q0 : xs = [] → Q (.ref a) H) (q1 : xs ≠ [] → ∀ p, H p = none → Q (.ref p) (upd H p (.tup (xs.drop 1)))) : rSlA K (.ref a) (some 1) none H Q := by
  refine ⟨a, xs, rfl, h, fun e => q0 ?_, fun hn p hp => ?_⟩
  · have e1 : HT.sIx xs.length 0 (some 1) = min 1 xs.length := HT.sIx_nat xs.length 0 1
    rw [e1] at e
    cases xs with
    | nil => rfl
    | cons x r =>
      rw [List.length_cons] at e
      omega
  · rw [cut_tail]
    refine q1 (fun e => ?_) p hp
    subst e
    exact hn ⟨rfl, rfl⟩
end
end XB
set_option Elab.async false
set_option linter.all false
set_option maxRecDepth 100000
set_option maxHeartbeats 4000000
/-! own classes by their names: what stands in the module, promises of methods, their calls -/
namespace XB
open PySem PySem.Spec PyProof.Rows L2
/-- an own class that stands in the module -/
structure Oc (K : PySem.W.Frag) (mg : Str → Option Value) (x : Str) : Prop where
  ex : ∃ C, mg x = some (.ref C) ∧ Cls K C ∧ PySem.W.selfFirst K C = true ∧ PySem.W.makesIn K C = true ∧ PySem.W.keepIn K (.ref C) = true
  isx : ∃ C, mg x = some (.ref C) ∧ PySem.W.findIn K (.ref C) "__class__" = some (some (.builtin "object.__class__")) ∧ PySem.W.specialIn K (.builtin "object.__class__") "__get__" = some (some (.builtin "getset_descriptor.__get__")) ∧ PySem.W.takesIn K (.builtin "object.__class__") = some true ∧ PySem.W.mroIn K C (.type "object") = some true
/-- a method of an own class -/
structure Mt (K : PySem.W.Frag) (mg : Str → Option Value) (x m q : Str) (st : Stmt) : Prop where
  ex : ∃ (C f : Addr) (fd : FuncData), mg x = some (.ref C) ∧ Meth K C m f ∧ Fun K m q st f fd
/-- a property of an own class -/
structure Pt (K : PySem.W.Frag) (mg : Str → Option Value) (x m q : Str) (st : Stmt) : Prop where
  ex : ∃ (C p g : Addr) (fd : FuncData), mg x = some (.ref C) ∧ PropOf K C m p g ∧ Fun K m q st g fd
/-- a thing of an own class, with its fields -/
def Ins (mg : Str → Option Value) (x : Str) (H : Hp) (a : Addr) (fs : List (Str × V)) : Prop := ∃ C dx, mg x = some (.ref C) ∧ H a = some (.ins C dx fs)
theorem ins_eq {mg : Str → Option Value} {x : Str} {C : Addr} (hm : mg x = some (.ref C)) (H : Hp) (a : Addr) (fs : List (Str × V)) : Ins mg x H a fs = ∃ dx, H a = some (.ins C dx fs) := by
  refine propext ⟨fun ⟨D, dx, h1, h2⟩ => ?_, fun ⟨dx, h⟩ => ⟨C, dx, hm, h⟩⟩
  rw [cls_eq h1 hm] at h2
  exact ⟨dx, h2⟩
/-- what is no thing of an own class: things of built-in classes -/
def KitD (K : PySem.W.Frag) (mg : Str → Option Value) (x : Str) : Prop := ∀ C, mg x = some (.ref C) → ∀ T ∈ (["NoneType", "int", "bool", "str", "tuple", "list", "dict"] : List String), PySem.W.kitOne K (.type T) (.ref C) = some false
theorem oc_cls {K : PySem.W.Frag} {mg : Str → Option Value} {x : Str} {C : Addr} (O : Oc K mg x) (hm : mg x = some (.ref C)) : Cls K C := by
  obtain ⟨D, hd, hc, _⟩ := O.ex
  rw [cls_eq hd hm] at hc
  exact hc
/-- the class of a thing of an own class -/
theorem tyx_ins {K : PySem.W.Frag} {mg : Str → Option Value} {x : Str} {C : Addr} {H : Hp} {a : Addr} {fs : List (Str × V)} (O : Oc K mg x) (hm : mg x = some (.ref C)) (h : Ins mg x H a fs) : TyX K H (.ref a) (.ref C) := by
  rw [ins_eq hm] at h
  obtain ⟨dx, h⟩ := h
  obtain ⟨D, hd, h1, h2, h3, h4⟩ := O.isx
  rw [cls_eq hd hm] at h1 h4
  exact .base (.ins h (oc_cls O hm) h1 h2 h3 h4)
/-- the promise of a method -/
structure MCl (P : Program) (w : World) (K : PySem.W.Frag) (mg : Str → Option Value) (base : Heap) (CX : CXT) (k : Nat) (x m : Str) (sp : Sp) : Prop where
  ex : ∃ (C f : Addr) (fd : FuncData) (ps : List Str), mg x = some (.ref C) ∧ Meth K C m f ∧ FnOk P w K mg base CX k f fd ps sp ∧ L2.Binds K fd ps [] ∧ ∃ oc od osl, K.lookup f = some ⟨oc, od, .func fd, osl⟩
/-- the promise of a property -/
structure PCl (P : Program) (w : World) (K : PySem.W.Frag) (mg : Str → Option Value) (base : Heap) (CX : CXT) (k : Nat) (x m : Str) (sp : Sp) : Prop where
  ex : ∃ (C p g : Addr) (fd : FuncData) (ps : List Str), mg x = some (.ref C) ∧ PropOf K C m p g ∧ FnOk P w K mg base CX k g fd ps sp ∧ L2.Binds K fd ps []
section
variable {P : Program} {w : World} {K : PySem.W.Frag} {mg : Str → Option Value} {base : Heap}
theorem mclX {x m q : Str} {st : Stmt} {N ps : List Str} {k : Nat} {sp : Sp} (D : Mt K mg x m q st)
    (hb : ∀ (kV doc pm : Value) (an : Option Addr) (cdv ct : Value) (us : List Value), us.length = ps.length → bindArgs (PySem.W.fnOf m q (defArgs st) (defBody st) (defScope st) .none kV doc pm an cdv ct) ⟨us, []⟩ = pure (ps.zip us))
    (S : FnScope N ps (defScope st)) (len : ∀ vs H Q E, sp vs H Q E → vs.length = ps.length)
    (hbody : ∀ (f : Addr) (cdv : Value) (A : Around) (outer : List Env) (s : Shared) (H : Hp) (vs : List V) (Q : VK) (E : XK), Room k (A.deeper (envOfC q (defScope st) s.heap.objs.size f cdv)) → sp vs H Q E →
      ∃ t, PSs (cxOf (L2.CX P w) P w K mg base N q (defScope st) f cdv A outer s H E) (defBody st) t ∧ t { nx := fun _ H' => Q .non H', rt := Q } (start N vs) H) : MCl P w K mg base (L2.CX P w) (k + 1) x m sp := by
  obtain ⟨C, f, fd, hm, M, F⟩ := D.ex
  obtain ⟨oc, od, kV, doc, pm, an, cdv, ct, osl, e, lk, hcd⟩ := id F.ex
  refine ⟨C, f, fd, ps, hm, M, F.okX S len (fun cdv A outer s H vs Q E hr h => hbody f cdv A outer s H vs Q E hr h), F.binds hb, oc, od, osl, lk⟩
theorem pclX {x m q : Str} {st : Stmt} {N ps : List Str} {k : Nat} {sp : Sp} (D : Pt K mg x m q st)
    (hb : ∀ (kV doc pm : Value) (an : Option Addr) (cdv ct : Value) (us : List Value), us.length = ps.length → bindArgs (PySem.W.fnOf m q (defArgs st) (defBody st) (defScope st) .none kV doc pm an cdv ct) ⟨us, []⟩ = pure (ps.zip us))
    (S : FnScope N ps (defScope st)) (len : ∀ vs H Q E, sp vs H Q E → vs.length = ps.length)
    (hbody : ∀ (f : Addr) (cdv : Value) (A : Around) (outer : List Env) (s : Shared) (H : Hp) (vs : List V) (Q : VK) (E : XK), Room k (A.deeper (envOfC q (defScope st) s.heap.objs.size f cdv)) → sp vs H Q E →
      ∃ t, PSs (cxOf (L2.CX P w) P w K mg base N q (defScope st) f cdv A outer s H E) (defBody st) t ∧ t { nx := fun _ H' => Q .non H', rt := Q } (start N vs) H) : PCl P w K mg base (L2.CX P w) (k + 1) x m sp := by
  obtain ⟨C, p, g, fd, hm, M, F⟩ := D.ex
  exact ⟨C, p, g, fd, ps, hm, M, F.okX S len (fun cdv A outer s H vs Q E hr h => hbody g cdv A outer s H vs Q E hr h), F.binds hb⟩
end
section
variable {X : Cx} {CX : CXT} {k j : Nat} {x m : Str} {sp : Sp} {E : XK}
/-- a method called -/
def tMtO (mg : Str → Option Value) (x m : Str) (sp : Sp) (E : XK) (ta : TE) (t : TA) : TE := fun σ H Q => ta σ H fun v H1 => ∃ a fs, v = .ref a ∧ Ins mg x H1 a fs ∧ fs.lookup m = none ∧ t σ H1 fun vs H2 => sp (v :: vs) H2 Q E
theorem mtO_eq {mg : Str → Option Value} {C : Addr} (hm : mg x = some (.ref C)) (ta : TE) (t : TA) : tMtO mg x m sp E ta t = tMeth C m sp [] E ta t := by
  funext σ H Q
  unfold tMtO tMeth
  congr 1
  funext v H1
  simp only [ins_eq hm, List.append_nil]
  refine propext ⟨fun ⟨a, fs, h1, ⟨dx, h2⟩, h3⟩ => ⟨a, dx, fs, h1, h2, h3⟩, fun ⟨a, dx, fs, h1, h2, h3⟩ => ⟨a, fs, h1, ⟨dx, h2⟩, h3⟩⟩
theorem pe_mtO {pos apos : Pos} {e o : Expr} {es : List Expr} {ta : TE} {t : TA} {pl : Sem Bool} (O : Oc X.K X.mg x) (c : MCl X.prog X.w X.K X.mg X.base CX k x m sp) (ho : PE X o ta) (hr : Room j X.A) (hk : k ≤ j) (hx : Passes CX X E) (ha : PA X (e :: es) t)
    (h1 : starEach (e :: es) X.env = (false, eval e X.env) :: starEach es X.env := by rfl) (h2 : ((backTo pos (starEach es X.env)).any fun x => x.fst) = false := by rfl)
    (h3 : eval ((o.Attribute m apos).Call (e :: es) [] pos) X.env = (do
      let ov ← eval o X.env
      standAt apos.atName
      let y ← holding [ov] (getMethod ov m pl)
      match y with
        | (f, first) => callWith pos f first (backTo pos (starEach (e :: es) X.env)) (backToKw pos (keywordEach [] X.env))) := by rfl) : PE X ((o.Attribute m apos).Call (e :: es) [] pos) (tMtO X.mg x m sp E ta t) := by
  obtain ⟨C, f, fd, ps, hm, M, F, b, _⟩ := c.ex
  obtain ⟨D, hd, hc, _⟩ := O.ex
  rw [cls_eq hd hm] at hc
  rw [mtO_eq hm]
  exact pe_meth ho hc M F (hr.mono hk) b .nil hx ha h1 h2 h3
theorem pe_mtO0 {pos apos : Pos} {o : Expr} {ta : TE} {pl : Sem Bool} (O : Oc X.K X.mg x) (c : MCl X.prog X.w X.K X.mg X.base CX k x m sp) (ho : PE X o ta) (hr : Room j X.A) (hk : k ≤ j) (hx : Passes CX X E)
    (h3 : eval ((o.Attribute m apos).Call [] [] pos) X.env = (do
      let ov ← eval o X.env
      standAt apos.atName
      let y ← holding [ov] (getMethod ov m pl)
      match y with
        | (f, first) => callWith pos f first (backTo pos (starEach [] X.env)) (backToKw pos (keywordEach [] X.env))) := by rfl) : PE X ((o.Attribute m apos).Call [] [] pos) (tMtO X.mg x m sp E ta tNil) := by
  obtain ⟨C, f, fd, ps, hm, M, F, b, _⟩ := c.ex
  obtain ⟨D, hd, hc, _⟩ := O.ex
  rw [cls_eq hd hm] at hc
  rw [mtO_eq hm]
  exact pe_meth0 ho hc M F (hr.mono hk) b .nil hx h3
/-- a property read -/
def tPtO (mg : Str → Option Value) (x : Str) (sp : Sp) (E : XK) (ta : TE) : TE := fun σ H Q => ta σ H fun v H1 => ∃ a fs, v = .ref a ∧ Ins mg x H1 a fs ∧ sp [v] H1 Q E
theorem pe_ptO {pos : Pos} {e : Expr} {ta : TE} (O : Oc X.K X.mg x) (c : PCl X.prog X.w X.K X.mg X.base CX k x m sp) (he : PE X e ta) (hr : Room j X.A) (hk : k + 1 ≤ j) (hx : Passes CX X.nox E) (hab : attributeBase e m X.env (eval e X.env) = eval e X.env) : PE X (e.Attribute m pos) (tPtO X.mg x sp E ta) := by
  obtain ⟨C, p, g, fd, ps, hm, M, F, b⟩ := c.ex
  obtain ⟨D, hd, hc, _⟩ := O.ex
  rw [cls_eq hd hm] at hc
  have e1 : tPtO X.mg x sp E ta = tProp C sp [] E ta := by
    funext σ H Q
    unfold tPtO tProp
    congr 1
    funext v H1
    simp only [ins_eq hm]
    refine propext ⟨fun ⟨a, fs, h1, ⟨dx, h2⟩, h3⟩ => ⟨a, dx, fs, h1, h2, ?_⟩, fun ⟨a, dx, fs, h1, h2, h3⟩ => ⟨a, fs, h1, ⟨dx, h2⟩, ?_⟩⟩
    · rw [h1] at h3
      exact h3
    · rw [h1]
      exact h3
  rw [e1]
  exact pe_prop he hc M F (hr.mono hk) b .nil hx hab
/-- a new thing of an own class -/
def tMkO (mg : Str → Option Value) (x : Str) (sp : Sp) (E : XK) (t : TA) : TE := fun σ H Q => t σ H fun vs H1 => ∀ C, mg x = some (.ref C) → ∀ a dx, H1 a = none → H1 dx = none → dx ≠ a → sp (.ref a :: vs) (upd (upd H1 dx (.own a)) a (.ins C dx [])) (fun v H2 => v = .non ∧ Q (.ref a) H2) E
theorem pe_mkO {p pos : Pos} {e : Expr} {es : List Expr} {t : TA} (O : Oc X.K X.mg x) (c : MCl X.prog X.w X.K X.mg X.base CX k x "__init__" sp) (hr : Room j X.A) (hk : k + 1 ≤ j) (hg : Gl X x) (hx : Passes CX X E) (ha : PA X (e :: es) t)
    (h0 : (x == ("__debug__" : Str)) = false := by decide) (h1 : starEach (e :: es) X.env = (false, eval e X.env) :: starEach es X.env := by rfl) (h2 : ((backTo pos (starEach es X.env)).any fun x => x.fst) = false := by rfl) : PE X ((Expr.Name x p).Call (e :: es) [] pos) (tMkO X.mg x sp E t) := by
  obtain ⟨C, f, fd, ps, hm, M, F, b, _⟩ := c.ex
  obtain ⟨D, hd, hc, _, hmk, hkp⟩ := O.ex
  rw [cls_eq hd hm] at hmk hkp
  have e1 : tMkO X.mg x sp E t = tMake C sp [] E t := by
    funext σ H Q
    unfold tMkO tMake
    congr 1
    funext vs H1
    simp only [List.append_nil]
    refine propext ⟨fun g a dx => g C hm a dx, fun g D hD a dx => ?_⟩
    rw [cls_eq hD hm]
    exact g a dx
  rw [e1]
  exact pe_make ⟨hmk, M.at_, M.fn, hkp⟩ F (hr.mono hk) hg hm b .nil hx ha h0 h1 h2
/-- two things of an own class, joined by its operator -/
def rO2 (mg : Str → Option Value) (x : Str) (sp : Sp) (E : XK) : R2 := fun u v H Q => ∃ a fs b gs, u = .ref a ∧ v = .ref b ∧ Ins mg x H a fs ∧ Ins mg x H b gs ∧ sp [u, v] H Q E
theorem op_O2 {op : Operator} (O : Oc X.K X.mg x) (c : MCl X.prog X.w X.K X.mg X.base CX k x (dunder op.info.snd) sp) (hr : Room j X.A) (hk : k ≤ j) (hx : Passes CX X E) : OpR X (binaryOp op) (rO2 X.mg x sp E) := by
  obtain ⟨C, f, fd, ps, hm, M, F, b, _⟩ := c.ex
  obtain ⟨D, hd, hc, sf, _⟩ := O.ex
  rw [cls_eq hd hm] at sf
  intro pins s σ H u v a b' Q I rx ry h
  obtain ⟨p, fs, q, gs, h1, h2, h3, h4, h5⟩ := h
  rw [ins_eq hm] at h3 h4
  obtain ⟨dx, h3⟩ := h3
  obtain ⟨dy, h4⟩ := h4
  exact op_own2 sf M F (hr.mono hk) b hx pins s σ H u v a b' Q I rx ry ⟨p, dx, fs, q, dy, gs, h1, h2, h3, h4, h5⟩
/-- an item of a thing of an own class -/
def rOIx (mg : Str → Option Value) (x : Str) (sp : Sp) (E : XK) : R2 := fun u v H Q => ∃ a fs, u = .ref a ∧ Ins mg x H a fs ∧ sp [u, v] H Q E
theorem pe_ixO {a b : Expr} {ta tb : TE} {pos : Pos} (c : MCl X.prog X.w X.K X.mg X.base CX k x "__getitem__" sp) (hr : Room j X.A) (hk : k + 1 ≤ j) (hx : Passes CX X E)
    (ha : PE X a ta) (hbb : PE X b tb) (hsl : ∀ o i, subscripted b true o i = runValue (Code.builtin "lifetime.subscript" ⟨[o, i], []⟩) := by exact fun _ _ => rfl) (hlt : ∀ o r, letTemporaryGo a o r = pure () := by exact fun _ _ => rfl) : PE X (.Subscript a b pos) (tOp (rOIx X.mg x sp E) ta tb) := by
  obtain ⟨C, f, fd, ps, hm, M, F, b', oc, od, osl, lk⟩ := c.ex
  have e1 : rOIx X.mg x sp E = rOwnIx C sp E := by
    funext u v H Q
    unfold rOIx rOwnIx
    simp only [ins_eq hm]
    exact propext ⟨fun ⟨a, fs, h1, ⟨dx, h2⟩, h3⟩ => ⟨a, dx, fs, h1, h2, h3⟩, fun ⟨a, dx, fs, h1, h2, h3⟩ => ⟨a, fs, h1, ⟨dx, h2⟩, h3⟩⟩
  rw [e1]
  exact pe_ixOwn M lk F hr hk b' hx ha hbb hsl hlt
/-- the length of a thing of an own class -/
theorem call_lenO (c : MCl X.prog X.w X.K X.mg X.base CX k x "__len__" sp) (hr : Room j X.A) (hk : k + 1 ≤ j) (hx : Passes CX X E) : CallR X (.builtin "len") (fun xs H Q => ∃ a fs, xs = [.ref a] ∧ Ins X.mg x H a fs ∧ sp xs H (fun v H' => ∃ n : Nat, v = .int n ∧ n < 2 ^ 63 ∧ Q (.int n) H') E) := by
  obtain ⟨C, f, fd, ps, hm, M, F, b, _⟩ := c.ex
  intro pins s σ H xs us Q I rxs h
  obtain ⟨a, fs, h1, h2, h3⟩ := h
  rw [ins_eq hm] at h2
  obtain ⟨dx, h2⟩ := h2
  exact call_ownLen M F hr hk b hx pins s σ H xs us Q I rxs ⟨a, dx, fs, h1, h2, h3⟩
end
end XB
set_option Elab.async false
set_option linter.all false
set_option maxRecDepth 100000
set_option maxHeartbeats 4000000
namespace XB
open PySem PySem.Spec PyProof.Rows L2
def topS (i : Nat) : Stmt := PySem.Challenge.pw_deedpiles_k93_whole_sheets.main.body.getD i (.Pass ⟨0, 0, 0, 0⟩)
abbrev s__wall : Stmt := topS 0
theorem sc__wall : FnScope ["k"] ["k"] (defScope s__wall) := ⟨rfl, rfl, rfl, by decide +kernel, rfl, by decide +kernel, by decide +kernel⟩
abbrev s_BadField___init__ : Stmt := inClass (topS 3) 0
theorem sc_BadField___init__ : FnScope ["self", "part"] ["self", "part"] (defScope s_BadField___init__) := ⟨rfl, rfl, rfl, by decide +kernel, rfl, by decide +kernel, by decide +kernel⟩
abbrev s_BadScript___init__ : Stmt := inClass (topS 4) 0
theorem sc_BadScript___init__ : FnScope ["self", "place"] ["self", "place"] (defScope s_BadScript___init__) := ⟨rfl, rfl, rfl, by decide +kernel, rfl, by decide +kernel, by decide +kernel⟩
abbrev s_BadNumber___init__ : Stmt := inClass (topS 5) 0
theorem sc_BadNumber___init__ : FnScope ["self", "value"] ["self", "value"] (defScope s_BadNumber___init__) := ⟨rfl, rfl, rfl, by decide +kernel, rfl, by decide +kernel, by decide +kernel⟩
abbrev s_BadClaims___init__ : Stmt := inClass (topS 6) 0
theorem sc_BadClaims___init__ : FnScope ["self", "place"] ["self", "place"] (defScope s_BadClaims___init__) := ⟨rfl, rfl, rfl, by decide +kernel, rfl, by decide +kernel, by decide +kernel⟩
abbrev s_BadText___init__ : Stmt := inClass (topS 7) 0
theorem sc_BadText___init__ : FnScope ["self", "line", "word"] ["self", "line", "word"] (defScope s_BadText___init__) := ⟨rfl, rfl, rfl, by decide +kernel, rfl, by decide +kernel, by decide +kernel⟩
abbrev s_Unlike___init__ : Stmt := inClass (topS 8) 0
theorem sc_Unlike___init__ : FnScope ["self", "value"] ["self", "value"] (defScope s_Unlike___init__) := ⟨rfl, rfl, rfl, by decide +kernel, rfl, by decide +kernel, by decide +kernel⟩
abbrev s_Held___init__ : Stmt := inClass (topS 9) 0
theorem sc_Held___init__ : FnScope ["self", "value"] ["self", "value"] (defScope s_Held___init__) := ⟨rfl, rfl, rfl, by decide +kernel, rfl, by decide +kernel, by decide +kernel⟩
abbrev s_TooGreat___init__ : Stmt := inClass (topS 10) 0
theorem sc_TooGreat___init__ : FnScope ["self", "most"] ["self", "most"] (defScope s_TooGreat___init__) := ⟨rfl, rfl, rfl, by decide +kernel, rfl, by decide +kernel, by decide +kernel⟩
abbrev s_is_whole : Stmt := topS 12
theorem sc_is_whole : FnScope ["value"] ["value"] (defScope s_is_whole) := ⟨rfl, rfl, rfl, by decide +kernel, rfl, by decide +kernel, by decide +kernel⟩
abbrev s_is_pair : Stmt := topS 13
theorem sc_is_pair : FnScope ["value"] ["value"] (defScope s_is_pair) := ⟨rfl, rfl, rfl, by decide +kernel, rfl, by decide +kernel, by decide +kernel⟩
abbrev s_is_ascending : Stmt := topS 14
theorem sc_is_ascending : FnScope ["items", "one", "other"] ["items"] (defScope s_is_ascending) := ⟨rfl, rfl, rfl, by decide +kernel, rfl, by decide +kernel, by decide +kernel⟩
abbrev s_need_field : Stmt := topS 18
theorem sc_need_field : FnScope ["field", "names", "pairs"] ["field"] (defScope s_need_field) := ⟨rfl, rfl, rfl, by decide +kernel, rfl, by decide +kernel, by decide +kernel⟩
abbrev s_touch_table : Stmt := topS 19
theorem sc_touch_table : FnScope ["field", "names", "_", "name"] ["field"] (defScope s_touch_table) := ⟨rfl, rfl, rfl, by decide +kernel, rfl, by decide +kernel, by decide +kernel⟩
abbrev s_names_touching : Stmt := topS 20
theorem sc_names_touching : FnScope ["field", "name", "names", "pairs", "other"] ["field", "name"] (defScope s_names_touching) := ⟨rfl, rfl, rfl, by decide +kernel, rfl, by decide +kernel, by decide +kernel⟩
abbrev s_are_apart : Stmt := topS 21
theorem sc_are_apart : FnScope ["pairs", "one", "other"] ["pairs", "one", "other"] (defScope s_are_apart) := ⟨rfl, rfl, rfl, by decide +kernel, rfl, by decide +kernel, by decide +kernel⟩
abbrev s_are_names : Stmt := topS 22
theorem sc_are_names : FnScope ["value", "item"] ["value"] (defScope s_are_names) := ⟨rfl, rfl, rfl, by decide +kernel, rfl, by decide +kernel, by decide +kernel⟩
abbrev s_is_name : Stmt := topS 23
theorem sc_is_name : FnScope ["value", "letter"] ["value"] (defScope s_is_name) := ⟨rfl, rfl, rfl, by decide +kernel, rfl, by decide +kernel, by decide +kernel⟩
abbrev s_are_pairs : Stmt := topS 24
theorem sc_are_pairs : FnScope ["names", "value", "item"] ["names", "value"] (defScope s_are_pairs) := ⟨rfl, rfl, rfl, by decide +kernel, rfl, by decide +kernel, by decide +kernel⟩
abbrev s_is_pair_of : Stmt := topS 25
theorem sc_is_pair_of : FnScope ["names", "value", "one", "other"] ["names", "value"] (defScope s_is_pair_of) := ⟨rfl, rfl, rfl, by decide +kernel, rfl, by decide +kernel, by decide +kernel⟩
abbrev s_need_script : Stmt := topS 29
theorem sc_need_script : FnScope ["field", "deeds", "names", "_", "place", "item"] ["field", "deeds"] (defScope s_need_script) := ⟨rfl, rfl, rfl, by decide +kernel, rfl, by decide +kernel, by decide +kernel⟩
abbrev s_is_step : Stmt := topS 30
theorem sc_is_step : FnScope ["names", "value"] ["names", "value"] (defScope s_is_step) := ⟨rfl, rfl, rfl, by decide +kernel, rfl, by decide +kernel, by decide +kernel⟩
abbrev s_is_great_step : Stmt := topS 31
theorem sc_is_great_step : FnScope ["names", "value", "name", "times"] ["names", "value"] (defScope s_is_great_step) := ⟨rfl, rfl, rfl, by decide +kernel, rfl, by decide +kernel, by decide +kernel⟩
abbrev s_is_times : Stmt := topS 32
theorem sc_is_times : FnScope ["value"] ["value"] (defScope s_is_times) := ⟨rfl, rfl, rfl, by decide +kernel, rfl, by decide +kernel, by decide +kernel⟩
abbrev s_least_pile : Stmt := topS 33
theorem sc_least_pile : FnScope ["field", "deeds"] ["field", "deeds"] (defScope s_least_pile) := ⟨rfl, rfl, rfl, by decide +kernel, rfl, by decide +kernel, by decide +kernel⟩
abbrev s_are_alike : Stmt := topS 34
theorem sc_are_alike : FnScope ["field", "one", "other"] ["field", "one", "other"] (defScope s_are_alike) := ⟨rfl, rfl, rfl, by decide +kernel, rfl, by decide +kernel, by decide +kernel⟩
abbrev s_piled : Stmt := topS 35
theorem sc_piled : FnScope ["touch", "steps", "pieces", "name", "times", "at"] ["touch", "steps"] (defScope s_piled) := ⟨rfl, rfl, rfl, by decide +kernel, rfl, by decide +kernel, by decide +kernel⟩
abbrev s_last_touched : Stmt := topS 36
theorem sc_last_touched : FnScope ["names", "pieces", "at"] ["names", "pieces"] (defScope s_last_touched) := ⟨rfl, rfl, rfl, by decide +kernel, rfl, by decide +kernel, by decide +kernel⟩
abbrev s_place_behind : Stmt := topS 37
theorem sc_place_behind : FnScope ["pieces", "at", "name", "place"] ["pieces", "at", "name"] (defScope s_place_behind) := ⟨rfl, rfl, rfl, by decide +kernel, rfl, by decide +kernel, by decide +kernel⟩
abbrev s_Sheet___init__ : Stmt := inClass (topS 39) 0
theorem sc_Sheet___init__ : FnScope ["self", "field"] ["self", "field"] (defScope s_Sheet___init__) := ⟨rfl, rfl, rfl, by decide +kernel, rfl, by decide +kernel, by decide +kernel⟩
abbrev s_Sheet_field : Stmt := inClass (topS 39) 1
theorem sc_Sheet_field : FnScope ["self"] ["self"] (defScope s_Sheet_field) := ⟨rfl, rfl, rfl, by decide +kernel, rfl, by decide +kernel, by decide +kernel⟩
abbrev s_Sheet_row : Stmt := inClass (topS 39) 2
theorem sc_Sheet_row : FnScope ["self", "row", "_"] ["self"] (defScope s_Sheet_row) := ⟨rfl, rfl, rfl, by decide +kernel, rfl, by decide +kernel, by decide +kernel⟩
abbrev s_Sheet_steps : Stmt := inClass (topS 39) 3
theorem sc_Sheet_steps : FnScope ["self", "_", "step"] ["self"] (defScope s_Sheet_steps) := ⟨rfl, rfl, rfl, by decide +kernel, rfl, by decide +kernel, by decide +kernel⟩
abbrev s_Sheet___len__ : Stmt := inClass (topS 39) 4
theorem sc_Sheet___len__ : FnScope ["self"] ["self"] (defScope s_Sheet___len__) := ⟨rfl, rfl, rfl, by decide +kernel, rfl, by decide +kernel, by decide +kernel⟩
abbrev s_Sheet___contains__ : Stmt := inClass (topS 39) 5
theorem sc_Sheet___contains__ : FnScope ["self", "x", "number", "_"] ["self", "x"] (defScope s_Sheet___contains__) := ⟨rfl, rfl, rfl, by decide +kernel, rfl, by decide +kernel, by decide +kernel⟩
abbrev s_Sheet___eq__ : Stmt := inClass (topS 39) 6
theorem sc_Sheet___eq__ : FnScope ["self", "other"] ["self", "other"] (defScope s_Sheet___eq__) := ⟨rfl, rfl, rfl, by decide +kernel, rfl, by decide +kernel, by decide +kernel⟩
abbrev s_Sheet_least : Stmt := inClass (topS 39) 7
theorem sc_Sheet_least : FnScope ["self"] ["self"] (defScope s_Sheet_least) := ⟨rfl, rfl, rfl, by decide +kernel, rfl, by decide +kernel, by decide +kernel⟩
abbrev s_Sheet_do : Stmt := inClass (topS 39) 8
theorem sc_Sheet_do : FnScope ["self", "step", "names", "_", "row", "count"] ["self", "step"] (defScope s_Sheet_do) := ⟨rfl, rfl, rfl, by decide +kernel, rfl, by decide +kernel, by decide +kernel⟩
abbrev s_Sheet_free : Stmt := inClass (topS 39) 9
theorem sc_Sheet_free : FnScope ["self", "row", "touch", "at", "number", "_"] ["self"] (defScope s_Sheet_free) := ⟨rfl, rfl, rfl, by decide +kernel, rfl, by decide +kernel, by decide +kernel⟩
abbrev s_Sheet_ahead_of : Stmt := inClass (topS 39) 10
theorem sc_Sheet_ahead_of : FnScope ["self", "number", "row"] ["self", "number"] (defScope s_Sheet_ahead_of) := ⟨rfl, rfl, rfl, by decide +kernel, rfl, by decide +kernel, by decide +kernel⟩
abbrev s_Sheet_take_back : Stmt := inClass (topS 39) 11
theorem sc_Sheet_take_back : FnScope ["self", "number", "numbers"] ["self", "number"] (defScope s_Sheet_take_back) := ⟨rfl, rfl, rfl, by decide +kernel, rfl, by decide +kernel, by decide +kernel⟩
abbrev s_Sheet_take_all : Stmt := inClass (topS 39) 12
theorem sc_Sheet_take_all : FnScope ["self", "number", "numbers"] ["self", "number"] (defScope s_Sheet_take_all) := ⟨rfl, rfl, rfl, by decide +kernel, rfl, by decide +kernel, by decide +kernel⟩
abbrev s_Sheet_undo : Stmt := inClass (topS 39) 13
theorem sc_Sheet_undo : FnScope ["self", "now", "past", "future"] ["self"] (defScope s_Sheet_undo) := ⟨rfl, rfl, rfl, by decide +kernel, rfl, by decide +kernel, by decide +kernel⟩
abbrev s_Sheet_redo : Stmt := inClass (topS 39) 14
theorem sc_Sheet_redo : FnScope ["self", "now", "past", "future"] ["self"] (defScope s_Sheet_redo) := ⟨rfl, rfl, rfl, by decide +kernel, rfl, by decide +kernel, by decide +kernel⟩
abbrev s_Sheet_copy : Stmt := inClass (topS 39) 15
theorem sc_Sheet_copy : FnScope ["self"] ["self"] (defScope s_Sheet_copy) := ⟨rfl, rfl, rfl, by decide +kernel, rfl, by decide +kernel, by decide +kernel⟩
abbrev s_Sheet_trial : Stmt := inClass (topS 39) 16
theorem sc_Sheet_trial : FnScope ["self"] ["self"] (defScope s_Sheet_trial) := ⟨rfl, rfl, rfl, by decide +kernel, rfl, by decide +kernel, by decide +kernel⟩
abbrev s_Sheet__go_on : Stmt := inClass (topS 39) 17
theorem sc_Sheet__go_on : FnScope ["self", "row", "count", "now", "past", "_"] ["self", "row", "count"] (defScope s_Sheet__go_on) := ⟨rfl, rfl, rfl, by decide +kernel, rfl, by decide +kernel, by decide +kernel⟩
abbrev s_Sheet__leave_out : Stmt := inClass (topS 39) 18
theorem sc_Sheet__leave_out : FnScope ["self", "numbers", "row", "count", "_", "item"] ["self", "numbers"] (defScope s_Sheet__leave_out) := ⟨rfl, rfl, rfl, by decide +kernel, rfl, by decide +kernel, by decide +kernel⟩
abbrev s_need_place : Stmt := topS 40
theorem sc_need_place : FnScope ["row", "number", "numbers", "other", "_"] ["row", "number"] (defScope s_need_place) := ⟨rfl, rfl, rfl, by decide +kernel, rfl, by decide +kernel, by decide +kernel⟩
abbrev s_holders : Stmt := topS 41
theorem sc_holders : FnScope ["touch", "row", "at", "numbers", "_", "held", "names", "number", "name"] ["touch", "row", "at"] (defScope s_holders) := ⟨rfl, rfl, rfl, by decide +kernel, rfl, by decide +kernel, by decide +kernel⟩
abbrev s__law_mixed : Stmt := topS 43
theorem sc__law_mixed : FnScope ["cell", "n", "blend"] ["cell", "n"] (defScope s__law_mixed) := ⟨rfl, rfl, rfl, by decide +kernel, rfl, by decide +kernel, by decide +kernel⟩
abbrev s__law_folded : Stmt := topS 44
theorem sc__law_folded : FnScope ["script", "found", "n", "cell"] ["script"] (defScope s__law_folded) := ⟨rfl, rfl, rfl, by decide +kernel, rfl, by decide +kernel, by decide +kernel⟩
abbrev s__law_draw : Stmt := topS 45
theorem sc__law_draw : FnScope ["m", "limit", "n", "lot", "here", "cell"] ["m", "limit"] (defScope s__law_draw) := ⟨rfl, rfl, rfl, by decide +kernel, rfl, by decide +kernel, by decide +kernel⟩
abbrev s__law_begun : Stmt := topS 46
theorem sc__law_begun : FnScope ["script", "m", "cell"] ["script"] (defScope s__law_begun) := ⟨rfl, rfl, rfl, by decide +kernel, rfl, by decide +kernel, by decide +kernel⟩
abbrev s__law_like : Stmt := topS 47
theorem sc__law_like : FnScope ["answer", "due"] ["answer", "due"] (defScope s__law_like) := ⟨rfl, rfl, rfl, by decide +kernel, rfl, by decide +kernel, by decide +kernel⟩
abbrev s__law_field : Stmt := topS 48
theorem sc__law_field : FnScope ["m", "most", "names", "some", "k", "other", "pair"] ["m", "most"] (defScope s__law_field) := ⟨rfl, rfl, rfl, by decide +kernel, rfl, by decide +kernel, by decide +kernel⟩
abbrev s__law_apart : Stmt := topS 49
theorem sc__law_apart : FnScope ["field", "one", "other"] ["field", "one", "other"] (defScope s__law_apart) := ⟨rfl, rfl, rfl, by decide +kernel, rfl, by decide +kernel, by decide +kernel⟩
abbrev s__law_meet : Stmt := topS 50
theorem sc__law_meet : FnScope ["field", "steps", "k", "far"] ["field", "steps"] (defScope s__law_meet) := ⟨rfl, rfl, rfl, by decide +kernel, rfl, by decide +kernel, by decide +kernel⟩
abbrev s__law_pile : Stmt := topS 51
theorem sc__law_pile : FnScope ["field", "steps", "found", "pair", "name", "times"] ["field", "steps"] (defScope s__law_pile) := ⟨rfl, rfl, rfl, by decide +kernel, rfl, by decide +kernel, by decide +kernel⟩
abbrev s__law_firsts : Stmt := topS 52
theorem sc__law_firsts : FnScope ["field", "steps", "found", "k", "step"] ["field", "steps"] (defScope s__law_firsts) := ⟨rfl, rfl, rfl, by decide +kernel, rfl, by decide +kernel, by decide +kernel⟩
abbrev s__law_least : Stmt := topS 53
theorem sc__law_least : FnScope ["field", "steps", "left", "found", "k", "far"] ["field", "steps"] (defScope s__law_least) := ⟨rfl, rfl, rfl, by decide +kernel, rfl, by decide +kernel, by decide +kernel⟩
abbrev s__law_back : Stmt := topS 54
theorem sc__law_back : FnScope ["steps", "name", "times"] ["steps"] (defScope s__law_back) := ⟨rfl, rfl, rfl, by decide +kernel, rfl, by decide +kernel, by decide +kernel⟩
abbrev s__law_said : Stmt := topS 55
theorem sc__law_said : FnScope ["call", "told_so", "error", "e", "found", "some", "word", "is_so"] ["call"] (defScope s__law_said) := ⟨rfl, rfl, rfl, by decide +kernel, rfl, by decide +kernel, by decide +kernel⟩
abbrev s__law_own : Stmt := topS 56
theorem sc__law_own : FnScope ["field"] ["field"] (defScope s__law_own) := ⟨rfl, rfl, rfl, by decide +kernel, rfl, by decide +kernel, by decide +kernel⟩
abbrev s__law_held : Stmt := topS 57
theorem sc__law_held : FnScope ["own", "number", "found", "names", "far", "step", "holds", "name"] ["own", "number"] (defScope s__law_held) := ⟨rfl, rfl, rfl, by decide +kernel, rfl, by decide +kernel, by decide +kernel⟩
abbrev s__law_kept : Stmt := topS 58
theorem sc__law_kept : FnScope ["own", "now"] ["own", "now"] (defScope s__law_kept) := ⟨rfl, rfl, rfl, by decide +kernel, rfl, by decide +kernel, by decide +kernel⟩
abbrev s__law_without : Stmt := topS 59
theorem sc__law_without : FnScope ["own", "numbers", "row", "pair"] ["own", "numbers"] (defScope s__law_without) := ⟨rfl, rfl, rfl, by decide +kernel, rfl, by decide +kernel, by decide +kernel⟩
abbrev s__law_shift : Stmt := topS 60
theorem sc__law_shift : FnScope ["own", "begin", "goal"] ["own", "begin", "goal"] (defScope s__law_shift) := ⟨rfl, rfl, rfl, by decide +kernel, rfl, by decide +kernel, by decide +kernel⟩
abbrev s__law_stands : Stmt := topS 61
theorem sc__law_stands : FnScope ["sheet", "own", "row", "steps", "numbers", "told_so", "due", "some", "pair", "number", "k"] ["sheet", "own"] (defScope s__law_stands) := ⟨rfl, rfl, rfl, by decide +kernel, rfl, by decide +kernel, by decide +kernel⟩
abbrev s__law_step : Stmt := topS 62
theorem sc__law_step : FnScope ["m", "sheet", "own", "way", "row", "name", "step", "number", "some", "told_so"] ["m", "sheet", "own"] (defScope s__law_step) := ⟨rfl, rfl, rfl, by decide +kernel, rfl, by decide +kernel, by decide +kernel⟩
abbrev s__law_alike : Stmt := topS 63
theorem sc__law_alike : FnScope ["sheet", "own", "row", "number", "step", "rest", "pair"] ["sheet", "own"] (defScope s__law_alike) := ⟨rfl, rfl, rfl, by decide +kernel, rfl, by decide +kernel, by decide +kernel⟩
abbrev s_law : Stmt := topS 64
theorem sc_law : FnScope ["script", "m", "turn", "own", "sheet", "again", "field", "told_so"] ["script"] (defScope s_law) := ⟨rfl, rfl, rfl, by decide +kernel, rfl, by decide +kernel, by decide +kernel⟩
structure Tx (K : PySem.W.Frag) (mg : Str → Option Value) : Prop where
  c_PileError : ∃ C, mg "PileError" = some (.ref C)
  c_BadField : ∃ C, mg "BadField" = some (.ref C)
  c_BadScript : ∃ C, mg "BadScript" = some (.ref C)
  c_BadNumber : ∃ C, mg "BadNumber" = some (.ref C)
  c_BadClaims : ∃ C, mg "BadClaims" = some (.ref C)
  c_BadText : ∃ C, mg "BadText" = some (.ref C)
  c_Unlike : ∃ C, mg "Unlike" = some (.ref C)
  c_Held : ∃ C, mg "Held" = some (.ref C)
  c_TooGreat : ∃ C, mg "TooGreat" = some (.ref C)
  e_BadField : Ek K mg "BadField" "BadField.__init__" s_BadField___init__
  e_BadScript : Ek K mg "BadScript" "BadScript.__init__" s_BadScript___init__
  e_BadNumber : Ek K mg "BadNumber" "BadNumber.__init__" s_BadNumber___init__
  e_TooGreat : Ek K mg "TooGreat" "TooGreat.__init__" s_TooGreat___init__
  e_Held : Ek K mg "Held" "Held.__init__" s_Held___init__
  n_BadField_part : NoF K mg "BadField" "part"
  n_BadScript_place : NoF K mg "BadScript" "place"
  n_BadNumber_value : NoF K mg "BadNumber" "value"
  n_TooGreat_most : NoF K mg "TooGreat" "most"
  n_Held_value : NoF K mg "Held" "value"
  x_BadField_PileError : Exm K mg "BadField" "PileError" true
  x_BadField_TooGreat : Exm K mg "BadField" "TooGreat" false
  x_BadScript_PileError : Exm K mg "BadScript" "PileError" true
  x_BadScript_TooGreat : Exm K mg "BadScript" "TooGreat" false
  x_BadNumber_PileError : Exm K mg "BadNumber" "PileError" true
  x_BadNumber_TooGreat : Exm K mg "BadNumber" "TooGreat" false
  x_TooGreat_PileError : Exm K mg "TooGreat" "PileError" false
  x_TooGreat_TooGreat : Exm K mg "TooGreat" "TooGreat" true
  x_Held_PileError : Exm K mg "Held" "PileError" true
  x_Held_TooGreat : Exm K mg "Held" "TooGreat" false
  i_BadField_BadScript : Kit K mg "BadField" "BadScript" false
  i_BadField_BadClaims : Kit K mg "BadField" "BadClaims" false
  i_BadField_BadField : Kit K mg "BadField" "BadField" true
  i_BadField_BadText : Kit K mg "BadField" "BadText" false
  i_BadField_BadNumber : Kit K mg "BadField" "BadNumber" false
  i_BadField_Unlike : Kit K mg "BadField" "Unlike" false
  i_BadField_Held : Kit K mg "BadField" "Held" false
  i_BadField_TooGreat : Kit K mg "BadField" "TooGreat" false
  i_BadScript_BadScript : Kit K mg "BadScript" "BadScript" true
  i_BadScript_BadClaims : Kit K mg "BadScript" "BadClaims" false
  i_BadScript_BadField : Kit K mg "BadScript" "BadField" false
  i_BadScript_BadText : Kit K mg "BadScript" "BadText" false
  i_BadScript_BadNumber : Kit K mg "BadScript" "BadNumber" false
  i_BadScript_Unlike : Kit K mg "BadScript" "Unlike" false
  i_BadScript_Held : Kit K mg "BadScript" "Held" false
  i_BadScript_TooGreat : Kit K mg "BadScript" "TooGreat" false
  i_BadNumber_BadScript : Kit K mg "BadNumber" "BadScript" false
  i_BadNumber_BadClaims : Kit K mg "BadNumber" "BadClaims" false
  i_BadNumber_BadField : Kit K mg "BadNumber" "BadField" false
  i_BadNumber_BadText : Kit K mg "BadNumber" "BadText" false
  i_BadNumber_BadNumber : Kit K mg "BadNumber" "BadNumber" true
  i_BadNumber_Unlike : Kit K mg "BadNumber" "Unlike" false
  i_BadNumber_Held : Kit K mg "BadNumber" "Held" false
  i_BadNumber_TooGreat : Kit K mg "BadNumber" "TooGreat" false
  i_TooGreat_BadScript : Kit K mg "TooGreat" "BadScript" false
  i_TooGreat_BadClaims : Kit K mg "TooGreat" "BadClaims" false
  i_TooGreat_BadField : Kit K mg "TooGreat" "BadField" false
  i_TooGreat_BadText : Kit K mg "TooGreat" "BadText" false
  i_TooGreat_BadNumber : Kit K mg "TooGreat" "BadNumber" false
  i_TooGreat_Unlike : Kit K mg "TooGreat" "Unlike" false
  i_TooGreat_Held : Kit K mg "TooGreat" "Held" false
  i_TooGreat_TooGreat : Kit K mg "TooGreat" "TooGreat" true
  i_Held_BadScript : Kit K mg "Held" "BadScript" false
  i_Held_BadClaims : Kit K mg "Held" "BadClaims" false
  i_Held_BadField : Kit K mg "Held" "BadField" false
  i_Held_BadText : Kit K mg "Held" "BadText" false
  i_Held_BadNumber : Kit K mg "Held" "BadNumber" false
  i_Held_Unlike : Kit K mg "Held" "Unlike" false
  i_Held_Held : Kit K mg "Held" "Held" true
  i_Held_TooGreat : Kit K mg "Held" "TooGreat" false
  o_Sheet : Oc K mg "Sheet"
  m_Sheet___init__ : Mt K mg "Sheet" "__init__" "Sheet.__init__" s_Sheet___init__
  m_Sheet___len__ : Mt K mg "Sheet" "__len__" "Sheet.__len__" s_Sheet___len__
  m_Sheet___contains__ : Mt K mg "Sheet" "__contains__" "Sheet.__contains__" s_Sheet___contains__
  m_Sheet___eq__ : Mt K mg "Sheet" "__eq__" "Sheet.__eq__" s_Sheet___eq__
  m_Sheet_least : Mt K mg "Sheet" "least" "Sheet.least" s_Sheet_least
  m_Sheet_do : Mt K mg "Sheet" "do" "Sheet.do" s_Sheet_do
  m_Sheet_free : Mt K mg "Sheet" "free" "Sheet.free" s_Sheet_free
  m_Sheet_ahead_of : Mt K mg "Sheet" "ahead_of" "Sheet.ahead_of" s_Sheet_ahead_of
  m_Sheet_take_back : Mt K mg "Sheet" "take_back" "Sheet.take_back" s_Sheet_take_back
  m_Sheet_take_all : Mt K mg "Sheet" "take_all" "Sheet.take_all" s_Sheet_take_all
  m_Sheet_undo : Mt K mg "Sheet" "undo" "Sheet.undo" s_Sheet_undo
  m_Sheet_redo : Mt K mg "Sheet" "redo" "Sheet.redo" s_Sheet_redo
  m_Sheet_copy : Mt K mg "Sheet" "copy" "Sheet.copy" s_Sheet_copy
  m_Sheet_trial : Mt K mg "Sheet" "trial" "Sheet.trial" s_Sheet_trial
  m_Sheet__go_on : Mt K mg "Sheet" "_go_on" "Sheet._go_on" s_Sheet__go_on
  m_Sheet__leave_out : Mt K mg "Sheet" "_leave_out" "Sheet._leave_out" s_Sheet__leave_out
  p_Sheet_field : Pt K mg "Sheet" "field" "Sheet.field" s_Sheet_field
  p_Sheet_row : Pt K mg "Sheet" "row" "Sheet.row" s_Sheet_row
  p_Sheet_steps : Pt K mg "Sheet" "steps" "Sheet.steps" s_Sheet_steps
  n_Sheet__field : NoF K mg "Sheet" "_field"
  n_Sheet__state : NoF K mg "Sheet" "_state"
  k_Sheet : KitD K mg "Sheet"
  i_Sheet_Sheet : Kit K mg "Sheet" "Sheet" true
  b_OverflowError : mg "OverflowError" = none
  b_ValueError : mg "ValueError" = none
  b_abs : mg "abs" = none
  b_all : mg "all" = none
  b_bool : mg "bool" = none
  b_enumerate : mg "enumerate" = none
  b_int : mg "int" = none
  b_isinstance : mg "isinstance" = none
  b_len : mg "len" = none
  b_list : mg "list" = none
  b_max : mg "max" = none
  b_min : mg "min" = none
  b_range : mg "range" = none
  b_repr : mg "repr" = none
  b_str : mg "str" = none
  b_tuple : mg "tuple" = none
  b_zip : mg "zip" = none
  g_MOST_NAMES : ∃ t, mg "MOST_NAMES" = some (.int (6) t)
  g_MOST_LETTERS : ∃ t, mg "MOST_LETTERS" = some (.int (6) t)
  g_MOST_STEPS : ∃ t, mg "MOST_STEPS" = some (.int (60) t)
  g_MOST_TIMES : ∃ t, mg "MOST_TIMES" = some (.int (10 ^ 30) t)
  d__wall : Dn K mg "_wall" s__wall
  d_is_whole : Dn K mg "is_whole" s_is_whole
  d_is_pair : Dn K mg "is_pair" s_is_pair
  d_is_ascending : Dn K mg "is_ascending" s_is_ascending
  d_need_field : Dn K mg "need_field" s_need_field
  d_touch_table : Dn K mg "touch_table" s_touch_table
  d_names_touching : Dn K mg "names_touching" s_names_touching
  d_are_apart : Dn K mg "are_apart" s_are_apart
  d_are_names : Dn K mg "are_names" s_are_names
  d_is_name : Dn K mg "is_name" s_is_name
  d_are_pairs : Dn K mg "are_pairs" s_are_pairs
  d_is_pair_of : Dn K mg "is_pair_of" s_is_pair_of
  d_need_script : Dn K mg "need_script" s_need_script
  d_is_step : Dn K mg "is_step" s_is_step
  d_is_great_step : Dn K mg "is_great_step" s_is_great_step
  d_is_times : Dn K mg "is_times" s_is_times
  d_least_pile : Dn K mg "least_pile" s_least_pile
  d_are_alike : Dn K mg "are_alike" s_are_alike
  d_piled : Dn K mg "piled" s_piled
  d_last_touched : Dn K mg "last_touched" s_last_touched
  d_place_behind : Dn K mg "place_behind" s_place_behind
  d_need_place : Dn K mg "need_place" s_need_place
  d_holders : Dn K mg "holders" s_holders
  d__law_mixed : Dn K mg "_law_mixed" s__law_mixed
  d__law_folded : Dn K mg "_law_folded" s__law_folded
  d__law_draw : Dn K mg "_law_draw" s__law_draw
  d__law_begun : Dn K mg "_law_begun" s__law_begun
  d__law_like : Dn K mg "_law_like" s__law_like
  d__law_field : Dn K mg "_law_field" s__law_field
  d__law_apart : Dn K mg "_law_apart" s__law_apart
  d__law_meet : Dn K mg "_law_meet" s__law_meet
  d__law_pile : Dn K mg "_law_pile" s__law_pile
  d__law_firsts : Dn K mg "_law_firsts" s__law_firsts
  d__law_least : Dn K mg "_law_least" s__law_least
  d__law_back : Dn K mg "_law_back" s__law_back
  d__law_said : Dn K mg "_law_said" s__law_said
  d__law_own : Dn K mg "_law_own" s__law_own
  d__law_held : Dn K mg "_law_held" s__law_held
  d__law_kept : Dn K mg "_law_kept" s__law_kept
  d__law_without : Dn K mg "_law_without" s__law_without
  d__law_shift : Dn K mg "_law_shift" s__law_shift
  d__law_stands : Dn K mg "_law_stands" s__law_stands
  d__law_step : Dn K mg "_law_step" s__law_step
  d__law_alike : Dn K mg "_law_alike" s__law_alike
  d_law : Dn K mg "law" s_law
end XB
set_option Elab.async false
set_option linter.all false
set_option maxRecDepth 100000
set_option maxHeartbeats 4000000
namespace XB
open PySem PySem.Spec PyProof.Rows L2
section
variable {P : Program} {w : World} {K : PySem.W.Frag} {mg : Str → Option Value} {base : Heap}
def spMixed : Sp := fun vs H Q _ => ∃ c n : Int, vs = [.int c, .int n] ∧ 0 ≤ c ∧ c < 1099511627776 ∧ 0 ≤ n ∧ n < 1099511627776 ∧ ∀ r : Int, 0 ≤ r → r < 1099511627 → Q (.int r) H
theorem c_mixed (T : Tx K mg) : Cl P w K mg base CX0 1 "_law_mixed" spMixed := by
  refine cl0 T.d__law_mixed (ps := ["cell", "n"]) (fun _ _ _ _ _ _ us hl => match us, hl with | [_, _], _ => rfl) sc__law_mixed (fun vs H Q E h => ?_) (fun f cdv A outer s H vs Q E hr h => ?_)
  · obtain ⟨c, n, rfl, _⟩ := h
    rfl
  · obtain ⟨c, n, rfl, c0, c1, n0, n1, q⟩ := h
    have nd := sc__law_mixed.nd
    refine ⟨_, pss_cons (ps_set (i := 2) nd rfl (.inl rfl) (pe_op op_add (pe_op op_add
        (pe_op op_mod (pe_callTy call_int1 (by rfl) T.b_int (by decide +kernel) (pa_cons (pe_op op_mul (pe_op op_mul (pv 0) (pe_op op_add pe_int (pe_op op_mul pe_int (pv 1)))) pe_int) pa_nil)) pe_int)
        (pe_op op_mul (pe_op op_mul pe_int (pv 1)) (pv 1))) (pe_op op_mul pe_int (pv 1))))
      (pss_one (ps_ret (pe_op op_fdiv (pe_op op_mod (pe_callTy call_int1 (by rfl) T.b_int (by decide +kernel) (pa_cons (pe_op op_mul (pv 2) pe_int) pa_nil)) pe_int) pe_int))), ?_⟩
    refine ⟨_, rfl, _, rfl, _, _, rfl, rfl, .inl (by constructor <;> omega), _, _, rfl, rfl, _, _, rfl, rfl, .inl (by constructor <;> omega), ?_⟩
    refine ⟨_, _, rfl, rfl, .inr (by decide), .inl ⟨_, rfl, ?_⟩⟩
    refine ⟨_, _, rfl, rfl, (show (0 : Int) < 2147483647 by decide), ?_⟩
    refine ⟨_, rfl, _, _, rfl, rfl, .inl (by decide), _, rfl, _, _, rfl, rfl, .inl (by constructor <;> omega), ?_⟩
    refine ⟨_, _, rfl, rfl, _, rfl, _, _, rfl, rfl, .inl (by decide), _, _, rfl, rfl, ?_⟩
    refine ⟨_, rfl, _, _, rfl, rfl, .inr (by decide), .inl ⟨_, rfl, ?_⟩⟩
    refine ⟨_, _, rfl, rfl, (show (0 : Int) < 2147483629 by decide), _, _, rfl, rfl, ⟨by decide, by decide⟩, ?_⟩
    refine q _ ?_ ?_
    · exact Int.ediv_nonneg (Int.emod_nonneg _ (by decide)) (by decide)
    · have h1 := Int.emod_lt_of_pos (c * (1 + 2 * n) * 48271 % 2147483647 + 7919 * n * n + 104729 * n) (b := 2147483629) (by decide)
      generalize (c * (1 + 2 * n) * 48271 % 2147483647 + 7919 * n * n + 104729 * n) = z
      have h1 := Int.emod_lt_of_pos (z * 69621) (b := 2147483629) (by decide)
      generalize (z * 69621) % 2147483629 = y at h1 ⊢
      show y / 7 < 1099511627
      omega
/-- what a row of numbers is that draws come from -/
structure Good (xs : List Int) : Prop where
  len : xs.length = 64
  bd : ∀ v ∈ xs, 0 ≤ v ∧ v < 2147483647
theorem Good.set {xs : List Int} (g : Good xs) (k : Nat) (z : Int) : Good (xs.set k (z % 2147483647)) := by
  refine ⟨by rw [List.length_set]; exact g.len, fun v hv => ?_⟩
  rcases List.mem_or_eq_of_mem_set hv with h | h
  · exact g.bd v h
  · rw [h]
    exact ⟨Int.emod_nonneg _ (by decide), Int.emod_lt_of_pos _ (by decide)⟩
theorem Good.at (xs : List Int) (g : Good xs) {k : Nat} (h : k < 64) : ∃ v, xs[k]? = some v ∧ 0 ≤ v ∧ v < 2147483647 := by
  have h' : k < xs.length := by rw [g.len]; exact h
  exact ⟨xs[k], List.getElem?_eq_getElem h', g.bd _ (List.getElem_mem h')⟩
theorem mod_nat {z : Int} : ∃ k : Nat, z % 64 = (k : Int) ∧ k < 64 := by
  have h0 := Int.emod_nonneg z (b := 64) (by decide)
  have h1 := Int.emod_lt_of_pos z (b := 64) (by decide)
  exact ⟨(z % 64).toNat, by omega, by omega⟩
def spFolded (K : PySem.W.Frag) : Sp := fun vs H Q _ => ∃ (a : Addr) (ns : List Int), vs = [.ref a] ∧ SqL K H a (ns.map V.int) ∧ ns.length ≤ 1000 ∧
  ∀ H' p xs, Same H H' → H p = none → H' p = some (.lst (xs.map V.int)) → Good xs → Q (.ref p) H'
theorem c_folded (T : Tx K mg) : Cl P w K mg base CX0 1 "_law_folded" (spFolded K) := by
  refine cl0 T.d__law_folded (ps := ["script"]) (fun _ _ _ _ _ _ us hl => match us, hl with | [_], _ => rfl) sc__law_folded (fun vs H Q E h => ?_) (fun f cdv A outer s H vs Q E hr h => ?_)
  · obtain ⟨a, ns, rfl, _⟩ := h
    rfl
  · obtain ⟨a, ns, rfl, hS, hlen, q⟩ := h
    have nd := sc__law_folded.nd
    refine ⟨_, pss_cons (ps_setLc (i := 1) (own := [("n", 2)]) (g := gName 2) (tt := tYes) rfl nd rfl rfl (sw_true rfl rfl rfl (by decide +kernel)) (pi_range1 (by rfl) T.b_range (pa_cons pe_int pa_nil)) (blkOk_by (own := [("n", 2)]) (N := ["script", "found", "n", "cell"]) (sc := defScope s__law_folded) (by decide +kernel))
          (fun _ _ _ _ _ => pg_name (i := 2) nd rfl (Or.inl rfl)) (fun _ _ _ _ _ => pts_nil) (fun _ _ _ _ _ => pe_op op_add pe_int (pv 2)))
      (pss_cons (ps_for PassesOwn.never rfl (pi_enum (by rfl) T.b_enumerate (pa_cons (pv 0) pa_nil)) (pg_tup rfl (pgs_cons (pg_name (i := 2) nd rfl (.inl rfl)) (pgs_cons (pg_name (i := 3) nd rfl (.inl rfl)) pgs_nil)))
        (pss_one (ps_asg (pe_op op_mod (pe_callTy call_int1 (by rfl) T.b_int (by decide +kernel) (pa_cons (pe_op op_add (pe_op op_mul (pe_ix ix_list (pv 1) (pe_op op_mod (pe_callTy call_int1 (by rfl) T.b_int (by decide +kernel) (pa_cons (pv 2) pa_nil)) pe_int) (fun _ _ => rfl)) pe_int) (pv 3)) pa_nil)) pe_int)
          (pg_sub (pv 1) (pe_op op_mod (pe_callTy call_int1 (by rfl) T.b_int (by decide +kernel) (pa_cons (pv 2) pa_nil)) pe_int) set_list))))
      (pss_cons (ps_for PassesOwn.never rfl (pi_range2 (by rfl) T.b_range (pa_cons pe_int (pa_cons pe_int pa_nil))) (pg_name (i := 2) nd rfl (.inl rfl))
        (pss_one (ps_asg (pe_op op_mod (pe_callTy call_int1 (by rfl) T.b_int (by decide +kernel) (pa_cons (pe_op op_add (pe_ix ix_list (pv 1) (pv 2) (fun _ _ => rfl)) (pe_op op_mul (pe_ix ix_list (pv 1) (pe_op op_sub (pv 2) pe_int) (fun _ _ => rfl)) pe_int)) pa_nil)) pe_int)
          (pg_sub (pv 1) (pv 2) set_list))))
      (pss_one (ps_ret (pv 1))))), ?_⟩
    refine ⟨64, rfl, by decide, by decide, fun D hD => ?_⟩
    refine lc_range (lo := 0) (n := 64) (fun i H' => ∃ acc : List Int, H' D = some (.lst (acc.map V.int)) ∧ acc.length = i ∧ (∀ v ∈ acc, 0 ≤ v ∧ v < 2147483647) ∧ Same H H')
      ⟨[], upd_same, rfl, (fun _ h => nomatch h), same_upd hD⟩ (fun i H' hi ⟨acc, eD, el, eb, sm⟩ => ?_) (fun H' ⟨acc, eD, el, eb, sm⟩ => ?_)
    · refine ⟨rfl, yes_ ?_⟩
      refine ⟨_, rfl, _, _, rfl, rfl, _, eD, by rw [List.length_map]; exact small1000 (by omega), acc ++ [17 + (0 + (i : Int))], ?_, by rw [List.length_append, el]; rfl, fun v hv => ?_, same_put sm hD⟩
      · rw [upd_same, List.map_append]
        rfl
      · rcases List.mem_append.mp hv with h | h
        · exact eb v h
        · rw [List.mem_singleton.mp h]
          omega
    · refine ⟨_, rfl, a, ns.map V.int, rfl, sm.seq hS, for_it (walk_enum (xs := ns.map V.int)) (fun i σ H2 => ∃ (xs : List Int) (y2 y3 : Option V), σ = [some (.ref a), some (.ref D), y2, y3] ∧ Same H H2 ∧ H2 D = some (.lst (xs.map V.int)) ∧ Good xs)
        ⟨acc, none, none, rfl, sm, eD, ⟨el, eb⟩⟩ (fun i σ H2 _ ⟨xs, y2, y3, _, s2, _⟩ => s2.seq hS) (fun i x σ H2 H3 hi ⟨xs, y2, y3, eσ, s2, e2, g⟩ hy => ?_) (fun σ H2 ⟨xs, y2, y3, eσ, s2, e2, g⟩ => ?_)⟩
      · obtain ⟨Tt, x1, x2, rfl, nT, rfl, f1, f2⟩ := hy
        subst eσ
        obtain ⟨k, hk, k64⟩ := mod_nat (z := (i : Int))
        obtain ⟨v, hv, v0, v1⟩ := g.at xs k64
        have e1 : x1 = V.int (i : Int) := (Option.some.inj f1).symm
        obtain ⟨z, _, rfl⟩ := int_at f2
        subst e1
        have nDT : D ≠ Tt := ne_of_none e2 nT
        have e3 : upd H2 Tt (.tup [.int (i : Int), .int z]) D = some (.lst (xs.map V.int)) := by
          rw [upd_ne nDT]
          exact e2
        refine ⟨Tt, _, rfl, SqT.of upd_same, rfl, _, _, rfl, _, _, rfl, rfl, ?_⟩
        refine ⟨_, rfl, _, rfl, .inl ⟨_, rfl, _, _, rfl, rfl, (show (0 : Int) < 64 by decide), _, _, _, _, rfl, rfl, SqL.of e3, atI_of hk hv, ?_⟩⟩
        refine ⟨_, _, rfl, rfl, .inr (by decide), _, rfl, _, _, rfl, rfl, .inl ⟨_, rfl, _, _, rfl, rfl, (show (0 : Int) < 2147483647 by decide), ?_⟩⟩
        refine ⟨_, rfl, _, rfl, .inl ⟨_, rfl, _, _, rfl, rfl, (show (0 : Int) < 64 by decide), _, _, _, k, rfl, rfl, e3, ?_, ?_⟩⟩
        · rw [List.length_map, g.len]
          exact ixN_of hk k64
        · refine ⟨_, _, _, rfl, same_put (same_new s2 nT) hD, by rw [upd_same, map_set], g.set k _⟩
      · subst eσ
        refine ⟨1, 64, rfl, by decide, for_range (lo := 1) (n := 63) (fun i σ H3 => ∃ (xs : List Int) (y2 y3 : Option V), σ = [some (.ref a), some (.ref D), y2, y3] ∧ Same H H3 ∧ H3 D = some (.lst (xs.map V.int)) ∧ Good xs)
          ⟨xs, y2, y3, rfl, s2, e2, g⟩ (fun i σ H3 hi ⟨xs, y2, y3, eσ, s3, e3, g⟩ => ?_) (fun σ H3 ⟨xs, y2, y3, eσ, s3, e3, g⟩ => ?_)⟩
        · subst eσ
          obtain ⟨v, hv, v0, v1⟩ := g.at xs (k := i + 1) (by omega)
          obtain ⟨u, hu, u0, u1⟩ := g.at xs (k := i) (by omega)
          refine ⟨_, rfl, _, rfl, _, _, _, _, rfl, rfl, SqL.of e3, atI_of (k := i + 1) (by omega) hv, ?_⟩
          refine ⟨_, rfl, _, rfl, _, _, rfl, rfl, _, _, _, _, rfl, rfl, SqL.of e3, atI_of (k := i) (by omega) hu, ?_⟩
          refine ⟨_, _, rfl, rfl, .inr (by decide), _, _, rfl, rfl, .inl ⟨_, rfl, _, _, rfl, rfl, (show (0 : Int) < 2147483647 by decide), ?_⟩⟩
          refine ⟨_, rfl, _, rfl, _, _, _, i + 1, rfl, rfl, e3, ?_, ?_⟩
          · rw [List.length_map, g.len]
            exact ixN_of (by omega) (by omega)
          · exact ⟨_, _, _, rfl, same_put s3 hD, by rw [upd_same, map_set], g.set _ _⟩
        · subst eσ
          exact ⟨_, rfl, q _ _ _ s3 hD e3 g⟩
end
end XB
set_option Elab.async false
set_option linter.all false
set_option maxRecDepth 100000
set_option maxHeartbeats 4000000
namespace XB
open PySem PySem.Spec PyProof.Rows L2
/-! ### the draws' state: a dict of two rows and a number -/
abbrev kCells : Key := .inr "cells"
abbrev kGreat : Key := .inr "great"
abbrev kSpot : Key := .inr "spot"
def drawn (c g : Addr) (s : Int) : List (Key × V) := [(kCells, .ref c), (kGreat, .ref g), (kSpot, .int s)]
theorem drawn_spot (c g : Addr) (s : Int) : valV (drawn c g s) kSpot = some (.int s) := by rfl
theorem drawn_great (c g : Addr) (s : Int) : valV (drawn c g s) kGreat = some (.ref g) := by rfl
theorem drawn_cells (c g : Addr) (s : Int) : valV (drawn c g s) kCells = some (.ref c) := by rfl
theorem drawn_put (c g : Addr) (s z : Int) : putK (drawn c g s) kSpot (.int z) = drawn c g z := by rfl
structure Dr (H : Hp) (m c g : Addr) (s : Int) : Prop where
  ex : ∃ cs gs : List Int, H m = some (.dK (drawn c g s)) ∧ H c = some (.lst (cs.map V.int)) ∧ H g = some (.lst (gs.map V.int)) ∧ Good cs ∧ gs.length ≤ 1000
  ne : c ≠ g
  s0 : 0 ≤ s
/-- all but the draws' state stands -/
def Kp (m g : Addr) (H H' : Hp) : Prop := ∀ b o, b ≠ m → b ≠ g → H b = some o → H' b = some o
theorem Kp.refl {m g : Addr} {H : Hp} : Kp m g H H := fun _ _ _ _ e => e
theorem Kp.trans {m g : Addr} {H H1 H2 : Hp} (a : Kp m g H H1) (b : Kp m g H1 H2) : Kp m g H H2 := fun x o h1 h2 e => b x o h1 h2 (a x o h1 h2 e)
theorem Kp.of {m g : Addr} {H H1 : Hp} (a : Same H H1) : Kp m g H H1 := fun x o _ _ e => a x o e
theorem Kp.putM {m g : Addr} {H H1 : Hp} {o : HO} (a : Kp m g H H1) : Kp m g H (upd H1 m o) := fun x u h1 h2 e => by
  rw [upd_ne h1]
  exact a x u h1 h2 e
theorem Kp.putG {m g : Addr} {H H1 : Hp} {o : HO} (a : Kp m g H H1) : Kp m g H (upd H1 g o) := fun x u h1 h2 e => by
  rw [upd_ne h2]
  exact a x u h1 h2 e
theorem Kp.new {m g p : Addr} {H H1 : Hp} {o : HO} (a : Kp m g H H1) (hp : H1 p = none) : Kp m g H (upd H1 p o) := fun x u h1 h2 e => by
  rw [upd_ne (ne_of_none (a x u h1 h2 e) hp)]
  exact a x u h1 h2 e
theorem dpInts {K : PySem.W.Frag} {H : Hp} : ∀ gs : List Int, DpAll K H (gs.map V.int) (gs.map PyData.int)
  | [] => .nil
  | x :: r => .cons (.int x) (dpInts r)
theorem layInts : ∀ gs : List Int, PyData.canLayAll0 (gs.map PyData.int) = true
  | [] => rfl
  | x :: r => by
    show (PyData.canLay0 (.int x) && PyData.canLayAll0 (r.map PyData.int)) = true
    rw [layInts r]
    rfl
theorem deepInts : ∀ gs : List Int, PyData.depthAll (gs.map PyData.int) = 0
  | [] => rfl
  | x :: r => by
    show max (PyData.depth (.int x)) (PyData.depthAll (r.map PyData.int)) = 0
    rw [deepInts r]
    rfl
theorem shInts (gs : List Int) : SeqAt.shaped (.list (gs.map PyData.int)) = true := by
  show (PyData.canLayAll0 (gs.map PyData.int) && decide (PyData.depthAll (gs.map PyData.int) + 1 ≤ 64)) = true
  rw [layInts, deepInts]
  rfl
theorem neInts (gs : List Int) : PyData.eqv (.list (gs.map .int)) (.list []) = gs.isEmpty := by
  cases gs <;> rfl
section
variable {P : Program} {w : World} {K : PySem.W.Frag} {mg : Str → Option Value} {base : Heap}
def spDraw : Sp := fun vs H Q _ => ∃ (m c g : Addr) (s lim : Int), vs = [.ref m, .int lim] ∧ Dr H m c g s ∧ 0 < lim ∧ lim < 1073741824 ∧ s < 1073741824 ∧
  ∀ r H', 0 ≤ r → r < lim → Dr H' m c g (s + 1) → Kp m g H H' → Q (.int r) H'
theorem c_draw (T : Tx K mg) : Cl P w K mg base CX0 2 "_law_draw" spDraw := by
  refine cl0 T.d__law_draw (ps := ["m", "limit"]) (fun _ _ _ _ _ _ us hl => match us, hl with | [_, _], _ => rfl) sc__law_draw (fun vs H Q E h => ?_) (fun f cdv A outer st H vs Q E hr h => ?_)
  · obtain ⟨m, c, g, s, lim, rfl, _⟩ := h
    rfl
  · obtain ⟨m, c, g, s, lim, rfl, D, l0, l1, s1, q⟩ := h
    obtain ⟨⟨cs, gs, em, ec, eg, gc, gl⟩, ncg, s0⟩ := D
    have nd := sc__law_draw.nd
    have hu := hu_of hr
    refine ⟨_, pss_cons (ps_set (i := 2) nd rfl (.inl rfl) (pe_dget hu (pv 0) pe_str (fun _ _ => rfl)))
      (pss_cons (ps_dput hu (pv 0) pe_str (pe_op op_add (pv 2) pe_int) rfl)
      (C8.pss_cut (ps_if (pt_cmpR (op_neD hr.units) (pe_dget hu (pv 0) pe_str (fun _ _ => rfl)) (pe_lst pa_nil) (nomark _))
        (pss_cons (ps_set (i := 3) nd rfl (.inl rfl) (pe_dget hu (pv 0) pe_str (fun _ _ => rfl)))
        (pss_cons (ps_set (i := 4) nd rfl (.inl rfl) (pe_op op_mod (pe_callTy call_int1 (by rfl) T.b_int (by decide +kernel) (pa_cons (pv 2) pa_nil)) (pe_callB call_len_seq (by rfl) T.b_len PySem.boot_len (pa_cons (pv 3) pa_nil))))
        (pss_cons (ps_set (i := 5) nd rfl (.inl rfl) (pe_ix ix_list (pv 3) (pv 4) (fun _ _ => rfl)))
        (pss_one (ps_if (pt_cmpR op_gt (pv 5) pe_int (nomark _))
          (pss_cons (ps_asg (pe_op op_fdivW (pv 5) (pv 1)) (pg_sub (pv 3) (pv 4) set_list))
          (pss_one (ps_ret (pe_op op_mod (pe_callTy call_int1 (by rfl) T.b_int (by decide +kernel) (pa_cons (pv 5) pa_nil)) (pv 1))))) pss_nil)))))
        pss_nil)
      (pss_cons (ps_set (i := 3) nd rfl (.inl rfl) (pe_dget hu (pv 0) pe_str (fun _ _ => rfl)))
      (pss_one (ps_ret (pe_op op_mod (pe_callTy call_int1 (by rfl) T.b_int (by decide +kernel) (pa_cons
        (pe_k (c_mixed T) hr (by decide) (by rfl) (pa_cons
          (pe_k (c_mixed T) hr (by decide) (by rfl) (pa_cons (pe_op op_add (pe_ix ix_list (pv 3) (pe_op op_mod (pe_callTy call_int1 (by rfl) T.b_int (by decide +kernel) (pa_cons (pv 2) pa_nil)) pe_int) (fun _ _ => rfl)) (pe_op op_mul pe_int (pe_op op_fdiv (pv 2) pe_int))) (pa_cons (pv 2) pa_nil)))
          (pa_cons (pe_op op_add (pv 2) pe_int) pa_nil))) pa_nil)) (pv 1))))))), ?_⟩
    have nmc : m ≠ c := ne_of em ec (by intro z; cases z)
    have nmg : m ≠ g := ne_of em eg (by intro z; cases z)
    refine ⟨_, rfl, m, _, rfl, DGet.k (k := kSpot) em, ?_⟩
    refine ⟨_, rfl, _, _, rfl, rfl, _, rfl, m, _, rfl, DPut.k (k := kSpot) em (by show 3 < sizeLine; decide), ?_⟩
    have em1 : upd H m (.dK (putK (drawn c g s) kSpot (.int (s + 1)))) m = some (.dK (drawn c g (s + 1))) := upd_same
    generalize hH1 : upd H m (.dK (putK (drawn c g s) kSpot (.int (s + 1)))) = H1 at em1
    have ec1 : H1 c = some (.lst (cs.map V.int)) := by
      rw [← hH1, upd_ne nmc.symm]
      exact ec
    have eg1 : H1 g = some (.lst (gs.map V.int)) := by
      rw [← hH1, upd_ne nmg.symm]
      exact eg
    have k1 : Kp m g H H1 := by
      rw [← hH1]
      exact Kp.refl.putM
    refine ⟨fun σ H' => ∃ y3 y4 y5, σ = [some (.ref m), some (.int lim), some (.int s), y3, y4, y5] ∧ Dr H' m c g (s + 1) ∧ Kp m g H H', ?_, ?_⟩
    · refine ⟨_, rfl, m, _, rfl, DGet.k (k := kGreat) em1, Nat.zero_le _, fun p hp => ?_⟩
      have em2 := (same_upd (o := .lst []) hp) m _ em1
      have ec2 := (same_upd (o := .lst []) hp) c _ ec1
      have eg2 := (same_upd (o := .lst []) hp) g _ eg1
      have k2 : Kp m g H (upd H1 p (.lst [])) := k1.new hp
      have ep2 : upd H1 p (.lst []) p = some (.lst []) := upd_same
      generalize upd H1 p (.lst []) = H2 at em2 ec2 eg2 k2 ep2 ⊢
      refine ⟨.list (gs.map .int), .list [], .lst (SqL.of eg2) (dpInts gs), .lst (SqL.of ep2) .nil, shInts gs, rfl, _, rfl, ?_⟩
      refine ite2 (fun hne => ?_) (fun _ => ⟨_, _, _, rfl, ⟨⟨cs, gs, em2, ec2, eg2, gc, gl⟩, ncg, by omega⟩, k2⟩)
      have hpos : 0 < gs.length := by
        rw [neInts] at hne
        cases gs with
        | nil => exact absurd hne (by decide)
        | cons _ _ => exact Nat.succ_pos _
      refine ⟨_, rfl, m, _, rfl, DGet.k (k := kGreat) em2, ?_⟩
      refine ⟨_, rfl, .inl ⟨_, rfl, _, rfl, g, _, rfl, .inl (SqL.of eg2), _, _, rfl, rfl, ?_, ?_⟩⟩
      · show (0 : Int) < ((gs.map V.int).length : Int)
        rw [List.length_map]
        omega
      have h0 := Int.emod_nonneg s (b := ((gs.map V.int).length : Int)) (by rw [List.length_map]; omega)
      have h1 := Int.emod_lt_of_pos s (b := ((gs.map V.int).length : Int)) (by rw [List.length_map]; omega)
      rw [List.length_map] at h0 h1
      obtain ⟨k, hk⟩ : ∃ k : Nat, s % (gs.length : Int) = (k : Int) := ⟨(s % (gs.length : Int)).toNat, by omega⟩
      have hkl : k < gs.length := by omega
      have hk' : s % ((gs.map V.int).length : Int) = (k : Int) := by
        rw [List.length_map]
        exact hk
      refine ⟨_, rfl, _, rfl, _, _, _, _, rfl, rfl, SqL.of eg2, atI_of hk' (List.getElem?_eq_getElem hkl), ?_⟩
      refine ⟨_, rfl, _, _, rfl, rfl, _, rfl, ?_⟩
      refine ite2 (fun hp => ?_) (fun _ => ⟨_, _, _, rfl, ⟨⟨cs, gs, em2, ec2, eg2, gc, gl⟩, ncg, by omega⟩, k2⟩)
      refine ⟨_, rfl, _, rfl, _, _, rfl, rfl, wide_div l0 (b := 31) (by omega) (by decide) (by decide), ?_⟩
      refine ⟨_, rfl, _, rfl, _, _, _, k, rfl, rfl, eg2, ixN_of hk' (by rw [List.length_map]; exact hkl), ?_⟩
      refine ⟨_, rfl, .inl ⟨_, rfl, _, rfl, _, _, rfl, rfl, l0, ?_⟩⟩
      refine q _ _ (Int.emod_nonneg _ (by omega)) (Int.emod_lt_of_pos _ l0) ⟨⟨cs, _, ?_, ?_, by rw [upd_same, map_set], gc, by rw [List.length_set]; exact gl⟩, ncg, by omega⟩ k2.putG
      · rw [upd_ne nmg]
        exact em2
      · rw [upd_ne ncg]
        exact ec2
    · rintro σ H3 ⟨y3, y4, y5, rfl, ⟨⟨cs, gs, em3, ec3, eg3, gc3, gl3⟩, _, _⟩, k3⟩
      obtain ⟨k, hk, k64⟩ := mod_nat (z := s)
      obtain ⟨v, hv, v0, v1⟩ := gc3.at cs k64
      refine ⟨_, rfl, m, _, rfl, DGet.k (k := kCells) em3, ?_⟩
      refine ⟨_, rfl, _, rfl, .inl ⟨_, rfl, _, _, rfl, rfl, (show (0 : Int) < 64 by decide), _, _, _, _, rfl, rfl, SqL.of ec3, atI_of hk hv, ?_⟩⟩
      refine ⟨_, rfl, _, _, rfl, rfl, ⟨by decide, by decide⟩, _, _, rfl, rfl, .inl (by decide), _, _, rfl, rfl, ?_⟩
      refine ⟨_, rfl, _, _, rfl, by omega, by omega, s0, by omega, fun r1 a0 a1 => ?_⟩
      refine ⟨_, rfl, _, _, rfl, rfl, _, _, rfl, a0, by omega, by omega, by omega, fun r2 b0 b1 => ?_⟩
      refine .inl ⟨_, rfl, _, rfl, _, _, rfl, rfl, l0, ?_⟩
      exact q _ _ (Int.emod_nonneg _ (by omega)) (Int.emod_lt_of_pos _ l0) ⟨⟨cs, gs, em3, ec3, eg3, gc3, gl3⟩, ncg, by omega⟩ k3
end
end XB
set_option Elab.async false
set_option linter.all false
set_option maxRecDepth 100000
set_option maxHeartbeats 4000000
namespace XB
open PySem PySem.Spec PyProof.Rows L2
section
variable {P : Program} {w : World} {K : PySem.W.Frag} {mg : Str → Option Value} {base : Heap}
def spBegun (K : PySem.W.Frag) : Sp := fun vs H Q _ => ∃ (a : Addr) (ns : List Int), vs = [.ref a] ∧ SqL K H a (ns.map V.int) ∧ ns.length ≤ 1000 ∧
  ∀ H' m c g, Same H H' → H m = none → H c = none → H g = none → Dr H' m c g 0 → Q (.ref m) H'
theorem c_begun (T : Tx K mg) : Cl P w K mg base CX0 2 "_law_begun" (spBegun K) := by
  refine cl0 T.d__law_begun (ps := ["script"]) (fun _ _ _ _ _ _ us hl => match us, hl with | [_], _ => rfl) sc__law_begun (fun vs H Q E h => ?_) (fun f cdv A outer st H vs Q E hr h => ?_)
  · obtain ⟨a, ns, rfl, _⟩ := h
    rfl
  · obtain ⟨a, ns, rfl, hS, hlen, q⟩ := h
    have nd := sc__law_begun.nd
    have hu := hu_of hr
    refine ⟨_, pss_cons (ps_set (i := 1) nd rfl (.inl rfl) (pe_disp (pps_cons pe_str (pe_k (c_folded T) hr (by decide) (by rfl) (pa_cons (pv 0) pa_nil)) (pps_cons pe_str (pe_lst pa_nil) (pps_cons pe_str pe_int pps_nil))) (by rfl) (by rfl) (fun z => by cases z) (by decide)))
      (pss_cons (ps_dput hu (pv 1) pe_str (pe_lc (own := [("cell", 2)]) (g := gName 2) (tt := tYes) (by rfl) nd (pi_list (pv 0)) (blkOk_by (own := [("cell", 2)]) (N := ["script", "m", "cell"]) (sc := defScope s__law_begun) (by decide +kernel))
          (fun _ _ _ _ _ => pg_name (i := 2) nd rfl (Or.inl rfl)) (fun _ _ _ _ _ => pts_nil) (fun _ _ _ _ _ => pe_ifExp (pt_cmpR op_ge (pv 2) (pe_op op_pow pe_int pe_int) (nomark _)) (pv 2) pe_int)) rfl)
      (pss_one (ps_ret (pv 1)))), ?_⟩
    refine fun m hm => ?_
    have s1 : Same H (upd H m (.dK [])) := same_upd hm
    refine ⟨_, rfl, a, ns, rfl, s1.seq hS, hlen, fun H1 c cs sm nc ec gc => ?_⟩
    have hc0 : H c = none := s1.free nc
    have nmc : m ≠ c := fun e => by
      rw [← e, upd_same] at nc
      cases nc
    have em1 : H1 m = some (.dK []) := sm _ _ upd_same
    refine ⟨Nat.zero_le _, fun g0 hg0 => ?_⟩
    have em2 : upd H1 g0 (.lst []) m = some (.dK []) := (same_upd (o := .lst []) hg0) _ _ em1
    have ec2 : upd H1 g0 (.lst []) c = some (.lst (cs.map V.int)) := (same_upd (o := .lst []) hg0) _ _ ec
    have s2 : Same H (upd H1 g0 (.lst [])) := (s1.trans sm).trans (same_upd hg0)
    generalize upd H1 g0 (.lst []) = H2 at em2 ec2 s2 ⊢
    refine ⟨em2, [(kCells, .ref c), (kGreat, .ref g0), (kSpot, .int 0)], rfl, by show 3 ≤ 15; decide, ?_⟩
    have em3 : upd H2 m (.dK (mergeK [] [(kCells, .ref c), (kGreat, .ref g0), (kSpot, .int 0)])) m = some (.dK (drawn c g0 0)) := by
      rw [upd_same]
      rfl
    have ec3 : upd H2 m (.dK (mergeK [] [(kCells, .ref c), (kGreat, .ref g0), (kSpot, .int 0)])) c = some (.lst (cs.map V.int)) := by
      rw [upd_ne nmc.symm]
      exact ec2
    have s3 : Same H (upd H2 m (.dK (mergeK [] [(kCells, .ref c), (kGreat, .ref g0), (kSpot, .int 0)]))) := same_put s2 hm
    generalize upd H2 m (.dK (mergeK [] [(kCells, .ref c), (kGreat, .ref g0), (kSpot, .int 0)])) = H3 at em3 ec3 s3 ⊢
    refine ⟨_, rfl, a, rfl, ⟨_, s3.seq hS⟩, fun g hg => ?_⟩
    have hgH : H g = none := s3.free hg
    refine lc_list (K := K) (a := a) (xs := ns.map V.int) (fun i H' => ∃ acc : List Int, H' g = some (.lst (acc.map V.int)) ∧ acc.length = i ∧ Same H H' ∧ H' m = some (.dK (drawn c g0 0)) ∧ H' c = some (.lst (cs.map V.int)))
      ⟨[], upd_same, rfl, same_new s3 hg, (same_upd hg) _ _ em3, (same_upd hg) _ _ ec3⟩ (fun i H' _ ⟨_, _, _, s', _⟩ => s'.seq hS) (fun i x H' hi ⟨acc, eg, el, s', em', ec'⟩ => ?_) (fun H' ⟨acc, eg, el, s', em', ec'⟩ => ?_)
    · obtain ⟨z, hz, rfl⟩ := int_at hi
      have hil : i < ns.length := (List.getElem?_eq_some_iff.mp hz).1
      have nmg : m ≠ g := ne_of em' eg (by intro z; cases z)
      have ncg : c ≠ g := fun e => by
        rw [← e, ec3] at hg
        cases hg
      refine ⟨rfl, yes_ ?_⟩
      refine ⟨_, rfl, _, _, rfl, rfl, ⟨by decide, by decide, by decide⟩, _, _, rfl, rfl, _, rfl, ?_⟩
      have fin : ∀ y : Int, ∃ acc_1, H' g = some (.lst acc_1) ∧ acc_1.length < sizeLine ∧ ∃ acc2 : List Int, upd H' g (.lst (acc_1 ++ [V.int y])) g = some (.lst (acc2.map V.int)) ∧ acc2.length = i + 1 ∧ Same H (upd H' g (.lst (acc_1 ++ [V.int y]))) ∧
          upd H' g (.lst (acc_1 ++ [V.int y])) m = some (.dK (drawn c g0 0)) ∧ upd H' g (.lst (acc_1 ++ [V.int y])) c = some (.lst (cs.map V.int)) := fun y => by
        refine ⟨_, eg, by rw [List.length_map, el]; exact small1000 (by omega), acc ++ [y], ?_, by rw [List.length_append, el]; rfl, same_put s' hgH, ?_, ?_⟩
        · rw [upd_same, List.map_append]
          rfl
        · rw [upd_ne nmg]
          exact em'
        · rw [upd_ne ncg]
          exact ec'
      refine ite2 (fun _ => ?_) (fun _ => ?_)
      · exact ⟨_, rfl, fin z⟩
      · exact fin 0
    · have nmg : m ≠ g := ne_of em' eg (by intro z; cases z)
      have ncg : c ≠ g := fun e => by
        rw [← e, ec3] at hg
        cases hg
      refine ⟨_, rfl, m, _, rfl, DPut.k (k := kGreat) em' (by show 3 < sizeLine; decide), _, rfl, ?_⟩
      refine q _ m c g (same_put s' hm) hm hc0 hgH ⟨⟨cs, acc, ?_, ?_, ?_, gc, ?_⟩, ncg, Int.le_refl _⟩
      · rw [upd_same]
        rfl
      · rw [upd_ne nmc.symm]
        exact ec'
      · rw [upd_ne nmg.symm]
        exact eg
      · rw [el, List.length_map]
        exact hlen
end
end XB
set_option Elab.async false
set_option linter.all false
set_option maxRecDepth 100000
set_option maxHeartbeats 4000000
namespace XB
open PySem PySem.Spec PyProof.Rows L2
section
variable {P : Program} {w : World} {K : PySem.W.Frag} {mg : Str → Option Value} {base : Heap}
def spIsPair (K : PySem.W.Frag) : Sp := fun vs H Q _ => ∃ (a : Addr) (xs : List V), vs = [.ref a] ∧ SqT K H a xs ∧ Q (.bl (decide (xs.length = 2))) H
theorem c_is_pair (T : Tx K mg) : Cl P w K mg base CX0 1 "is_pair" (spIsPair K) := by
  refine cl0 T.d_is_pair (ps := ["value"]) (fun _ _ _ _ _ _ us hl => match us, hl with | [_], _ => rfl) sc_is_pair (fun vs H Q E h => ?_) (fun f cdv A outer st H vs Q E hr h => ?_)
  · obtain ⟨a, xs, rfl, _⟩ := h
    rfl
  · obtain ⟨a, xs, rfl, hS, q⟩ := h
    refine ⟨_, pss_one (ps_ret (pe_and (pe_isT "tuple" (by rfl) T.b_isinstance (by rfl) T.b_tuple (by decide +kernel) (pv 0)) (pe_one (pe_cmpR op_eq (pe_lenS (by rfl) T.b_len (pv 0)) pe_int (nomark _))))), ?_⟩
    refine ⟨_, rfl, _, _, _, _, _, rfl, .ty _, tyx_tup hS, kit_ty (by decide +kernel), _, rfl, iteT ?_⟩
    refine ⟨_, rfl, a, xs, rfl, .inr hS, rfl, ?_⟩
    have e : decide (V.int (xs.length : Int) = V.int 2) = decide (xs.length = 2) := by
      refine decide_eq_decide.mpr ⟨fun h => ?_, fun h => ?_⟩
      · injection h with h
        omega
      · rw [h]
        rfl
    show Q (.bl (decide (V.int (xs.length : Int) = V.int 2))) H
    rw [e]
    exact q
/-- each text ahead of the next one -/
def spAscN (K : PySem.W.Frag) : Sp := fun vs H Q _ => (∃ (a : Addr) (l : List Str), vs = [.ref a] ∧ SqT K H a (l.map V.str) ∧ l.length ≤ 1000 ∧ l.Pairwise (fun a b => sLt a b = true) ∧ ∀ H', Same H H' → Q (.bl true) H') ∨
  (∃ (a : Addr) (vs' : List V) (l : List (Str × Str)), vs = [.ref a] ∧ SqT K H a vs' ∧ DpAll K H vs' (l.map dPair) ∧ l.length ≤ 1000 ∧ l.Pairwise (fun p q => (if p.1 == q.1 then (if p.2 == q.2 then false else sLt p.2 q.2) else sLt p.1 q.1) = true) ∧ ∀ H', Same H H' → Q (.bl true) H')
theorem all_true : ∀ n : Nat, (List.replicate n true).all id = true
  | 0 => rfl
  | n + 1 => by
    rw [List.replicate_succ, List.all_cons, all_true n]
    rfl
theorem map_rep (n : Nat) : (List.replicate n true).map V.bl = List.replicate n (V.bl true) := by
  rw [List.map_replicate]
theorem c_is_ascending (T : Tx K mg) : Cl P w K mg base CX0 1 "is_ascending" (spAscN K) := by
  refine cl0 T.d_is_ascending (ps := ["items"]) (fun _ _ _ _ _ _ us hl => match us, hl with | [_], _ => rfl) sc_is_ascending (fun vs H Q E h => ?_) (fun f cdv A outer st H vs Q E hr h => ?_)
  · rcases h with ⟨a, l, rfl, _⟩ | ⟨a, l, _, rfl, _⟩ <;> rfl
  · have nd := sc_is_ascending.nd
    have hu := hr.units
    rcases h with ⟨a, l, rfl, hS, hlen, hP, q⟩ | ⟨a, vs', l, rfl, hS, hD, hlen, hP, q⟩
    · refine ⟨_, pss_one (ps_ret (pe_callB (cr_all rfl) (by rfl) T.b_all (by decide +kernel) (pa_cons (pe_lc (own := [("one", 1), ("other", 2)]) (g := gTup K 2 (gCons (gName 1) (gCons (gName 2) gNil))) (tt := tYes) (by rfl) nd
        (RZ.pi_zipA (by rfl) T.b_zip (pa_cons (pv 0) (pa_cons (pe_slice sl_tupA (pv 0) (po_some pe_int) po_none) pa_nil)))
        (blkOk_by (own := [("one", 1), ("other", 2)]) (N := ["items", "one", "other"]) (sc := defScope s_is_ascending) (by decide +kernel))
        (fun _ _ _ _ _ => pg_tup rfl (pgs_cons (pg_name (i := 1) nd rfl (Or.inl rfl)) (pgs_cons (pg_name (i := 2) nd rfl (Or.inl rfl)) pgs_nil))) (fun _ _ _ _ _ => pts_nil) (fun _ _ _ _ _ => pe_cmpR op_lt_str (pv 1) (pv 2) (nomark _))) pa_nil))), ?_⟩
      refine ⟨_, rfl, _, rfl, 1, rfl, ?_⟩
      refine noPart ?_
      refine sl_tail hS (fun e => ?_) (fun hne b hb => ?_)
      rotate_left
      · have hB : SqT K (upd H b (.tup ((l.map V.str).drop 1))) b ((l.drop 1).map V.str) := by
          rw [List.map_drop]
          exact SqT.of upd_same
        have hA := (Tk.of (same_upd (o := .tup ((l.map V.str).drop 1)) hb)).sqT hS
        have sm := same_upd (o := .tup ((l.map V.str).drop 1)) hb
        generalize upd H b (.tup ((l.map V.str).drop 1)) = H1 at hA hB sm ⊢
        refine ⟨a, b, _, _, rfl, .inr ⟨hA, hB, fun D hD => ?_⟩⟩
        refine lc_it (walk_zipT (xs := l.map V.str) (ys := (l.drop 1).map V.str) rfl) (fun i H' => H' D = some (.lst (List.replicate i (V.bl true))) ∧ Same H1 H') ⟨upd_same, same_upd hD⟩ (fun i H' _ ⟨_, s'⟩ => ⟨(Tk.of s').sqT hA, (Tk.of s').sqT hB⟩)
          (fun i x H2 H3 hi ⟨eD, s'⟩ hy => ?_) (fun H2 ⟨eD, s'⟩ => ?_)
        · obtain ⟨Tt, x1, x2, rfl, nT, rfl, f1, f2⟩ := hy
          obtain ⟨y1, g1, rfl⟩ := str_at f1
          obtain ⟨y2, g2, rfl⟩ := str_at f2
          have nDT : D ≠ Tt := ne_of_none eD nT
          refine ⟨Tt, _, rfl, SqT.of upd_same, rfl, _, _, rfl, _, _, rfl, rfl, rfl, yes_ ?_⟩
          refine ⟨_, rfl, _, rfl, _, _, rfl, rfl, _, by rw [upd_ne nDT]; exact eD, ?_, ?_, ?_⟩
          · rw [List.length_replicate, List.length_map, List.length_map] at *
            exact small1000 (by omega)
          · rw [upd_same]
            have lt : sLt y1 y2 = true := by
              rw [List.getElem?_drop] at g2
              obtain ⟨h1, e1⟩ := List.getElem?_eq_some_iff.mp g1
              obtain ⟨h2, e2⟩ := List.getElem?_eq_some_iff.mp g2
              rw [← e1, ← e2]
              exact List.pairwise_iff_getElem.mp hP i (1 + i) h1 h2 (by omega)
            have e : decide (y1.cps.toList < y2.cps.toList) = true := lt
            rw [e, List.replicate_succ']
          · exact same_put (same_new s' nT) hD
        · refine ⟨D, List.replicate _ true, rfl, SqL.of (by rw [map_rep]; exact eD), ?_⟩
          rw [all_true]
          exact q _ (sm.trans s')
      · have e0 : l = [] := List.map_eq_nil_iff.mp e
        subst e0
        refine ⟨a, a, _, _, rfl, .inr ⟨hS, hS, fun D hD => ?_⟩⟩
        refine lc_it (walk_zipT (xs := []) (ys := []) rfl) (fun i H' => H' D = some (.lst []) ∧ Same H H') ⟨upd_same, same_upd hD⟩ (fun i H' _ ⟨_, s'⟩ => ⟨(Tk.of s').sqT hS, (Tk.of s').sqT hS⟩)
          (fun i x H2 H3 hi _ _ => absurd hi (Nat.not_lt_zero _)) (fun H2 ⟨eD, s'⟩ => ?_)
        exact ⟨D, [], rfl, SqL.of eD, q _ s'⟩
    · refine ⟨_, pss_one (ps_ret (pe_callB (cr_all rfl) (by rfl) T.b_all (by decide +kernel) (pa_cons (pe_lc (own := [("one", 1), ("other", 2)]) (g := gTup K 2 (gCons (gName 1) (gCons (gName 2) gNil))) (tt := tYes) (by rfl) nd
        (RZ.pi_zipA (by rfl) T.b_zip (pa_cons (pv 0) (pa_cons (pe_slice sl_tupA (pv 0) (po_some pe_int) po_none) pa_nil)))
        (blkOk_by (own := [("one", 1), ("other", 2)]) (N := ["items", "one", "other"]) (sc := defScope s_is_ascending) (by decide +kernel))
        (fun _ _ _ _ _ => pg_tup rfl (pgs_cons (pg_name (i := 1) nd rfl (Or.inl rfl)) (pgs_cons (pg_name (i := 2) nd rfl (Or.inl rfl)) pgs_nil))) (fun _ _ _ _ _ => pts_nil) (fun _ _ _ _ _ => pe_cmpR (op_ltSSk (K := K) rfl hu) (pv 1) (pv 2) (nomark _))) pa_nil))), ?_⟩
      refine ⟨_, rfl, _, rfl, 1, rfl, ?_⟩
      have hl := hD.len
      rw [List.length_map] at hl
      refine noPart ?_
      refine sl_tail hS (fun e => ?_) (fun hne b hb => ?_)
      rotate_left
      · have hB : SqT K (upd H b (.tup (vs'.drop 1))) b (vs'.drop 1) := SqT.of upd_same
        have hA := (Tk.of (same_upd (o := .tup (vs'.drop 1)) hb)).sqT hS
        have sm := same_upd (o := .tup (vs'.drop 1)) hb
        generalize upd H b (.tup (vs'.drop 1)) = H1 at hA hB sm ⊢
        refine ⟨a, b, _, _, rfl, .inr ⟨hA, hB, fun D hD' => ?_⟩⟩
        refine lc_it (walk_zipT (xs := vs') (ys := vs'.drop 1) rfl) (fun i H' => H' D = some (.lst (List.replicate i (V.bl true))) ∧ Same H1 H') ⟨upd_same, same_upd hD'⟩ (fun i H' _ ⟨_, s'⟩ => ⟨(Tk.of s').sqT hA, (Tk.of s').sqT hB⟩)
          (fun i x H2 H3 hi ⟨eD, s'⟩ hy => ?_) (fun H2 ⟨eD, s'⟩ => ?_)
        · obtain ⟨Tt, x1, x2, rfl, nT, rfl, f1, f2⟩ := hy
          have f1 : vs'[i]? = some x1 := f1
          have f2 : (vs'.drop 1)[i]? = some x2 := f2
          rw [List.getElem?_drop] at f2
          obtain ⟨d1, g1, p1⟩ := hD.get f1
          obtain ⟨d2, g2, p2⟩ := hD.get f2
          rw [List.getElem?_map] at g1 g2
          obtain ⟨y1, k1, rfl⟩ := Option.map_eq_some_iff.mp g1
          obtain ⟨y2, k2, rfl⟩ := Option.map_eq_some_iff.mp g2
          obtain ⟨b1, rfl, c1⟩ := p1.pair
          obtain ⟨b2, rfl, c2⟩ := p2.pair
          have kT : Tk H (upd H2 Tt (.tup [.ref b1, .ref b2])) := (Tk.of (sm.trans s')).new nT
          have nDT : D ≠ Tt := ne_of_none eD nT
          refine ⟨Tt, _, rfl, SqT.of upd_same, rfl, _, _, rfl, _, _, rfl, rfl, rfl, yes_ ?_⟩
          refine ⟨_, rfl, _, rfl, _, _, _, _, _, _, rfl, rfl, kT.sqT c1, kT.sqT c2, _, by rw [upd_ne nDT]; exact eD, ?_, ?_, ?_⟩
          · rw [List.length_replicate]
            exact small1000 (by omega)
          · rw [upd_same]
            have lt : (if y1.1 == y2.1 then (if y1.2 == y2.2 then false else sLt y1.2 y2.2) else sLt y1.1 y2.1) = true := by
              obtain ⟨h1, e1⟩ := List.getElem?_eq_some_iff.mp k1
              obtain ⟨h2, e2⟩ := List.getElem?_eq_some_iff.mp k2
              rw [← e1, ← e2]
              exact List.pairwise_iff_getElem.mp hP i (1 + i) h1 h2 (by omega)
            rw [lt, List.replicate_succ']
          · exact same_put (same_new s' nT) hD'
        · refine ⟨D, List.replicate _ true, rfl, SqL.of (by rw [map_rep]; exact eD), ?_⟩
          rw [all_true]
          exact q _ (sm.trans s')
      · subst e
        refine ⟨a, a, _, _, rfl, .inr ⟨hS, hS, fun D hD' => ?_⟩⟩
        refine lc_it (walk_zipT (xs := []) (ys := []) rfl) (fun i H' => H' D = some (.lst []) ∧ Same H H') ⟨upd_same, same_upd hD'⟩ (fun i H' _ ⟨_, s'⟩ => ⟨(Tk.of s').sqT hS, (Tk.of s').sqT hS⟩)
          (fun i x H2 H3 hi _ _ => absurd hi (Nat.not_lt_zero _)) (fun H2 ⟨eD, s'⟩ => ?_)
        exact ⟨D, [], rfl, SqL.of eD, q _ s'⟩
end
end XB
set_option Elab.async false
set_option linter.all false
set_option maxRecDepth 100000
set_option maxHeartbeats 4000000
namespace XB
open PySem PySem.Spec PyProof.Rows L2
theorem inV_strs (a : Str) : ∀ l : List Str, inV (.str a) (l.map V.str) = l.contains a
  | [] => rfl
  | x :: l => by
    have ih := inV_strs a l
    unfold inV at ih ⊢
    rw [List.map_cons, List.any_cons, ih, List.contains_cons]
    congr 1
    show decide (x = a) = (a == x)
    by_cases e : x = a
    · subst e
      simp
    · have : a ≠ x := fun q => e q.symm
      simp [e, this]
theorem flat_strs (l : List Str) : (l.map V.str).all flatV = true := by
  rw [List.all_map]
  exact List.all_eq_true.mpr fun _ _ => rfl
section
variable {P : Program} {w : World} {K : PySem.W.Frag} {mg : Str → Option Value} {base : Heap}
def GoodName (n : Str) : Prop := 1 ≤ n.length ∧ n.length ≤ 6 ∧ ∀ c ∈ n.cps.toList, 97 ≤ c ∧ c ≤ 122
def spIsName : Sp := fun vs H Q _ => ∃ n : Str, vs = [.str n] ∧ GoodName n ∧ ∀ H', Same H H' → Q (.bl true) H'
theorem c_is_name (T : Tx K mg) : Cl P w K mg base CX0 1 "is_name" spIsName := by
  refine cl0 T.d_is_name (ps := ["value"]) (fun _ _ _ _ _ _ us hl => match us, hl with | [_], _ => rfl) sc_is_name (fun vs H Q E h => ?_) (fun f cdv A outer st H vs Q E hr h => ?_)
  · obtain ⟨n, rfl, _⟩ := h
    rfl
  · obtain ⟨n, rfl, ⟨n1, n6, nc⟩, q⟩ := h
    have nd := sc_is_name.nd
    obtain ⟨tk, hML⟩ := T.g_MOST_LETTERS
    have hsz : n.length ≤ sizeLine := Nat.le_trans n6 (by decide)
    refine ⟨_, pss_cons (ps_if (PW.pt (pw_or (pt_not (pt_val (pe_isT "str" (by rfl) T.b_isinstance (by rfl) T.b_str (by decide +kernel) (pv 0)))) (pw_or1 (pt_not (pt_chain op_le op_le pe_int (pe_lenT (by rfl) T.b_len (pv 0)) (pe_glob (v := .int 6) (by rfl) hML ⟨_, rfl⟩)))))) pss_never pss_nil)
      (pss_one (ps_ret (pe_callB (cr_all rfl) (by rfl) T.b_all (by decide +kernel) (pa_cons (pe_lc (own := [("letter", 1)]) (g := gName 1) (tt := tYes) (by rfl) nd (pi_str (pv 0))
        (blkOk_by (own := [("letter", 1)]) (N := ["value", "letter"]) (sc := defScope s_is_name) (by decide +kernel)) (fun _ _ _ _ _ => pg_name (i := 1) nd rfl (Or.inl rfl)) (fun _ _ _ _ _ => pts_nil) (fun _ _ _ _ _ => pe_chain op_le_str op_le_str pe_str (pv 1) pe_str)) pa_nil)))), ?_⟩
    refine ⟨_, rfl, _, _, _, _, _, rfl, .ty _, .base (.str n), kit_ty (r := true) (by decide +kernel), _, rfl, iteF ?_⟩
    refine ⟨_, rfl, n, rfl, hsz, _, _, rfl, rfl, _, rfl, ?_⟩
    rw [decide_eq_true (show (1 : Int) ≤ (n.length : Int) by omega)]
    refine iteT ⟨_, _, rfl, rfl, _, rfl, ?_⟩
    rw [decide_eq_true (show (n.length : Int) ≤ 6 by omega)]
    refine iteF ?_
    refine ⟨_, rfl, n, rfl, fun D hD => ?_⟩
    refine lc_it walk_str (fun i H' => H' D = some (.lst (List.replicate i (V.bl true))) ∧ Same H H') ⟨upd_same, same_upd hD⟩ (fun _ _ _ _ => True.intro) (fun i x H2 H3 hi ⟨eD, s'⟩ hy => ?_) (fun H2 ⟨eD, s'⟩ => ?_)
    · obtain ⟨rfl, c, hc, rfl⟩ := hy
      have hm : c ∈ n.cps.toList := by
        rw [← Array.getElem?_toList] at hc
        exact List.mem_of_getElem? hc
      obtain ⟨c1, c2⟩ := nc c hm
      refine ⟨rfl, yes_ ?_⟩
      refine ⟨_, rfl, _, _, rfl, rfl, _, rfl, ?_⟩
      have e1 : (!decide ((⟨#[c]⟩ : Str).cps.toList < ("a" : Str).cps.toList)) = true := by
        show (!decide ([c] < [97])) = true
        simp [List.cons_lt_cons_iff]
        omega
      have e2 : (!decide (("z" : Str).cps.toList < (⟨#[c]⟩ : Str).cps.toList)) = true := by
        show (!decide ([122] < [c])) = true
        simp [List.cons_lt_cons_iff]
        omega
      rw [e1]
      refine iteT ⟨_, _, rfl, rfl, ?_⟩
      rw [e2]
      refine ⟨_, eD, ?_, ?_, same_put s' hD⟩
      · rw [List.length_replicate]
        have : n.cps.size = n.length := rfl
        exact small1000 (by omega)
      · rw [upd_same, List.replicate_succ']
    · refine ⟨D, List.replicate _ true, rfl, SqL.of (by rw [map_rep]; exact eD), ?_⟩
      rw [all_true]
      exact q _ s'
def spAreNames (K : PySem.W.Frag) : Sp := fun vs H Q _ => ∃ (a : Addr) (l : List Str), vs = [.ref a] ∧ SqT K H a (l.map V.str) ∧ 1 ≤ l.length ∧ l.length ≤ 6 ∧ (∀ n ∈ l, GoodName n) ∧ l.Pairwise (fun a b => sLt a b = true) ∧ ∀ H', Same H H' → Q (.bl true) H'
theorem c_are_names (T : Tx K mg) : Cl P w K mg base CX0 2 "are_names" (spAreNames K) := by
  refine cl0 T.d_are_names (ps := ["value"]) (fun _ _ _ _ _ _ us hl => match us, hl with | [_], _ => rfl) sc_are_names (fun vs H Q E h => ?_) (fun f cdv A outer st H vs Q E hr h => ?_)
  · obtain ⟨a, l, rfl, _⟩ := h
    rfl
  · obtain ⟨a, l, rfl, hS, l1, l6, hg, hP, q⟩ := h
    have nd := sc_are_names.nd
    obtain ⟨tk, hMN⟩ := T.g_MOST_NAMES
    refine ⟨_, pss_cons (ps_if (PW.pt (pw_or (pt_not (pt_val (pe_isT "tuple" (by rfl) T.b_isinstance (by rfl) T.b_tuple (by decide +kernel) (pv 0)))) (pw_or1 (pt_not (pt_chain op_le op_le pe_int (pe_lenS (by rfl) T.b_len (pv 0)) (pe_glob (v := .int 6) (by rfl) hMN ⟨_, rfl⟩)))))) pss_never pss_nil)
      (pss_one (ps_ret (pe_and (pe_callB (cr_all rfl) (by rfl) T.b_all (by decide +kernel) (pa_cons (pe_lc (own := [("item", 1)]) (g := gName 1) (tt := tYes) (by rfl) nd (pi_tup (pv 0))
        (blkOk_by (own := [("item", 1)]) (N := ["value", "item"]) (sc := defScope s_are_names) (by decide +kernel)) (fun _ _ _ _ _ => pg_name (i := 1) nd rfl (Or.inl rfl)) (fun _ _ _ _ _ => pts_nil) (fun _ _ _ _ _ => pe_k (c_is_name T) hr (by decide) (by rfl) (pa_cons (pv 1) pa_nil))) pa_nil))
        (pe_one (pe_k (c_is_ascending T) hr (by decide) (by rfl) (pa_cons (pv 0) pa_nil)))))), ?_⟩
    refine ⟨_, rfl, _, _, _, _, _, rfl, .ty _, tyx_tup hS, kit_ty (r := true) (by decide +kernel), _, rfl, iteF ?_⟩
    refine ⟨_, rfl, a, _, rfl, .inr hS, _, _, rfl, rfl, _, rfl, ?_⟩
    rw [List.length_map, decide_eq_true (show (1 : Int) ≤ (l.length : Int) by omega)]
    refine iteT ⟨_, _, rfl, rfl, _, rfl, ?_⟩
    rw [decide_eq_true (show (l.length : Int) ≤ 6 by omega)]
    refine iteF ?_
    refine ⟨_, rfl, a, rfl, ⟨_, hS⟩, fun D hD => ?_⟩
    refine lc_it (walk_tup (xs := l.map V.str)) (fun i H' => H' D = some (.lst (List.replicate i (V.bl true))) ∧ Same H H') ⟨upd_same, same_upd hD⟩ (fun _ _ _ ⟨_, s'⟩ => (Tk.of s').sqT hS) (fun i x H2 H3 hi ⟨eD, s'⟩ hy => ?_) (fun H2 ⟨eD, s'⟩ => ?_)
    · obtain ⟨rfl, hx⟩ := hy
      obtain ⟨n, hn, rfl⟩ := str_at hx
      refine ⟨rfl, yes_ ?_⟩
      refine ⟨_, rfl, n, rfl, hg n (List.mem_of_getElem? hn), fun H4 s4 => ⟨_, s4 _ _ eD, ?_, ?_, same_put (s'.trans s4) hD⟩⟩
      · rw [List.length_map] at hi
        rw [List.length_replicate]
        exact small1000 (by omega)
      · rw [upd_same, List.replicate_succ']
    · refine ⟨D, List.replicate _ true, rfl, SqL.of (by rw [map_rep]; exact eD), _, rfl, ?_⟩
      rw [all_true]
      refine iteT ?_
      refine ⟨_, rfl, .inl ⟨a, l, rfl, (Tk.of s').sqT hS, by omega, hP, fun H4 s4 => q _ (s'.trans s4)⟩⟩
def spIsPairOf (K : PySem.W.Frag) : Sp := fun vs H Q _ => ∃ (n v : Addr) (l : List Str) (a b : Str), vs = [.ref n, .ref v] ∧ SqT K H n (l.map V.str) ∧ SqT K H v [.str a, .str b] ∧ a ∈ l ∧ b ∈ l ∧ sLt a b = true ∧ Q (.bl true) H
theorem c_is_pair_of (T : Tx K mg) : Cl P w K mg base CX0 2 "is_pair_of" (spIsPairOf K) := by
  refine cl0 T.d_is_pair_of (ps := ["names", "value"]) (fun _ _ _ _ _ _ us hl => match us, hl with | [_, _], _ => rfl) sc_is_pair_of (fun vs H Q E h => ?_) (fun f cdv A outer st H vs Q E hr h => ?_)
  · obtain ⟨n, v, l, a, b, rfl, _⟩ := h
    rfl
  · obtain ⟨n, v, l, a, b, rfl, hN, hV, ha, hb, lt, q⟩ := h
    have nd := sc_is_pair_of.nd
    refine ⟨_, pss_cons (ps_if (pt_not (pt_val (pe_k (c_is_pair T) hr (by decide) (by rfl) (pa_cons (pv 1) pa_nil)))) pss_never pss_nil)
      (pss_cons (ps_asg (pv 1) (pg_tup rfl (pgs_cons (pg_name (i := 2) nd rfl (.inl rfl)) (pgs_cons (pg_name (i := 3) nd rfl (.inl rfl)) pgs_nil))))
      (pss_one (ps_ret (pe_and (pe_cmpR op_in_seq (pv 2) (pv 0) (by rfl)) (pe_and (pe_cmpR op_in_seq (pv 3) (pv 0) (by rfl)) (pe_one (pe_cmpR op_lt_str (pv 2) (pv 3) (nomark _)))))))), ?_⟩
    refine ⟨_, rfl, v, _, rfl, hV, _, rfl, iteF ?_⟩
    refine ⟨_, rfl, v, _, rfl, hV, rfl, _, _, rfl, _, _, rfl, rfl, ?_⟩
    refine ⟨_, rfl, _, rfl, n, _, rfl, .inr hN, rfl, flat_strs l, _, rfl, ?_⟩
    rw [if_neg Bool.false_ne_true, inV_strs, show l.contains a = true by simpa using ha]
    refine iteT ⟨_, rfl, _, rfl, n, _, rfl, .inr hN, rfl, flat_strs l, _, rfl, ?_⟩
    rw [if_neg Bool.false_ne_true, inV_strs, show l.contains b = true by simpa using hb]
    refine iteT ⟨_, rfl, _, rfl, _, _, rfl, rfl, ?_⟩
    have e : decide (a.cps.toList < b.cps.toList) = true := lt
    rw [e]
    exact q
def spArePairs (K : PySem.W.Frag) : Sp := fun vs H Q _ => ∃ (n v : Addr) (ps : List V) (F : Fld), vs = [.ref n, .ref v] ∧ SqT K H n (F.names.map V.str) ∧ SqT K H v ps ∧ DpAll K H ps (F.pairs.map dPair) ∧ F.Ok ∧ ∀ H', Same H H' → Q (.bl true) H'
theorem c_are_pairs (T : Tx K mg) : Cl P w K mg base CX0 3 "are_pairs" (spArePairs K) := by
  refine cl0 T.d_are_pairs (ps := ["names", "value"]) (fun _ _ _ _ _ _ us hl => match us, hl with | [_, _], _ => rfl) sc_are_pairs (fun vs H Q E h => ?_) (fun f cdv A outer st H vs Q E hr h => ?_)
  · obtain ⟨n, v, ps, F, rfl, _⟩ := h
    rfl
  · obtain ⟨n, v, ps, F, rfl, hN, hV, hD, ok, q⟩ := h
    have nd := sc_are_pairs.nd
    have hl := hD.len
    rw [List.length_map] at hl
    have hl2 := ok.len
    refine ⟨_, pss_cons (ps_if (pt_not (pt_val (pe_isT "tuple" (by rfl) T.b_isinstance (by rfl) T.b_tuple (by decide +kernel) (pv 1)))) pss_never pss_nil)
      (pss_one (ps_ret (pe_and (pe_callB (cr_all rfl) (by rfl) T.b_all (by decide +kernel) (pa_cons (pe_lc (own := [("item", 2)]) (g := gName 2) (tt := tYes) (by rfl) nd (pi_tup (pv 1))
        (blkOk_by (own := [("item", 2)]) (N := ["names", "value", "item"]) (sc := defScope s_are_pairs) (by decide +kernel)) (fun _ _ _ _ _ => pg_name (i := 2) nd rfl (Or.inl rfl)) (fun _ _ _ _ _ => pts_nil) (fun _ _ _ _ _ => pe_k (c_is_pair_of T) hr (by decide) (by rfl) (pa_cons (pv 0) (pa_cons (pv 2) pa_nil)))) pa_nil))
        (pe_one (pe_k (c_is_ascending T) hr (by decide) (by rfl) (pa_cons (pv 1) pa_nil)))))), ?_⟩
    refine ⟨_, rfl, _, _, _, _, _, rfl, .ty _, tyx_tup hV, kit_ty (r := true) (by decide +kernel), _, rfl, iteF ?_⟩
    refine ⟨_, rfl, v, rfl, ⟨_, hV⟩, fun D hD' => ?_⟩
    refine lc_it (walk_tup (xs := ps)) (fun i H' => H' D = some (.lst (List.replicate i (V.bl true))) ∧ Same H H') ⟨upd_same, same_upd hD'⟩ (fun _ _ _ ⟨_, s'⟩ => (Tk.of s').sqT hV) (fun i x H2 H3 hi ⟨eD, s'⟩ hy => ?_) (fun H2 ⟨eD, s'⟩ => ?_)
    · obtain ⟨rfl, hx⟩ := hy
      obtain ⟨d, g1, p1⟩ := hD.get hx
      rw [List.getElem?_map] at g1
      obtain ⟨y, k1, rfl⟩ := Option.map_eq_some_iff.mp g1
      obtain ⟨b, rfl, cb⟩ := p1.pair
      have my := List.mem_of_getElem? k1
      refine ⟨rfl, yes_ ?_⟩
      refine ⟨_, rfl, _, rfl, n, b, F.names, y.1, y.2, rfl, (Tk.of s').sqT hN, (Tk.of s').sqT cb, (ok.inN y my).1, (ok.inN y my).2, ok.asc y my, _, eD, ?_, ?_, same_put s' hD'⟩
      · rw [List.length_replicate]
        exact small1000 (by omega)
      · rw [upd_same, List.replicate_succ']
    · refine ⟨D, List.replicate _ true, rfl, SqL.of (by rw [map_rep]; exact eD), _, rfl, ?_⟩
      rw [all_true]
      refine iteT ?_
      refine ⟨_, rfl, .inr ⟨v, ps, F.pairs, rfl, (Tk.of s').sqT hV, DpAll.tk (Tk.of s') _ (flatAll_of fun d hd => ?_) hD, by omega, ok.asP, fun H4 s4 => q _ (s'.trans s4)⟩⟩
      obtain ⟨y, _, rfl⟩ := List.mem_map.mp hd
      rfl
def spNeedField (K : PySem.W.Frag) : Sp := fun vs H Q _ => ∃ (a : Addr) (F : Fld), vs = [.ref a] ∧ Dp K H (.ref a) (dField F) ∧ F.Ok ∧ ∀ H', Same H H' → Q (.ref a) H'
theorem c_need_field (T : Tx K mg) : Cl P w K mg base CX0 4 "need_field" (spNeedField K) := by
  refine cl0 T.d_need_field (ps := ["field"]) (fun _ _ _ _ _ _ us hl => match us, hl with | [_], _ => rfl) sc_need_field (fun vs H Q E h => ?_) (fun f cdv A outer st H vs Q E hr h => ?_)
  · obtain ⟨a, F, rfl, _⟩ := h
    rfl
  · obtain ⟨a, F, rfl, hF, ok, q⟩ := h
    have nd := sc_need_field.nd
    obtain ⟨_, n, p, ps, e, hA, hN, hP, hD⟩ := hF.field
    cases e
    refine ⟨_, pss_cons (ps_if (pt_not (pt_val (pe_k (c_is_pair T) hr (by decide) (by rfl) (pa_cons (pv 0) pa_nil)))) pss_never pss_nil)
      (pss_cons (ps_asg (pv 0) (pg_tup rfl (pgs_cons (pg_name (i := 1) nd rfl (.inl rfl)) (pgs_cons (pg_name (i := 2) nd rfl (.inl rfl)) pgs_nil))))
      (pss_cons (ps_if (pt_not (pt_val (pe_k (c_are_names T) hr (by decide) (by rfl) (pa_cons (pv 1) pa_nil)))) pss_never pss_nil)
      (pss_cons (ps_if (pt_not (pt_val (pe_k (c_are_pairs T) hr (by decide) (by rfl) (pa_cons (pv 1) (pa_cons (pv 2) pa_nil))))) pss_never pss_nil)
      (pss_one (ps_ret (pv 0)))))), ?_⟩
    refine ⟨_, rfl, a, _, rfl, hA, _, rfl, iteF ?_⟩
    refine ⟨_, rfl, a, _, rfl, hA, rfl, _, _, rfl, _, _, rfl, rfl, ?_⟩
    refine ⟨_, rfl, n, F.names, rfl, hN, ok.n0, ok.n6, ok.sgn, ok.asN, fun H1 s1 => ⟨_, rfl, iteF ?_⟩⟩
    refine ⟨_, rfl, _, rfl, n, p, ps, F, rfl, (Tk.of s1).sqT hN, (Tk.of s1).sqT hP, DpAll.tk (Tk.of s1) _ (flatAll_of fun d hd => ?_) hD, ok, fun H2 s2 => ⟨_, rfl, iteF ?_⟩⟩
    · obtain ⟨y, _, rfl⟩ := List.mem_map.mp hd
      rfl
    · exact ⟨_, rfl, q _ (s1.trans s2)⟩
end
end XB
set_option linter.all false
namespace XM
section
variable {α : Type} [DecidableEq α] {O : Ord α}
/-- the place of the last that touches (from the last piece on), or -1 -/
def lastIx (p : α → Bool) : Row α → Int
  | [] => -1
  | y :: r => if p y.1 then (r.length : Int) else lastIx p r
/-- a row cut where the last one touches -/
theorem last_cut {p : α → Bool} : ∀ r : Row α, (lastIx p r = -1 ∧ ∀ y ∈ r, p y.1 = false) ∨ ∃ v z r0, r = v ++ z :: r0 ∧ lastIx p r = (r0.length : Int) ∧ p z.1 = true ∧ ∀ y ∈ v, p y.1 = false
  | [] => .inl ⟨rfl, fun _ h => nomatch h⟩
  | y :: r => by
    cases h : p y.1
    · have e : lastIx p (y :: r) = lastIx p r := by
        unfold lastIx
        rw [if_neg (by rw [h]; decide)]
        cases r <;> rfl
      rcases last_cut (p := p) r with ⟨h1, h2⟩ | ⟨v, z, r0, rfl, h2, h3, h4⟩
      · exact .inl ⟨by rw [e, h1], fun w hw => (List.mem_cons.mp hw).elim (fun q => q ▸ h) (h2 w)⟩
      · exact .inr ⟨y :: v, z, r0, rfl, by rw [e, h2], h3, fun w hw => (List.mem_cons.mp hw).elim (fun q => q ▸ h) (h4 w)⟩
    · refine .inr ⟨[], y, r, rfl, ?_, h, fun _ h => nomatch h⟩
      unfold lastIx
      rw [if_pos h]
/-- how many stand at the begin that are less -/
def lead (O : Ord α) (a : α) : Row α → Nat
  | [] => 0
  | y :: r => if O.lt y.1 a then lead O a r + 1 else 0
theorem lead_le {a : α} : ∀ w : Row α, lead O a w ≤ w.length
  | [] => Nat.le_refl _
  | y :: r => by
    have := lead_le (a := a) r
    unfold lead
    split <;> simp <;> omega
theorem lead_snoc {a : α} {y : α × Int} : ∀ {w : Row α}, lead O a (w ++ [y]) = if lead O a w = w.length then (if O.lt y.1 a then w.length + 1 else w.length) else lead O a w
  | [] => by
    show (if O.lt y.1 a then 0 + 1 else 0) = _
    rw [if_pos (show lead O a [] = ([] : Row α).length from rfl)]
    rfl
  | z :: w => by
    have ih := lead_snoc (a := a) (y := y) (w := w)
    have hle := lead_le (O := O) (a := a) w
    show (if O.lt z.1 a then lead O a (w ++ [y]) + 1 else 0) = if (if O.lt z.1 a then lead O a w + 1 else 0) = (z :: w).length then _ else (if O.lt z.1 a then lead O a w + 1 else 0)
    cases h : O.lt z.1 a
    · have n : ¬ (0 = (z :: w).length) := by simp
      have q : ∀ {c d : Nat}, (if false = true then c else d) = d := fun {_ _} => rfl
      rw [q, q, if_neg n]
    · have q : ∀ {c d : Nat}, (if true = true then c else d) = c := fun {_ _} => rfl
      rw [q, q, ih, List.length_cons]
      by_cases e : lead O a w = w.length
      · rw [if_pos e, if_pos (congrArg (· + 1) e)]
        cases O.lt y.1 a <;> rfl
      · rw [if_neg e, if_neg (fun q => e (Nat.succ.inj q))]
theorem lead_all {a : α} : ∀ {w : Row α}, lead O a w = w.length ↔ ∀ y ∈ w, O.lt y.1 a = true
  | [] => by
    constructor
    · intro _ y h
      cases h
    · intro _
      rfl
  | y :: w => by
    have ih := lead_all (a := a) (w := w)
    show (if O.lt y.1 a then lead O a w + 1 else 0) = w.length + 1 ↔ _
    cases h : O.lt y.1 a
    · rw [if_neg (by decide)]
      constructor
      · intro q
        omega
      · intro q
        rw [q y List.mem_cons_self] at h
        cases h
    · rw [if_pos rfl]
      constructor
      · intro q z hz
        rcases List.mem_cons.mp hz with rfl | hz
        · exact h
        · exact ih.mp (by omega) z hz
      · intro q
        have := ih.mpr fun z hz => q z (List.mem_cons_of_mem _ hz)
        omega
/-- put among those that it may pass, ahead of the first greater one -/
def among (O : Ord α) (x : α × Int) (w : Row α) : Row α := w.take (lead O x.1 w) ++ x :: w.drop (lead O x.1 w)
theorem ins_among {x : α × Int} {r0 : Row α} (h0 : top O x.1 r0 = true) : ∀ {v : Row α}, (∀ y ∈ v, O.tc y.1 x.1 = false) → ins O x (v ++ r0) = (among O x v.reverse).reverse ++ r0 ∧ (top O x.1 (v ++ r0) = true ↔ ∀ y ∈ v, O.lt y.1 x.1 = true)
  | [], _ => ⟨by rw [List.nil_append, ins_top h0]; rfl, Iff.intro (fun _ _ h => (by cases h)) (fun _ => h0)⟩
  | y :: v, h => by
    have hy := h y List.mem_cons_self
    obtain ⟨i1, i2⟩ := ins_among h0 (v := v) fun z hz => h z (List.mem_cons_of_mem _ hz)
    have ht : top O x.1 (y :: v ++ r0) = (O.lt y.1 x.1 && top O x.1 (v ++ r0)) := top_apart hy
    have e2 : top O x.1 (y :: v ++ r0) = true ↔ ∀ z ∈ y :: v, O.lt z.1 x.1 = true := by
      rw [ht, Bool.and_eq_true, i2]
      constructor
      · rintro ⟨q1, q2⟩ z hz
        rcases List.mem_cons.mp hz with rfl | hz
        · exact q1
        · exact q2 z hz
      · exact fun q => ⟨q y List.mem_cons_self, fun z hz => q z (List.mem_cons_of_mem _ hz)⟩
    refine ⟨?_, e2⟩
    show ins O x (y :: (v ++ r0)) = _
    rw [ins_apart hy, i1, List.reverse_cons]
    have hl : lead O x.1 v.reverse = v.reverse.length ↔ top O x.1 (v ++ r0) = true := by
      rw [lead_all, i2]
      simp
    have hle := lead_le (O := O) (a := x.1) v.reverse
    unfold among
    rw [lead_snoc]
    cases hA : O.lt y.1 x.1 && top O x.1 (v ++ r0)
    · rw [if_neg (by decide)]
      have hk : (if lead O x.1 v.reverse = v.reverse.length then (if O.lt y.1 x.1 then v.reverse.length + 1 else v.reverse.length) else lead O x.1 v.reverse) = lead O x.1 v.reverse := by
        by_cases e : lead O x.1 v.reverse = v.reverse.length
        · rw [hl.mp e, Bool.and_true] at hA
          rw [if_pos e, hA, if_neg (by decide), e]
        · rw [if_neg e]
      rw [hk, List.take_append_of_le_length hle, List.drop_append_of_le_length hle]
      simp
    · obtain ⟨a1, a2⟩ := Bool.and_eq_true_iff.mp hA
      rw [if_pos rfl, if_pos (hl.mpr a2), if_pos a1]
      have e : v.reverse.length + 1 = (v.reverse ++ [y]).length := by simp
      rw [e, List.take_length, List.drop_length]
      simp
theorem ins_merge {a : α} {s t : Int} {r0 : Row α} : ∀ {v : Row α}, (∀ y ∈ v, O.tc y.1 a = false) → ins O (a, t) (v ++ (a, s) :: r0) = v ++ (if s + t = 0 then r0 else (a, s + t) :: r0) ∧ top O a (v ++ (a, s) :: r0) = false
  | [], _ => ⟨ins_same, top_same⟩
  | y :: v, h => by
    have hy := h y List.mem_cons_self
    obtain ⟨i1, i2⟩ := ins_merge (s := s) (t := t) (r0 := r0) (v := v) fun z hz => h z (List.mem_cons_of_mem _ hz)
    have ht : top O a (y :: v ++ (a, s) :: r0) = (O.lt y.1 a && top O a (v ++ (a, s) :: r0)) := top_apart hy
    refine ⟨?_, by rw [ht, i2, Bool.and_false]⟩
    show ins O (a, t) (y :: (v ++ (a, s) :: r0)) = _
    rw [ins_apart (x := (a, t)) hy, i2, Bool.and_false, if_neg (by decide), i1]
    rfl
/-- what the program does with a step, told by places of the row in its own order -/
theorem ins_code {l : Row α} {x : α × Int} {k : Int} (hk : lastIx (fun b => O.tc b x.1) l.reverse = k) :
    (k = -1 ∧ ins O x l.reverse = (among O x l).reverse) ∨
    ∃ (i : Nat) (z : α × Int), k = (i : Int) ∧ l[i]? = some z ∧
      ((z.1 ≠ x.1 ∧ ins O x l.reverse = (l.take (i + 1) ++ among O x (l.drop (i + 1))).reverse) ∨
       (z.1 = x.1 ∧ z.2 + x.2 ≠ 0 ∧ ins O x l.reverse = (l.set i (x.1, z.2 + x.2)).reverse) ∨
       (z.1 = x.1 ∧ z.2 + x.2 = 0 ∧ ins O x l.reverse = (l.eraseIdx i).reverse)) := by
  rcases last_cut (p := fun b => O.tc b x.1) l.reverse with ⟨h1, h2⟩ | ⟨v, z, r0, e, h2, h3, h4⟩
  · refine .inl ⟨by rw [← hk, h1], ?_⟩
    have := (ins_among (O := O) (x := x) (r0 := []) rfl (v := l.reverse) h2).1
    rw [List.append_nil, List.append_nil, List.reverse_reverse] at this
    exact this
  · right
    have el : l = r0.reverse ++ z :: v.reverse := by
      have := congrArg List.reverse e
      simpa using this
    have hi : l[r0.length]? = some z := by
      rw [el, List.getElem?_append_right (by simp)]
      simp
    refine ⟨r0.length, z, by rw [← hk, h2], hi, ?_⟩
    by_cases hz : z.1 = x.1
    · obtain ⟨z1, z2⟩ := z
      obtain ⟨x1, x2⟩ := x
      have hz : z1 = x1 := hz
      subst hz
      have m := (ins_merge (O := O) (a := z1) (s := z2) (t := x2) (r0 := r0) h4).1
      right
      by_cases h0 : z2 + x2 = 0
      · right
        refine ⟨rfl, h0, ?_⟩
        rw [e, m, if_pos h0, el]
        rw [List.eraseIdx_append_of_length_le (by simp)]
        simp
      · left
        refine ⟨rfl, h0, ?_⟩
        rw [e, m, if_neg h0, el]
        rw [List.set_append_right _ _ (by simp)]
        simp
    · left
      refine ⟨hz, ?_⟩
      have hc : O.tc z.1 x.1 = true := h3
      have m := (ins_among (O := O) (x := x) (r0 := z :: r0) (top_touch hc hz) h4).1
      rw [e, m]
      have t1 : l.take (r0.length + 1) = r0.reverse ++ [z] := by
        rw [el, List.take_append, List.length_reverse, Nat.add_sub_cancel_left, List.take_of_length_le (by simp)]
        rfl
      have t2 : l.drop (r0.length + 1) = v.reverse := by
        rw [el, List.drop_append, List.length_reverse, Nat.add_sub_cancel_left, List.drop_of_length_le (by simp)]
        rfl
      rw [t1, t2]
      simp
end
end XM
set_option Elab.async false
set_option linter.all false
set_option maxRecDepth 100000
set_option maxHeartbeats 4000000
namespace XB
open PySem PySem.Spec PyProof.Rows L2
theorem u65 {k : Nat} {A : Around} (r : Room k A) : A.units + 65 < cLine := by
  have := r.un
  omega
section
variable {X : Cx}
theorem op_inDTk {K : PySem.W.Frag} (hk : X.K = K) (hu : X.A.units + 65 < cLine) : OpR X (compareOp .In) (fun x y H Q => ∃ d ds, Dp K H x d ∧ Dp K H y (.tuple ds) ∧ SeqAt.shaped d = true ∧ SeqAt.shaped (.tuple ds) = true ∧ Q (.bl (ds.any fun z => PyData.eqv z d)) H) := by
  subst hk
  intro pins s σ H x y v u Q I rx ry h
  obtain ⟨d, ds, hd, he, sd, se, q⟩ := h
  obtain ⟨as, r1⟩ := Dp.reads I d x v hd rx
  obtain ⟨bs, r2⟩ := Dp.reads I (.tuple ds) y u he ry
  exact SeqAt.in_tuple_reads r2 r1 (SeqAt.canLay_of_shaped se) (SeqAt.canLay_of_shaped sd) (room_in_shaped sd hu) ⟨.bl _, H, I, rfl, q⟩
end
section
variable {P : Program} {w : World} {K : PySem.W.Frag} {mg : Str → Option Value} {base : Heap}
def spIsWhole : Sp := fun vs H Q _ => ∃ z : Int, vs = [.int z] ∧ Q (.bl true) H
theorem c_is_whole (T : Tx K mg) : Cl P w K mg base CX0 1 "is_whole" spIsWhole := by
  refine cl0 T.d_is_whole (ps := ["value"]) (fun _ _ _ _ _ _ us hl => match us, hl with | [_], _ => rfl) sc_is_whole (fun vs H Q E h => ?_) (fun f cdv A outer st H vs Q E hr h => ?_)
  · obtain ⟨z, rfl, _⟩ := h
    rfl
  · obtain ⟨z, rfl, q⟩ := h
    refine ⟨_, pss_one (ps_ret (pe_and (pe_isT "int" (by rfl) T.b_isinstance (by rfl) T.b_int (by decide +kernel) (pv 0)) (pe_one (pe_not (pe_isT "bool" (by rfl) T.b_isinstance (by rfl) T.b_bool (by decide +kernel) (pv 0)))))), ?_⟩
    refine ⟨_, rfl, _, _, _, _, _, rfl, .ty _, .base (.int z), kit_ty (r := true) (by decide +kernel), _, rfl, iteT ?_⟩
    refine ⟨_, rfl, _, _, _, _, _, rfl, .ty _, .base (.int z), kit_ty (r := false) (by decide +kernel), _, rfl, q⟩
def GoodTimes (t : Int) : Prop := t ≠ 0 ∧ -(10 ^ 30) ≤ t ∧ t ≤ 10 ^ 30
def spIsGreat (K : PySem.W.Frag) : Sp := fun vs H Q _ => ∃ (n v : Addr) (l : List Str) (s : Str × Int), vs = [.ref n, .ref v] ∧ SqT K H n (l.map V.str) ∧ SqT K H v [.str s.1, .int s.2] ∧ s.1 ∈ l ∧ s.2 ≠ 0 ∧ Q (.bl true) H
theorem c_is_great_step (T : Tx K mg) : Cl P w K mg base CX0 2 "is_great_step" (spIsGreat K) := by
  refine cl0 T.d_is_great_step (ps := ["names", "value"]) (fun _ _ _ _ _ _ us hl => match us, hl with | [_, _], _ => rfl) sc_is_great_step (fun vs H Q E h => ?_) (fun f cdv A outer st H vs Q E hr h => ?_)
  · obtain ⟨n, v, l, s, rfl, _⟩ := h
    rfl
  · obtain ⟨n, v, l, s, rfl, hN, hV, ha, t0, q⟩ := h
    have nd := sc_is_great_step.nd
    refine ⟨_, pss_cons (ps_if (pt_not (pt_val (pe_k (c_is_pair T) hr (by decide) (by rfl) (pa_cons (pv 1) pa_nil)))) pss_never pss_nil)
      (pss_cons (ps_asg (pv 1) (pg_tup rfl (pgs_cons (pg_name (i := 2) nd rfl (.inl rfl)) (pgs_cons (pg_name (i := 3) nd rfl (.inl rfl)) pgs_nil))))
      (pss_one (ps_ret (pe_and (pe_cmpR op_in_seq (pv 2) (pv 0) (by rfl)) (pe_and (pe_k (c_is_whole T) hr (by decide) (by rfl) (pa_cons (pv 3) pa_nil)) (pe_one (pe_cmpR op_ne (pv 3) pe_int (nomark _)))))))), ?_⟩
    refine ⟨_, rfl, v, _, rfl, hV, _, rfl, iteF ?_⟩
    refine ⟨_, rfl, v, _, rfl, hV, rfl, _, _, rfl, _, _, rfl, rfl, ?_⟩
    refine ⟨_, rfl, _, rfl, n, _, rfl, .inr hN, rfl, flat_strs l, _, rfl, ?_⟩
    rw [if_neg Bool.false_ne_true, inV_strs, show l.contains s.1 = true by simpa using ha]
    refine iteT ⟨_, rfl, _, rfl, _, rfl, iteT ?_⟩
    refine ⟨_, rfl, rfl, ?_⟩
    have e : (!decide (V.int s.2 = V.int 0)) = true := by
      rw [dec_int]
      simp [t0]
    rw [e]
    exact q
def spIsTimes : Sp := fun vs H Q _ => ∃ z : Int, vs = [.int z] ∧ GoodTimes z ∧ Q (.bl true) H
theorem c_is_times (T : Tx K mg) : Cl P w K mg base CX0 2 "is_times" spIsTimes := by
  refine cl0 T.d_is_times (ps := ["value"]) (fun _ _ _ _ _ _ us hl => match us, hl with | [_], _ => rfl) sc_is_times (fun vs H Q E h => ?_) (fun f cdv A outer st H vs Q E hr h => ?_)
  · obtain ⟨z, rfl, _⟩ := h
    rfl
  · obtain ⟨z, rfl, ⟨t0, t1, t2⟩, q⟩ := h
    obtain ⟨tk, hMT⟩ := T.g_MOST_TIMES
    refine ⟨_, pss_one (ps_ret (pe_and (pe_k (c_is_whole T) hr (by decide) (by rfl) (pa_cons (pv 0) pa_nil)) (pe_and (pe_cmpR op_ne (pv 0) pe_int (nomark _))
        (pe_one (pe_cmpR op_le (pe_callB call_abs (by rfl) T.b_abs (by decide +kernel) (pa_cons (pv 0) pa_nil)) (pe_glob (v := .int (10 ^ 30)) (by rfl) hMT ⟨_, rfl⟩) (nomark _)))))), ?_⟩
    refine ⟨_, rfl, _, rfl, _, rfl, iteT ?_⟩
    refine ⟨_, rfl, rfl, _, rfl, ?_⟩
    have e : (!decide (V.int z = V.int 0)) = true := by
      rw [dec_int]
      simp [t0]
    rw [e]
    refine iteT ⟨_, rfl, _, rfl, _, _, rfl, rfl, ?_⟩
    have e2 : decide ((if z < 0 then -z else z) ≤ 10 ^ 30) = true := by
      refine decide_eq_true ?_
      split <;> omega
    show Q (.bl (decide ((if z < 0 then -z else z) ≤ 10 ^ 30))) H
    rw [e2]
    exact q
def spIsStep (K : PySem.W.Frag) : Sp := fun vs H Q _ => ∃ (n v : Addr) (l : List Str) (s : Str × Int), vs = [.ref n, .ref v] ∧ SqT K H n (l.map V.str) ∧ SqT K H v [.str s.1, .int s.2] ∧ s.1 ∈ l ∧ GoodTimes s.2 ∧ Q (.bl true) H
theorem c_is_step (T : Tx K mg) : Cl P w K mg base CX0 3 "is_step" (spIsStep K) := by
  refine cl0 T.d_is_step (ps := ["names", "value"]) (fun _ _ _ _ _ _ us hl => match us, hl with | [_, _], _ => rfl) sc_is_step (fun vs H Q E h => ?_) (fun f cdv A outer st H vs Q E hr h => ?_)
  · obtain ⟨n, v, l, s, rfl, _⟩ := h
    rfl
  · obtain ⟨n, v, l, s, rfl, hN, hV, ha, gt, q⟩ := h
    refine ⟨_, pss_one (ps_ret (pe_and (pe_k (c_is_great_step T) hr (by decide) (by rfl) (pa_cons (pv 0) (pa_cons (pv 1) pa_nil)))
        (pe_one (pe_k (c_is_times T) hr (by decide) (by rfl) (pa_cons (pe_ix (ixk_tup (K := K) rfl) (pv 1) pe_int (fun _ _ => rfl)) pa_nil))))), ?_⟩
    refine ⟨_, rfl, _, rfl, n, v, l, s, rfl, hN, hV, ha, gt.1, _, rfl, iteT ?_⟩
    exact ⟨_, rfl, v, _, _, _, rfl, rfl, hV, rfl, _, rfl, gt, q⟩
def GoodScript (F : Fld) (l : List (Str × Int)) : Prop := l.length ≤ 60 ∧ ∀ s ∈ l, s.1 ∈ F.names ∧ GoodTimes s.2
def spNeedScript (K : PySem.W.Frag) : Sp := fun vs H Q _ => ∃ (a d : Addr) (F : Fld) (l : List (Str × Int)), vs = [.ref a, .ref d] ∧ Dp K H (.ref a) (dField F) ∧ F.Ok ∧ Dp K H (.ref d) (dSteps l) ∧ GoodScript F l ∧ ∀ H', Same H H' → Q (.ref d) H'
theorem c_need_script (T : Tx K mg) : Cl P w K mg base CX0 5 "need_script" (spNeedScript K) := by
  refine cl0 T.d_need_script (ps := ["field", "deeds"]) (fun _ _ _ _ _ _ us hl => match us, hl with | [_, _], _ => rfl) sc_need_script (fun vs H Q E h => ?_) (fun f cdv A outer st H vs Q E hr h => ?_)
  · obtain ⟨a, d, F, l, rfl, _⟩ := h
    rfl
  · obtain ⟨a, d, F, l, rfl, hF, ok, hL, ⟨l60, hg⟩, q⟩ := h
    have nd := sc_need_script.nd
    obtain ⟨tk, hMS⟩ := T.g_MOST_STEPS
    refine ⟨_, pss_cons (ps_asg (pe_k (c_need_field T) hr (by decide) (by rfl) (pa_cons (pv 0) pa_nil)) (pg_tup rfl (pgs_cons (pg_name (i := 2) nd rfl (.inl rfl)) (pgs_cons (pg_name (i := 3) nd rfl (.inl rfl)) pgs_nil))))
      (pss_cons (ps_if (PW.pt (pw_or (pt_not (pt_val (pe_isT "tuple" (by rfl) T.b_isinstance (by rfl) T.b_tuple (by decide +kernel) (pv 1)))) (pw_or1 (pt_cmpR op_gt (pe_lenS (by rfl) T.b_len (pv 1)) (pe_glob (v := .int 60) (by rfl) hMS ⟨_, rfl⟩) (nomark _))))) pss_never pss_nil)
      (pss_cons (ps_for PassesOwn.never rfl (pi_enumT (by rfl) T.b_enumerate (pa_cons (pv 1) pa_nil)) (pg_tup rfl (pgs_cons (pg_name (i := 4) nd rfl (.inl rfl)) (pgs_cons (pg_name (i := 5) nd rfl (.inl rfl)) pgs_nil)))
        (pss_one (ps_if (pt_not (pt_val (pe_k (c_is_step T) hr (by decide) (by rfl) (pa_cons (pv 2) (pa_cons (pv 5) pa_nil))))) pss_never pss_nil)))
      (pss_one (ps_ret (pv 1))))), ?_⟩
    refine ⟨_, rfl, a, F, rfl, hF, ok, fun H1 s1 => ?_⟩
    obtain ⟨_, n, p, ps, e, hA, hN, hP, hD⟩ := (Dp.tk (Tk.of s1) (dField F) (flat_field F) hF).field
    cases e
    obtain ⟨_, vs, e, hS, hV⟩ := (Dp.tk (Tk.of s1) (dSteps l) (flat_steps l) hL).steps
    cases e
    have hl := hV.len
    rw [List.length_map] at hl
    refine ⟨a, _, rfl, hA, rfl, _, _, rfl, _, _, rfl, rfl, ?_⟩
    refine ⟨_, rfl, _, _, _, _, _, rfl, .ty _, tyx_tup hS, kit_ty (r := true) (by decide +kernel), _, rfl, iteF ?_⟩
    refine ⟨_, rfl, d, _, rfl, .inr hS, _, _, rfl, rfl, _, rfl, ?_⟩
    rw [show decide ((60 : Int) < (vs.length : Int)) = false from decide_eq_false (by omega)]
    refine iteF ?_
    refine ⟨_, rfl, d, vs, rfl, hS, for_it (walk_IeT (xs := vs)) (fun i σ H2 => ∃ (y4 y5 : Option V), σ = [some (.ref a), some (.ref d), some (.ref n), some (.ref p), y4, y5] ∧ Same H1 H2)
      ⟨none, none, rfl, Same.refl _⟩ (fun i σ H2 _ ⟨y4, y5, _, s2⟩ => (Tk.of s2).sqT hS) (fun i x σ H2 H3 hi ⟨y4, y5, eσ, s2⟩ hy => ?_) (fun σ H2 ⟨y4, y5, eσ, s2⟩ => ?_)⟩
    · obtain ⟨Tt, x1, x2, rfl, nT, rfl, f1, f2⟩ := hy
      subst eσ
      obtain ⟨d', g1, p1⟩ := hV.get f2
      rw [List.getElem?_map] at g1
      obtain ⟨s, k1, rfl⟩ := Option.map_eq_some_iff.mp g1
      obtain ⟨b, rfl, cb⟩ := p1.step
      have ms := hg s (List.mem_of_getElem? k1)
      have s3 := same_new (o := .tup [x1, .ref b]) s2 nT
      refine ⟨Tt, _, rfl, SqT.of upd_same, rfl, _, _, rfl, _, _, rfl, rfl, ?_⟩
      refine ⟨_, rfl, _, rfl, n, b, F.names, s, rfl, (Tk.of s3).sqT hN, (Tk.of s3).sqT cb, ms.1, ms.2, _, rfl, iteF ?_⟩
      exact ⟨_, _, rfl, s3⟩
    · subst eσ
      exact ⟨_, rfl, q _ (s1.trans s2)⟩
/-! ### touching -/
theorem any_pairs (ps : List (Str × Str)) (a b : Str) : (ps.map dPair).any (fun z => PyData.eqv z (dPair (a, b))) = ps.contains (a, b) := by
  induction ps with
  | nil => rfl
  | cons p r ih =>
    rw [List.map_cons, List.any_cons, ih, List.contains_cons]
    congr 1
    obtain ⟨c, d⟩ := p
    show (PyData.eqv (.str c) (.str a) && (PyData.eqv (.str d) (.str b) && true)) = ((a, b) == (c, d))
    show ((c == a) && ((d == b) && true)) = ((a == c) && (b == d))
    rw [Bool.and_true]
    rw [show (c == a) = (a == c) from BEq.comm, show (d == b) = (b == d) from BEq.comm]
theorem strOk_of {n : Str} (h : GoodName n) : PyData.strOk n = true := by
  obtain ⟨h1, h6, hc⟩ := h
  unfold PyData.strOk
  rw [← Array.all_toList, List.all_eq_true]
  intro c m
  have := hc c m
  exact decide_eq_true (by omega)
theorem lay_pair {p : Str × Str} (h1 : GoodName p.1) (h2 : GoodName p.2) : (dPair p).canLay0 = true := by
  show PyData.canLay0 (.tuple [.str p.1, .str p.2]) = true
  simp [PyData.canLay0, PyData.canLayAll0, strOk_of h1, strOk_of h2]
theorem sh_pair {p : Str × Str} (h1 : GoodName p.1) (h2 : GoodName p.2) : SeqAt.shaped (dPair p) = true := by
  unfold SeqAt.shaped
  rw [lay_pair h1 h2]
  show (true && _) = true
  simp [dPair, PyData.depth, PyData.depthAll]
theorem layPairs : ∀ {ps : List (Str × Str)}, (∀ p ∈ ps, GoodName p.1 ∧ GoodName p.2) → PyData.canLayAll0 (ps.map dPair) = true
  | [], _ => rfl
  | p :: ps, h => by
    rw [List.map_cons, PyData.canLayAll0, layPairs fun x hx => h x (List.mem_cons_of_mem _ hx), lay_pair (h p List.mem_cons_self).1 (h p List.mem_cons_self).2]
    rfl
theorem deepPairs : ∀ ps : List (Str × Str), PyData.depthAll (ps.map dPair) ≤ 2
  | [] => by decide
  | p :: ps => by
    rw [List.map_cons, PyData.depthAll]
    have := deepPairs ps
    have e : (dPair p).depth ≤ 2 := by
      show PyData.depth (.tuple [.str p.1, .str p.2]) ≤ 2
      simp [PyData.depth, PyData.depthAll]
    omega
theorem sh_pairs {ps : List (Str × Str)} (h : ∀ p ∈ ps, GoodName p.1 ∧ GoodName p.2) : SeqAt.shaped (.tuple (ps.map dPair)) = true := by
  have h2 := deepPairs ps
  show (PyData.canLayAll0 (ps.map dPair) && decide (PyData.depthAll (ps.map dPair) + 1 ≤ 64)) = true
  rw [layPairs h, Bool.true_and]
  exact decide_eq_true (by omega)
theorem Fld.Ok.good {F : Fld} (ok : F.Ok) : ∀ p ∈ F.pairs, GoodName p.1 ∧ GoodName p.2 := fun p hp => ⟨ok.sgn _ (ok.inN p hp).1, ok.sgn _ (ok.inN p hp).2⟩
def spAreApart (K : PySem.W.Frag) : Sp := fun vs H Q _ => ∃ (p : Addr) (ps : List V) (F : Fld) (a b : Str), vs = [.ref p, .str a, .str b] ∧ SqT K H p ps ∧ DpAll K H ps (F.pairs.map dPair) ∧ F.Ok ∧ a ∈ F.names ∧ b ∈ F.names ∧ ∀ H', Same H H' → Q (.bl (apart F a b)) H'
theorem c_are_apart (T : Tx K mg) : Cl P w K mg base CX0 1 "are_apart" (spAreApart K) := by
  refine cl0 T.d_are_apart (ps := ["pairs", "one", "other"]) (fun _ _ _ _ _ _ us hl => match us, hl with | [_, _, _], _ => rfl) sc_are_apart (fun vs H Q E h => ?_) (fun f cdv A outer st H vs Q E hr h => ?_)
  · obtain ⟨p, ps, F, a, b, rfl, _⟩ := h
    rfl
  · obtain ⟨p, ps, F, a, b, rfl, hP, hD, ok, ma, mb, q⟩ := h
    have hu := u65 hr
    refine ⟨_, pss_one (ps_ret (pe_cmpR (op_inDTk (K := K) rfl hu) (pe_tup (pa_cons (pe_callB (call_min2S rfl) (by rfl) T.b_min (by decide +kernel) (pa_cons (pv 1) (pa_cons (pv 2) pa_nil)))
      (pa_cons (pe_callB (call_max2S rfl) (by rfl) T.b_max (by decide +kernel) (pa_cons (pv 1) (pa_cons (pv 2) pa_nil))) pa_nil))) (pv 0) (by rfl))), ?_⟩
    refine ⟨_, rfl, _, rfl, _, _, rfl, _, rfl, _, rfl, _, _, rfl, (show 2 ≤ sizeLine by decide), fun t ht => ⟨_, rfl, dPair ((if sLt b a then b else a), (if sLt a b then b else a)), F.pairs.map dPair, .tup (SqT.of upd_same) (.cons (.str _) (.cons (.str _) .nil)), .tup ((Tk.of (same_upd ht)).sqT hP) (DpAll.tk (Tk.of (same_upd ht)) _ (flatAll_of fun d hd => ?_) hD), sh_pair ?_ ?_, sh_pairs ok.good, ?_⟩⟩
    · obtain ⟨y, _, rfl⟩ := List.mem_map.mp hd
      rfl
    · show GoodName (if sLt b a then b else a)
      split <;> first | exact ok.sgn _ ma | exact ok.sgn _ mb
    · show GoodName (if sLt a b then b else a)
      split <;> first | exact ok.sgn _ ma | exact ok.sgn _ mb
    · rw [any_pairs, apart_min ok]
      exact q _ (same_upd ht)
def spNamesTouching (K : PySem.W.Frag) : Sp := fun vs H Q _ => ∃ (a : Addr) (F : Fld) (n : Str), vs = [.ref a, .str n] ∧ Dp K H (.ref a) (dField F) ∧ F.Ok ∧ n ∈ F.names ∧ ∀ H' q, Same H H' → SqT K H' q ((touchL F n).map V.str) → Q (.ref q) H'
theorem c_names_touching (T : Tx K mg) : Cl P w K mg base CX0 2 "names_touching" (spNamesTouching K) := by
  refine cl0 T.d_names_touching (ps := ["field", "name"]) (fun _ _ _ _ _ _ us hl => match us, hl with | [_, _], _ => rfl) sc_names_touching (fun vs H Q E h => ?_) (fun f cdv A outer st H vs Q E hr h => ?_)
  · obtain ⟨a, F, n, rfl, _⟩ := h
    rfl
  · obtain ⟨a, F, m, rfl, hF, ok, mn, q⟩ := h
    have nd := sc_names_touching.nd
    obtain ⟨_, n, p, ps, e, hA, hN, hP, hD⟩ := hF.field
    cases e
    refine ⟨_, pss_cons (ps_asg (pv 0) (pg_tup rfl (pgs_cons (pg_name (i := 2) nd rfl (by first | exact .inl rfl | exact .inr rfl)) (pgs_cons (pg_name (i := 3) nd rfl (by first | exact .inl rfl | exact .inr rfl)) pgs_nil))))
      (pss_one (ps_ret (pe_tupleOf (by rfl) T.b_tuple (pe_lc (own := [("other", 4)]) (g := gName 4) (tt := _) (by rfl) nd (pi_tup (pv 2))
        (blkOk_by (own := [("other", 4)]) (N := ["field", "name", "names", "pairs", "other"]) (sc := defScope s_names_touching) (by decide +kernel)) (fun _ _ _ _ _ => pg_name (i := 4) nd rfl (Or.inl rfl))
        (fun _ _ _ _ _ => pts_one (pt_not (pt_val (pe_k (c_are_apart T) hr (by decide) (by rfl) (pa_cons (pv 3) (pa_cons (pv 1) (pa_cons (pv 4) pa_nil))))))) (fun _ _ _ _ _ => pv 4))))), ?_⟩
    refine ⟨_, rfl, a, _, rfl, hA, rfl, _, _, rfl, _, _, rfl, rfl, ?_⟩
    refine ⟨_, rfl, n, rfl, ⟨_, hN⟩, fun D hD' => ?_⟩
    refine lc_it (walk_tup (xs := F.names.map V.str)) (fun i H' => H' D = some (.lst (((F.names.take i).filter fun o => !apart F m o).map V.str)) ∧ Same H H') ⟨upd_same, same_upd hD'⟩ (fun _ _ _ ⟨_, s'⟩ => (Tk.of s').sqT hN) (fun i x H2 H3 hi ⟨eD, s'⟩ hy => ?_) (fun H2 ⟨eD, s'⟩ => ?_)
    · obtain ⟨rfl, hx⟩ := hy
      obtain ⟨o, ho, rfl⟩ := str_at hx
      have mo := List.mem_of_getElem? ho
      refine ⟨rfl, ?_⟩
      refine ⟨_, rfl, _, rfl, _, rfl, p, ps, F, m, o, rfl, (Tk.of s').sqT hP, DpAll.tk (Tk.of s') _ (flatAll_of fun d hd => ?_) hD, ok, mn, mo, fun H4 s4 => ⟨_, rfl, ?_⟩⟩
      · obtain ⟨y, _, rfl⟩ := List.mem_map.mp hd
        rfl
      · have et : F.names.take (i + 1) = F.names.take i ++ [o] := by
          rw [List.take_add_one, ho]
          rfl
        rw [et, List.filter_append, List.map_append]
        cases ha : apart F m o
        · refine iteT ⟨_, rfl, _, s4 _ _ eD, ?_, ?_, same_put (s'.trans s4) hD'⟩
          · rw [List.length_map]
            refine small1000 (Nat.le_trans (List.length_filter_le _ _) ?_)
            have := ok.n6
            rw [List.length_take]
            omega
          · rw [upd_same]
            simp [ha]
        · refine iteF ⟨?_, s'.trans s4⟩
          rw [s4 _ _ eD]
          simp [ha]
    · rw [List.length_map, List.take_length] at eD
      exact .inl ⟨D, _, rfl, SqL.of eD, fun r hr' => q _ r (same_new s' hr') (SqT.of upd_same)⟩
def TouchAt (K : PySem.W.Frag) (H : Hp) (t : Addr) (F : Fld) : Prop := ∃ kvs : List (Key × V), H t = some (.dK kvs) ∧ ∀ n ∈ F.names, ∃ a, valV kvs (.inr n) = some (.ref a) ∧ SqT K H a ((touchL F n).map V.str)
theorem TouchAt.same {K : PySem.W.Frag} {H H' : Hp} {t : Addr} {F : Fld} (h : TouchAt K H t F) (s : Same H H') : TouchAt K H' t F := by
  obtain ⟨kvs, e, g⟩ := h
  refine ⟨kvs, s _ _ e, fun n hn => ?_⟩
  obtain ⟨a, e1, e2⟩ := g n hn
  exact ⟨a, e1, (Tk.of s).sqT e2⟩
def spTouchTable (K : PySem.W.Frag) : Sp := fun vs H Q _ => ∃ (a : Addr) (F : Fld), vs = [.ref a] ∧ Dp K H (.ref a) (dField F) ∧ F.Ok ∧ ∀ H' t, Same H H' → H t = none → TouchAt K H' t F → Q (.ref t) H'
theorem c_touch_table (T : Tx K mg) : Cl P w K mg base CX0 3 "touch_table" (spTouchTable K) := by
  refine cl0 T.d_touch_table (ps := ["field"]) (fun _ _ _ _ _ _ us hl => match us, hl with | [_], _ => rfl) sc_touch_table (fun vs H Q E h => ?_) (fun f cdv A outer st H vs Q E hr h => ?_)
  · obtain ⟨a, F, rfl, _⟩ := h
    rfl
  · obtain ⟨a, F, rfl, hF, ok, q⟩ := h
    have nd := sc_touch_table.nd
    obtain ⟨_, n, p, ps, e, hA, hN, hP, hD⟩ := hF.field
    cases e
    refine ⟨_, pss_cons (ps_asg (pv 0) (pg_tup rfl (pgs_cons (pg_name (i := 1) nd rfl (by first | exact .inl rfl | exact .inr rfl)) (pgs_cons (pg_name (i := 2) nd rfl (by first | exact .inl rfl | exact .inr rfl)) pgs_nil))))
      (pss_one (ps_ret (pe_dc (own := [("name", 3)]) (g := gName 3) (tt := tYes) (by rfl) nd (pi_tup (pv 1))
        (blkOk_by (own := [("name", 3)]) (N := ["field", "names", "_", "name"]) (sc := defScope s_touch_table) (by decide +kernel)) (fun _ _ _ _ _ => pg_name (i := 3) nd rfl (Or.inl rfl))
        (fun _ _ _ _ _ => pts_nil) (fun _ _ _ _ _ => pv 3) (fun _ _ _ _ _ => pe_k (c_names_touching T) hr (by decide) (by rfl) (pa_cons (pv 0) (pa_cons (pv 3) pa_nil)))))), ?_⟩
    refine ⟨_, rfl, a, _, rfl, hA, rfl, _, _, rfl, _, _, rfl, rfl, ?_⟩
    refine ⟨_, rfl, n, rfl, ⟨_, hN⟩, fun D hD' => ?_⟩
    refine dc_tup (xs := F.names.map V.str) (fun i H' => ∃ kvs : List (Key × V), H' D = some (.dK kvs) ∧ kvs.length ≤ i ∧ (∀ n ∈ F.names.take i, ∃ a, valV kvs (.inr n) = some (.ref a) ∧ SqT K H' a ((touchL F n).map V.str)) ∧ Same H H')
      ⟨[], upd_same, Nat.le_refl _, (fun n hn => nomatch hn), same_upd hD'⟩ (fun _ _ _ ⟨_, _, _, _, s'⟩ => (Tk.of s').sqT hN) (fun i x H2 hx ⟨kvs, eD, kl, kk, s'⟩ => ?_) (fun H2 ⟨kvs, eD, kl, kk, s'⟩ => ?_)
    · obtain ⟨o, ho, rfl⟩ := str_at hx
      have mo := List.mem_of_getElem? ho
      have hi := (List.getElem?_eq_some_iff.mp ho).1
      refine ⟨rfl, yes_ ?_⟩
      refine ⟨_, rfl, _, rfl, _, rfl, a, F, o, rfl, Dp.tk (Tk.of s') _ (flat_field F) hF, ok, mo, fun H4 r s4 hr' => ⟨kvs, .inr o, rfl, s4 _ _ eD, ?_, putK kvs (.inr o) (.ref r), upd_same, ?_, fun x hx' => ?_, same_put (s'.trans s4) hD'⟩⟩
      · have := ok.n6
        exact small1000 (by omega)
      · have := length_putK kvs (.inr o) (.ref r)
        omega
      · have k4 : Tk H4 (upd H4 D (.dK (putK kvs (.inr o) (.ref r)))) := Tk.refl.mut (s4 _ _ eD) (fun _ q => nomatch q) (fun _ _ q => nomatch q)
        rw [valV_put]
        by_cases e : x = o
        · subst e
          exact ⟨r, if_pos rfl, k4.sqT hr'⟩
        · rw [List.take_add_one, ho] at hx'
          have m : x ∈ F.names.take i := by
            rcases List.mem_append.mp hx' with h | h
            · exact h
            · exact absurd (List.mem_singleton.mp h) e
          obtain ⟨b, e1, e2⟩ := kk x m
          refine ⟨b, ?_, k4.sqT ((Tk.of s4).sqT e2)⟩
          rw [if_neg (fun q => e (Sum.inr.inj q))]
          exact e1
    · rw [List.length_map, List.take_length] at kk
      exact q _ D s' hD' ⟨kvs, eD, kk⟩
end
end XB
set_option Elab.async false
set_option linter.all false
set_option maxRecDepth 100000
set_option maxHeartbeats 4000000
/-! t[::-1] of a tuple -/
namespace HT
open PySem PySem.Spec PyProof.Rows
section
variable {prog : Program} {w : World} {A : Around} {E : Value → Shared → Prop} {s : Shared}
theorem adjust_rev (n : Nat) : Builtin.Slice.sliceAdjust none none (-1) (n : Int) = ((n : Int) - 1, -1) := by
  unfold Builtin.Slice.sliceAdjust
  rfl
theorem places_rev (n : Nat) : Builtin.Slice.slicePlaces ((n : Int) - 1) (-1) (-1) = n := by
  unfold Builtin.Slice.slicePlaces
  have h1 : ¬ ((-1 : Int) > 0) := by decide
  simp only [h1, if_false]
  rw [show (- -1 : Int) = 1 from rfl, Int.ediv_one]
  split <;> omega
theorem sliceApplied_rev {sl : Addr} {n : Nat} {u : Tok} {Q : Int × Int × Nat → Shared → Prop} (hs : s.heap.IsSliceOf sl .none .none (.int (-1) u))
    (h : Q ((n : Int) - 1, -1, n) s) : wpAny (model prog w) A (Builtin.Slice.sliceApplied (.ref sl) (pure (n : Int))) Q E s := by
  obtain ⟨os, hos, hcs, hds⟩ := id hs
  unfold Builtin.Slice.sliceApplied Builtin.Slice.sliceFields
  refine wpAny_bind (wpAny_bind (wpAny_field hos hds (x := .none) rfl (wpAny_bind (wpAny_field hos hds (x := .none) rfl (wpAny_bind (wpAny_field hos hds (x := .int (-1) u) rfl (wpAny_pure ?_)))))))
  refine wpAny_bind (slicePart_int ?_)
  show wpAny _ _ (if ((-1 : Int) == 0) = true then _ else _) _ _ s
  rw [if_neg (by decide)]
  refine wpAny_bind (slicePart_none (wpAny_bind (slicePart_none (wpAny_bind (wpAny_pure ?_)))))
  show wpAny _ _ (match Builtin.Slice.sliceAdjust none none (-1) (n : Int) with | (lo, hi) => pure (lo, (-1 : Int), Builtin.Slice.slicePlaces lo hi (-1))) _ _ s
  rw [adjust_rev n]
  show wpAny _ _ (pure ((n : Int) - 1, (-1 : Int), Builtin.Slice.slicePlaces ((n : Int) - 1) (-1) (-1))) _ _ s
  rw [places_rev]
  exact wpAny_pure h
theorem pick_rev (xs : Array Value) : ((List.range xs.size).filterMap fun (m : Nat) => xs[(((xs.size : Int) - 1) + (m : Int) * -1).toNat]?).toArray = xs.toList.reverse.toArray := by
  have e : (fun (m : Nat) => xs[(((xs.size : Int) - 1) + (m : Int) * -1).toNat]?) = (fun k => xs[k]?) ∘ fun m => xs.size - 1 - m := by
    funext m
    have : (((xs.size : Int) - 1) + (m : Int) * -1).toNat = xs.size - 1 - m := by omega
    rw [this]
    rfl
  rw [e, ← List.filterMap_map, PySem.W.krv_range, List.filterMap_reverse, PySem.W.krv_all]
theorem getItem_tuple_rev {t sl : Addr} {items : Array Value} {u : Tok} {Q : Value → Shared → Prop} (ht : IsTup s.heap t items) (hs : s.heap.IsSliceOf sl .none .none (.int (-1) u))
    (h : Q (.ref s.heap.objs.size) { s with heap := s.heap.push { cls := .type "tuple", data := .seq items.toList.reverse.toArray } })
    (hsz : items.size ≤ sizeLine) : wpAny (model prog w) A (getItem (.ref t) (.ref sl)) Q E s := by
  have htake : sizeOk (.seq items.toList.reverse.toArray) := by
    show items.toList.reverse.toArray.size ≤ sizeLine
    rw [List.size_toArray, List.length_reverse, Array.length_toList]
    exact hsz
  obtain ⟨os, hos, hcs, hds⟩ := id hs
  have hTs : s.TypeIs (.ref sl) "slice" := ⟨os, hos, hcs⟩
  unfold getItem
  try with_reducible refine wpAny_holding ?_
  first | refine wpAny_bind (wpAny_pure ?_) | skip
  refine wpAny_bind (wpAny_sequenceKey ht.typeIs (by decide) ?_)
  refine wpAny_bind (wpAny_callSpecial?_slot (name := Str.ofString "__getitem__") ht.typeIs PyProof.Rows.slot_tuple_getitem
    (wpAny_call_entry PyProof.Rows.slot_tuple_getitem ht.typeIs entry_tuple_getitem ?_ (args_tuple_getitem _ _)))
  show wpAny _ _ (Builtin.Tuple.tupleItemsOf (.ref t) >>= _) _ _ s
  refine wpAny_bind (tupleItemsOf_ ht ?_)
  refine wpAny_bind (wpAny_typeOf hTs ?_)
  rw [if_pos (by decide)]
  refine wpAny_bind (sliceApplied_rev hs ?_)
  have hno : ¬ ((((items.size : Int) - 1) == 0 && (-1 : Int) == 1 && items.size == items.size) = true) := by
    intro q
    rw [Bool.and_eq_true, Bool.and_eq_true] at q
    exact absurd q.1.2 (by decide)
  show wpAny _ _ (if ((((items.size : Int) - 1) == 0 && (-1 : Int) == 1 && items.size == items.size) = true) then _ else _) _ _ s
  rw [if_neg hno, pick_rev]
  first
    | exact wpAny_bind (m := Builtin.Tuple.tupleExact _) (wpAny_newObj_type (wpAny_pure ⟨_, rfl, wpAny_pure h⟩) htake)
    | exact wpAny_bind (m := Builtin.Tuple.tupleExact _) (wpAny_newObj_type (wpAny_bind (wpAny_pure (wpAny_pure ⟨_, rfl, wpAny_pure h⟩))) htake)
    | exact wpAny_bind (wpAny_bind (m := Builtin.Tuple.tupleExact _) (wpAny_newObj_type (wpAny_pure (wpAny_pure ⟨_, rfl, wpAny_pure h⟩)) htake))
    | exact wpAny_bind (wpAny_bind (m := Builtin.Tuple.tupleExact _) (wpAny_newObj_type (wpAny_pure ⟨_, rfl, wpAny_pure h⟩) htake))
end
end HT
namespace XB
open PySem PySem.Spec PyProof.Rows L2
section
variable {X : Cx}
def tRevT (K : PySem.W.Frag) (te : TE) : TE := fun σ H Q => te σ H fun x H1 => ∃ a xs, x = .ref a ∧ SqT K H1 a xs ∧ ∀ p, H1 p = none → Q (.ref p) (upd H1 p (.tup xs.reverse))
theorem pe_revT {e : Expr} {te : TE} {k : Nat} {p1 p2 p3 pos : Pos} (he : PE X e te) : PE X (.Subscript e (.Slice none none (some (.UnaryOp .USub (.Constant (.int 1) k p1) p2)) p3) pos) (tRevT X.K te) := by
  refine ⟨fun pins s σ H Q I h => ?_⟩
  refine Subscript_ (thn (he.run pins s σ H _ I h) fun v s1 ⟨x, H1, I1, r1, q1⟩ => ?_)
  obtain ⟨a, xs, ex, hx, q⟩ := q1
  subst ex
  cases r1
  have hst : PO X (some (.UnaryOp .USub (.Constant (.int 1) k p1) p2)) (tPart (tUn (rU fun i => .int (-i)) (tC (.int 1)))) := po_some (pe_un un_neg pe_int)
  refine wpAny_Slice (thn (po_none.run pins s1 σ H1 (fun o H2 => o = none ∧ H2 = H1) I1 ⟨rfl, rfl⟩) fun vl s2 ⟨l, H2, I2, pl, el, e2⟩ => ?_)
  subst el e2
  refine thn (po_none.run pins s2 σ H2 (fun o H3 => o = none ∧ H3 = H2) I2 ⟨rfl, rfl⟩) fun vu s3 ⟨u, H3, I3, pu, eu, e3⟩ => ?_
  subst eu e3
  refine thn (hst.run pins s3 σ H3 (fun o H4 => o = some (-1) ∧ H4 = H3) I3 ⟨1, rfl, -1, rfl, rfl, rfl⟩) fun vs s4 ⟨o, H4, I4, ps, eo, e4⟩ => ?_
  subst eo e4
  cases pl
  cases pu
  cases ps with
  | int i tk =>
    have I5 : Inv X pins σ H4 { s4 with heap := s4.heap.push { cls := .type "slice", data := .fields #[.none, .none, .int (-1) tk] } } := I4.kept (t' := s4.toks) fun b ob q => Heap.get?_push_of_some _ q
    obtain ⟨its, r, ht, hz⟩ := I5.tuple hx
    have hlen := r.length
    show wpAny (model X.prog X.w) X.A (subscriptTail e (.Slice none none (some (.UnaryOp .USub (.Constant (.int 1) k p1) p2)) p3) (.ref a) (.ref s4.heap.objs.size)) (EP X pins σ Q) X.xe { s4 with heap := s4.heap.push { cls := .type "slice", data := .fields #[.none, .none, .int (-1) tk] } }
    refine tail_any (ops := [.ref a, .ref s4.heap.objs.size]) ht.typeIs PyProof.Rows.slot_tuple_getitem.lookup ?_ (by with_unfolding_all rfl)
    refine HT.getItem_tuple_rev ht (Heap.IsSliceOf.new _ .none .none (.int (-1) tk)) ?_ (by rw [List.size_toArray]; omega)
    refine ⟨.ref _, _, I5.laid (t' := s4.toks) (o := .tup xs.reverse) (fun b ob q => Heap.get?_push_of_some _ q) (Nat.le_refl _) ?_, rfl, q _ (I5.hok.fresh (Nat.le_refl _))⟩
    exact ⟨by rw [List.length_reverse]; exact hz, _, r.reverse, ⟨_, Heap.get?_push_size _ rfl, rfl, _, rfl⟩⟩
end
end XB
set_option Elab.async false
set_option linter.all false
set_option maxRecDepth 100000
set_option maxHeartbeats 4000000
/-! rules of rows, lists or tuples -/
namespace XB
open PySem PySem.Spec PyProof.Rows L2
def SqX (K : PySem.W.Frag) (H : Hp) (p : Addr) (xs : List V) : Prop := SqL K H p xs ∨ SqT K H p xs
theorem SqX.same {K : PySem.W.Frag} {H H' : Hp} {p : Addr} {xs : List V} (s : Same H H') (h : SqX K H p xs) : SqX K H' p xs := h.elim (fun h => .inl (s.seq h)) fun h => .inr ((Tk.of s).sqT h)
def rIxX (K : PySem.W.Frag) : R2 := fun x y H Q => ∃ p xs i v, x = .ref p ∧ y = .int i ∧ SqX K H p xs ∧ atI xs i = some v ∧ Q v H
section
variable {X : Cx}
theorem ixk_row {K : PySem.W.Frag} (hk : X.K = K) : IxR X (rIxX K) := by
  subst hk
  intro value slice pins s σ H x y v u Q I rx ry h hs
  obtain ⟨p, xs, i, z, e1, e2, hq, he, q⟩ := h
  rcases hq with hq | hq
  · exact ix_list value slice pins s σ H x y v u Q I rx ry ⟨p, xs, i, z, e1, e2, hq, he, q⟩ hs
  · exact ix_tup value slice pins s σ H x y v u Q I rx ry ⟨p, xs, i, z, e1, e2, hq, he, q⟩ hs
/-- a part of a row, whatever its kind: a row of the same kind, old or new -/
def rSlX (K : PySem.W.Frag) : V → Option Int → Option Int → Hp → VK → Prop := fun x lo hi H Q => ∃ p xs, x = .ref p ∧ SqX K H p xs ∧ ∀ H' q, Same H H' → SqX K H' q (cutV xs lo hi) → Q (.ref q) H'
theorem cut_whole {xs : List V} {lo hi : Option Int} (h : HT.sIx xs.length 0 lo = 0 ∧ HT.sIx xs.length xs.length hi = xs.length) : cutV xs lo hi = xs := by
  unfold cutV
  rw [h.1, h.2]
  simp
theorem slk_row {K : PySem.W.Frag} (hk : X.K = K) : SlR X (rSlX K) := by
  subst hk
  intro pins s σ H x v vl vu lo hi sl Q I rx hs pl pu h
  obtain ⟨p, xs, e, hq, q⟩ := h
  rcases hq with hq | hq
  · exact sl_list pins s σ H x v vl vu lo hi sl Q I rx hs pl pu ⟨p, xs, e, hq, fun r hr => q _ r (same_upd hr) (.inl (SqL.of upd_same))⟩
  · exact sl_tupA pins s σ H x v vl vu lo hi sl Q I rx hs pl pu ⟨p, xs, e, hq, fun hw => q _ p (Same.refl _) (by rw [cut_whole hw]; exact .inr hq), fun _ r hr => q _ r (same_upd hr) (.inr (SqT.of upd_same))⟩
/-- a row walked through, whatever its kind -/
def iRow (K : PySem.W.Frag) (tl : TE) : TI := fun σ H R => tl σ H fun x H1 => ∃ a xs, x = .ref a ∧ SqX K H1 a xs ∧ ∀ (J : It) (G : Hp → Prop), (∀ H', Same H1 H' → G H') → Walk J xs.length G (YAt xs) → R J H1
theorem pi_row {l tg : Expr} {tl : TE} (hl : PE X l tl) : PI X tg l (iRow X.K tl) := by
  refine ⟨fun pins s σ H R I h => ?_⟩
  refine thn (hl.run pins s σ H _ I h) fun v s1 ⟨x, H1, I1, r1, q1⟩ => ?_
  obtain ⟨a, xs, e, hq, q⟩ := q1
  subst e
  cases r1
  rcases hq with hq | hq
  · obtain ⟨its, rv, p, hz⟩ := I1.list hq
    refine wpAny_pyIter_list p.isList ?_
    refine ⟨s1.heap.objs.size, [s1.heap.objs.size], _, _, H1, rfl, I1.kept (t' := s1.toks) fun b o e => Heap.get?_push_of_some _ e, turn_list a _, ⟨_, Heap.get?_push_size _ rfl, rfl, rfl⟩, fun b hb => ?_, q _ _ (fun H' s' => s'.seq hq) walk_list⟩
    have e : b = s1.heap.objs.size := by simpa using hb
    subst e
    exact I1.fpOk (Nat.le_refl _) (I1.hok.fresh (Nat.le_refl _))
  · obtain ⟨its, rv, p, hz⟩ := I1.tuple hq
    refine wpAny_pyIter_tuple (show s1.heap.IsTuple a its.toArray from p) ?_
    refine ⟨s1.heap.objs.size, [s1.heap.objs.size], _, _, H1, rfl, I1.kept (t' := s1.toks) fun b o e => Heap.get?_push_of_some _ e, turn_tuple a _, ⟨_, Heap.get?_push_size _ rfl, rfl, rfl⟩, fun b hb => ?_, q _ _ (fun H' s' => (Tk.of s').sqT hq) walk_tup⟩
    have e : b = s1.heap.objs.size := by simpa using hb
    subst e
    exact I1.fpOk (Nat.le_refl _) (I1.hok.fresh (Nat.le_refl _))
end
theorem cut_init (xs : List V) (k : Nat) : cutV xs none (some (k : Int)) = xs.take k := by
  unfold cutV
  rw [HT.sIx_none, HT.sIx_nat]
  rw [List.drop_zero, Nat.sub_zero]
  by_cases h : k ≤ xs.length
  · rw [Nat.min_eq_left h]
  · rw [Nat.min_eq_right (by omega), List.take_of_length_le (Nat.le_refl _), List.take_of_length_le (by omega)]
theorem cut_from (xs : List V) (k : Nat) : cutV xs (some (k : Int)) none = xs.drop k := by
  unfold cutV
  rw [HT.sIx_none, HT.sIx_nat]
  by_cases h : k ≤ xs.length
  · rw [Nat.min_eq_left h, List.take_of_length_le (by rw [List.length_drop]; omega)]
  · rw [Nat.min_eq_right (by omega), List.drop_of_length_le (Nat.le_refl _), List.drop_of_length_le (by omega)]
    simp
end XB
set_option Elab.async false
set_option linter.all false
set_option maxRecDepth 100000
set_option maxHeartbeats 4000000
/-! closers for readings of lists and tuples -/
namespace XB
open PySem PySem.Spec PyProof.Rows L2
theorem one_sz : 1 ≤ sizeLine := by decide
theorem two_sz : 2 ≤ sizeLine := by decide
theorem three_sz : 3 ≤ sizeLine := by decide
theorem slL {K : PySem.W.Frag} {H : Hp} {D : Addr} {ys : List V} {lo hi : Option Int} {Q : VK} (h : H D = some (.lst ys)) (q : ∀ H' p, Same H H' → H p = none → H' p = some (.lst (cutV ys lo hi)) → Q (.ref p) H') : rSlL K (.ref D) lo hi H Q :=
  ⟨D, ys, rfl, SqL.of h, fun p hp => q _ p (same_upd hp) hp upd_same⟩
theorem catL {H : Hp} {a b : Addr} {xs ys : List V} {Q : VK} (h1 : H a = some (.lst xs)) (h2 : H b = some (.lst ys)) (hl : xs.length + ys.length ≤ sizeLine) (q : ∀ H' p, Same H H' → H p = none → H' p = some (.lst (xs ++ ys)) → Q (.ref p) H') : rCat (.ref a) (.ref b) H Q :=
  ⟨a, b, xs, ys, rfl, rfl, h1, h2, hl, fun p hp => q _ p (same_upd hp) hp upd_same⟩
/-- a new object's heap as any heap that keeps what stood -/
@[elab_as_elim] theorem upd_gen {H : Hp} {p : Addr} {o : HO} {motive : Hp → Prop} (hp : H p = none) (q : ∀ H', Same H H' → H' p = some o → motive H') : motive (upd H p o) := q _ (same_upd hp) upd_same
theorem at_nil {α : Type} {x : α} {xs : List α} : atI (x :: xs) 0 = some x := atI_nat (j := 0) rfl
theorem ix0 {K : PySem.W.Frag} {σ : L2.St} {H : Hp} {b : Addr} {x : V} {xs : List V} {Q : VK} (h : SqT K H b (x :: xs)) (q : Q x H) : tC (.int 0) σ H (fun y H2 => rIxT K (.ref b) y H2 Q) := ⟨b, _, 0, x, rfl, rfl, h, at_nil, q⟩
theorem at_one {α : Type} {x y : α} {xs : List α} : atI (x :: y :: xs) 1 = some y := atI_nat (j := 1) rfl
theorem ix1 {K : PySem.W.Frag} {σ : L2.St} {H : Hp} {b : Addr} {x y : V} {xs : List V} {Q : VK} (h : SqT K H b (x :: y :: xs)) (q : Q y H) : tC (.int 1) σ H (fun z H2 => rIxT K (.ref b) z H2 Q) := ⟨b, _, 1, y, rfl, rfl, h, at_one, q⟩
theorem op_catAk {X : Cx} {K : PySem.W.Frag} (hk : X.K = K) : OpR X (binaryOp .Add) (rCatA K) := by
  subst hk
  exact op_catA
theorem catA {K : PySem.W.Frag} {H : Hp} {a b : Addr} {xs ys : List V} {Q : VK} (ha : SqT K H a xs) (hb : SqT K H b ys) (hl : xs.length + ys.length ≤ sizeLine) (q : ∀ H' p, Same H H' → SqT K H' p (xs ++ ys) → Q (.ref p) H') : rCatA K (.ref a) (.ref b) H Q :=
  ⟨a, b, xs, ys, rfl, rfl, ha, hb, hl, fun e => q H b (Same.refl _) (by rw [e]; exact hb), fun _ e => q H a (Same.refl _) (by rw [e, List.append_nil]; exact ha), fun _ _ p hp => q _ p (same_upd hp) (SqT.of upd_same)⟩
/-- an if whose else is shown once -/
theorem ifS_by {c : TT} {t u : TS} {D : Ends} {σ : L2.St} {H : Hp} (he : ∀ H', Same H H' → u D σ H') (hc : (∀ H', Same H H' → u D σ H') → c σ H (fun b H1 => if b = true then t D σ H1 else u D σ H1)) : tIfS c t u D σ H := hc he
theorem ix0L {K : PySem.W.Frag} {σ : L2.St} {H : Hp} {b : Addr} {x : V} {xs : List V} {Q : VK} (h : H b = some (.lst (x :: xs))) (q : Q x H) : tC (.int 0) σ H (fun y H2 => rIxL K (.ref b) y H2 Q) := ⟨b, _, 0, x, rfl, rfl, SqL.of h, at_nil, q⟩
theorem four_sz : 4 ≤ sizeLine := by decide
theorem by_q {t : TE} {σ : L2.St} {H : Hp} {Q : VK} (C : V → Hp → Prop) (h : ∀ Qx : VK, (∀ v H', C v H' → Qx v H') → t σ H Qx) (hq : ∀ v H', C v H' → Q v H') : t σ H Q := h Q hq
theorem Paired.get {α β : Type} {R : α → β → Prop} : ∀ {l : List α} {l' : List β} {i : Nat} {x : α}, Paired R l l' → l[i]? = some x → ∃ y, l'[i]? = some y ∧ R x y
  | _, _, _, _, .nil, e => by simp at e
  | _, _, 0, _, .cons h _, e => by
    cases e
    exact ⟨_, rfl, h⟩
  | _, _, i + 1, _, .cons _ t, e => Paired.get (i := i) t (by simpa using e)
end XB
set_option Elab.async false
set_option linter.all false
set_option maxRecDepth 100000
set_option maxHeartbeats 4000000
/-! of which kind a value is, by its data -/
namespace XB
open PySem PySem.Spec PyProof.Rows L2
def tyD : PyData → String
  | .none => "NoneType"
  | .bool _ => "bool"
  | .int _ => "int"
  | .str _ => "str"
  | .list _ => "list"
  | .tuple _ => "tuple"
  | .dict _ => "dict"
theorem tyx_lst {K : PySem.W.Frag} {H : Hp} {a : Addr} {xs : List V} (h : SqL K H a xs) : TyX K H (.ref a) (.type "list") := by
  rcases h with (h | ⟨o, h⟩) | ⟨o, its, n, hk, hc, _⟩
  · exact .base (.lst h)
  · exact .base (.frz h)
  · exact .kList hk hc
theorem tyx_data {K : PySem.W.Frag} {H : Hp} {v : V} {d : PyData} (h : Dp K H v d) : TyX K H v (.type (tyD d)) := by
  cases h with
  | non => exact .base .non
  | bl b => exact .base (.bl b)
  | int i => exact .base (.int i)
  | str s => exact .base (.str s)
  | lst h1 _ => exact tyx_lst h1
  | tup h1 _ => exact tyx_tup h1
/-- isinstance by data -/
def isD (T : String) : PyData → Bool
  | .bool _ => T == "bool" || T == "int"
  | d => T == tyD d
theorem kit_data {K : PySem.W.Frag} {H : Hp} {v : V} {d : PyData} {T : String} (hT : T = "tuple" ∨ T = "list" ∨ T = "str" ∨ T = "int" ∨ T = "bool") (h : Dp K H v d) : PySem.W.kitOne K (.type (tyD d)) (.type T) = some (isD T d) := by
  refine kit_ty ?_
  rcases hT with rfl | rfl | rfl | rfl | rfl <;> cases h <;> first | decide +kernel | rfl
end XB
set_option Elab.async false
set_option linter.all false
set_option maxRecDepth 100000
set_option maxHeartbeats 4000000
namespace XB
open PySem PySem.Spec PyProof.Rows L2
/-! what the program takes for a whole number, a pair, a step: of any data -/
def wholeD : PyData → Bool
  | .int _ => true
  | _ => false
def pairD : PyData → Bool
  | .tuple [_, _] => true
  | _ => false
def timesD : PyData → Bool
  | .int t => decide (t ≠ 0) && decide ((if t < 0 then -t else t) ≤ 10 ^ 30)
  | _ => false
def greatD (ns : List Str) : PyData → Bool
  | .tuple [.str n, .int t] => ns.contains n && decide (t ≠ 0)
  | _ => false
def stepD (ns : List Str) : PyData → Bool
  | .tuple [.str n, .int t] => ns.contains n && timesD (.int t)
  | _ => false
theorem any_strs (ns : List Str) (d : PyData) : ((ns.map PyData.str).any fun z => PyData.eqv z d) = match d with
    | .str n => ns.contains n
    | _ => false := by
  induction ns with
  | nil => cases d <;> rfl
  | cons a ns ih =>
    rw [List.map_cons, List.any_cons, ih]
    cases d with
    | str n =>
      show ((a == n) || ns.contains n) = (a :: ns).contains n
      rw [List.contains_cons]
      congr 1
      rw [Bool.eq_iff_iff, beq_iff_eq, beq_iff_eq]
      exact ⟨fun h => h.symm, fun h => h.symm⟩
    | _ => rfl
theorem shaped_two {x y : PyData} (h : SeqAt.shaped (.tuple [x, y]) = true) : SeqAt.shaped x = true ∧ SeqAt.shaped y = true := by
  have h : (PyData.canLay0 (.tuple [x, y]) && decide (PyData.depth (.tuple [x, y]) ≤ 64)) = true := h
  rw [Bool.and_eq_true, decide_eq_true_eq] at h
  obtain ⟨h1, h2⟩ := h
  have h1 : (PyData.canLay0 x && (PyData.canLay0 y && true)) = true := h1
  rw [Bool.and_true, Bool.and_eq_true] at h1
  rw [PyData.depth, PyData.depthAll, PyData.depthAll, PyData.depthAll] at h2
  refine ⟨?_, ?_⟩
  · show (PyData.canLay0 x && decide (PyData.depth x ≤ 64)) = true
    rw [h1.1, Bool.true_and]
    exact decide_eq_true (by omega)
  · show (PyData.canLay0 y && decide (PyData.depth y ≤ 64)) = true
    rw [h1.2, Bool.true_and]
    exact decide_eq_true (by omega)
section
variable {P : Program} {w : World} {K : PySem.W.Frag} {mg : Str → Option Value} {base : Heap}
def spWholeD (K : PySem.W.Frag) : Sp := fun vs H Q _ => ∃ (v : V) (d : PyData), vs = [v] ∧ Dp K H v d ∧ Q (.bl (wholeD d)) H
theorem c_is_wholeD (T : Tx K mg) : Cl P w K mg base CX0 1 "is_whole" (spWholeD K) := by
  refine cl0 T.d_is_whole (ps := ["value"]) (fun _ _ _ _ _ _ us hl => match us, hl with | [_], _ => rfl) sc_is_whole (fun vs H Q E h => ?_) (fun f cdv A outer st H vs Q E hr h => ?_)
  · obtain ⟨v, d, rfl, _⟩ := h
    rfl
  · obtain ⟨v, d, rfl, hd, q⟩ := h
    have nd := sc_is_whole.nd
    refine ⟨_, (pss_one (ps_ret (pe_and (pe_isT "int" (by rfl) T.b_isinstance (by rfl) T.b_int (by decide +kernel) (pv 0)) (pe_one (pe_not (pe_isT "bool" (by rfl) T.b_isinstance (by rfl) T.b_bool (by decide +kernel) (pv 0))))))), ?_⟩
    refine ⟨_, rfl, v, .ty "int", _, _, _, rfl, .ty _, tyx_data hd, kit_data (.inr (.inr (.inr (.inl rfl)))) hd, _, rfl, ?_⟩
    by_cases h1 : isD "int" d = true
    · rw [if_pos h1]
      refine ⟨_, rfl, v, .ty "bool", _, _, _, rfl, .ty _, tyx_data hd, kit_data (.inr (.inr (.inr (.inr rfl)))) hd, _, rfl, ?_⟩
      have e : (!isD "bool" d) = wholeD d := by
        cases d <;> first | rfl | (exfalso; simp [isD, tyD] at h1)
      rw [e]
      exact q
    · rw [if_neg h1]
      have e : wholeD d = false := by
        cases d <;> first | rfl | exact absurd rfl h1
      rw [e] at q
      exact q
def spPairD (K : PySem.W.Frag) : Sp := fun vs H Q _ => ∃ (v : V) (d : PyData), vs = [v] ∧ Dp K H v d ∧ Q (.bl (pairD d)) H
theorem c_is_pairD (T : Tx K mg) : Cl P w K mg base CX0 1 "is_pair" (spPairD K) := by
  refine cl0 T.d_is_pair (ps := ["value"]) (fun _ _ _ _ _ _ us hl => match us, hl with | [_], _ => rfl) sc_is_pair (fun vs H Q E h => ?_) (fun f cdv A outer st H vs Q E hr h => ?_)
  · obtain ⟨v, d, rfl, _⟩ := h
    rfl
  · obtain ⟨v, d, rfl, hd, q⟩ := h
    have nd := sc_is_pair.nd
    refine ⟨_, (pss_one (ps_ret (pe_and (pe_isT "tuple" (by rfl) T.b_isinstance (by rfl) T.b_tuple (by decide +kernel) (pv 0)) (pe_one (pe_cmpR op_eq (pe_lenS (by rfl) T.b_len (pv 0)) pe_int (nomark _)))))), ?_⟩
    refine ⟨_, rfl, v, .ty "tuple", _, _, _, rfl, .ty _, tyx_data hd, kit_data (.inl rfl) hd, _, rfl, ?_⟩
    by_cases h1 : isD "tuple" d = true
    · rw [if_pos h1]
      cases d with
      | tuple ds =>
        cases hd with
        | tup hS hV =>
          have hl := hV.len
          refine ⟨_, rfl, _, _, rfl, .inr hS, rfl, ?_⟩
          have e : ∀ n : Nat, decide (V.int (n : Int) = V.int 2) = decide (n = 2) := fun n => decide_eq_decide.mpr ⟨fun h => by injection h with h; omega, fun h => by rw [h]; rfl⟩
          rw [e, hl]
          have e2 : decide (ds.length = 2) = pairD (.tuple ds) := by
            match ds with
            | [] => rfl
            | [_] => rfl
            | [_, _] => rfl
            | _ :: _ :: _ :: r => exact decide_eq_false (by simp)
          rw [e2]
          exact q
      | _ => exact absurd h1 (by simp [isD, tyD])
    · rw [if_neg h1]
      have e : pairD d = false := by
        cases d <;> first | rfl | exact absurd rfl h1
      rw [e] at q
      exact q
def spTimesD (K : PySem.W.Frag) : Sp := fun vs H Q _ => ∃ (v : V) (d : PyData), vs = [v] ∧ Dp K H v d ∧ Q (.bl (timesD d)) H
theorem c_is_timesD (T : Tx K mg) : Cl P w K mg base CX0 2 "is_times" (spTimesD K) := by
  refine cl0 T.d_is_times (ps := ["value"]) (fun _ _ _ _ _ _ us hl => match us, hl with | [_], _ => rfl) sc_is_times (fun vs H Q E h => ?_) (fun f cdv A outer st H vs Q E hr h => ?_)
  · obtain ⟨v, d, rfl, _⟩ := h
    rfl
  · obtain ⟨v, d, rfl, hd, q⟩ := h
    have nd := sc_is_times.nd
    obtain ⟨tk, h_MOST_TIMES⟩ := T.g_MOST_TIMES
    refine ⟨_, (pss_one (ps_ret (pe_and (pe_k (c_is_wholeD T) hr (by decide) (by rfl) (pa_cons (pv 0) pa_nil)) (pe_and (pe_cmpR op_ne (pv 0) pe_int (nomark _)) (pe_one (pe_cmpR op_le (pe_callB call_abs (by rfl) T.b_abs (by decide +kernel) (pa_cons (pv 0) pa_nil)) (pe_glob (v := .int (10 ^ 30)) (by rfl) h_MOST_TIMES ⟨_, rfl⟩) (nomark _))))))), ?_⟩
    refine ⟨_, rfl, v, d, rfl, hd, _, rfl, ?_⟩
    cases d with
    | int t =>
      cases hd
      refine iteT ⟨_, rfl, rfl, _, rfl, ?_⟩
      rw [dec_int]
      by_cases h0 : t = 0
      · subst h0
        exact q
      · have e0 : (!(t == 0)) = true := by simp [h0]
        rw [e0]
        refine iteT ⟨_, rfl, _, rfl, _, _, rfl, rfl, ?_⟩
        have e : timesD (.int t) = decide ((if t < 0 then -t else t) ≤ 10 ^ 30) := by
          show (decide (t ≠ 0) && _) = _
          rw [decide_eq_true h0, Bool.true_and]
        rw [e] at q
        exact q
    | _ => exact iteF q
def spGreatD (K : PySem.W.Frag) : Sp := fun vs H Q _ => ∃ (n : Addr) (v : V) (ns : List Str) (d : PyData), vs = [.ref n, v] ∧ SqT K H n (ns.map V.str) ∧ SeqAt.shaped (.tuple (ns.map PyData.str)) = true ∧ Dp K H v d ∧ SeqAt.shaped d = true ∧ Q (.bl (greatD ns d)) H
theorem c_is_great_stepD (T : Tx K mg) : Cl P w K mg base CX0 2 "is_great_step" (spGreatD K) := by
  refine cl0 T.d_is_great_step (ps := ["names", "value"]) (fun _ _ _ _ _ _ us hl => match us, hl with | [_, _], _ => rfl) sc_is_great_step (fun vs H Q E h => ?_) (fun f cdv A outer st H vs Q E hr h => ?_)
  · obtain ⟨n, v, ns, d, rfl, _⟩ := h
    rfl
  · obtain ⟨n, v, ns, d, rfl, hN, sN, hd, sd, q⟩ := h
    have nd := sc_is_great_step.nd
    have hu := u65 hr
    refine ⟨_, (pss_cons (ps_if (pt_not (pt_val (pe_k (c_is_pairD T) hr (by decide) (by rfl) (pa_cons (pv 1) pa_nil)))) (pss_one (ps_ret pe_bl)) pss_nil)
    (pss_cons (ps_asg (pv 1) (pg_tup rfl (pgs_cons (pg_name (i := 2) nd rfl (.inl rfl)) (pgs_cons (pg_name (i := 3) nd rfl (.inl rfl)) pgs_nil))))
    (pss_one (ps_ret (pe_and (pe_cmpR (op_inDTk (K := K) rfl hu) (pv 2) (pv 0) (by rfl)) (pe_and (pe_k (c_is_wholeD T) hr (by decide) (by rfl) (pa_cons (pv 3) pa_nil)) (pe_one (pe_cmpR op_ne (pv 3) pe_int (nomark _))))))))), ?_⟩
    refine ⟨_, rfl, v, d, rfl, hd, _, rfl, ?_⟩
    by_cases hp : pairD d = true
    · rw [hp]
      obtain ⟨x, y, rfl⟩ : ∃ x y, d = .tuple [x, y] := by
        match d, hp with
        | .tuple [x, y], _ => exact ⟨x, y, rfl⟩
      obtain ⟨sx, sy⟩ := shaped_two sd
      cases hd with
      | tup hS hV =>
      cases hV with
      | cons hx hV =>
      cases hV with
      | cons hy hV =>
      cases hV
      refine iteF ⟨_, rfl, _, _, rfl, hS, rfl, _, _, rfl, _, _, rfl, rfl, ?_⟩
      refine ⟨_, rfl, _, rfl, x, _, hx, .tup hN (DpAll.strs ns), sx, sN, _, rfl, ?_⟩
      rw [any_strs]
      cases x with
      | str n =>
        by_cases hn : ns.contains n = true
        · show if ns.contains n = true then _ else _
          rw [if_pos hn]
          refine ⟨_, rfl, _, y, rfl, hy, _, rfl, ?_⟩
          cases y with
          | int t =>
            cases hy
            refine iteT ⟨_, rfl, rfl, ?_⟩
            rw [dec_int]
            have e : greatD ns (.tuple [.str n, .int t]) = !(t == 0) := by
              show (ns.contains n && decide (t ≠ 0)) = _
              rw [hn, Bool.true_and]
              by_cases h0 : t = 0 <;> simp [h0]
            rw [e] at q
            exact q
          | _ => exact iteF q
        · show if ns.contains n = true then _ else _
          rw [if_neg hn]
          have e : greatD ns (.tuple [.str n, y]) = false := by
            cases y with
            | int t =>
              show (ns.contains n && decide (t ≠ 0)) = _
              rw [Bool.eq_false_iff.mpr hn]
              rfl
            | _ => rfl
          rw [e] at q
          exact q
      | _ => exact iteF q
    · rw [Bool.eq_false_iff.mpr hp]
      have e : greatD ns d = false := by
        match d, hp with
        | .none, _ => rfl
        | .bool _, _ => rfl
        | .int _, _ => rfl
        | .str _, _ => rfl
        | .list _, _ => rfl
        | .dict _, _ => rfl
        | .tuple [], _ => rfl
        | .tuple [x], _ => cases x <;> rfl
        | .tuple [_, _], h => exact absurd rfl h
        | .tuple (x :: y :: _ :: _), _ => cases x <;> first | rfl | (cases y <;> rfl)
      rw [e] at q
      exact iteT q
end
end XB
set_option Elab.async false
set_option linter.all false
set_option maxRecDepth 100000
set_option maxHeartbeats 4000000
namespace XB
open PySem PySem.Spec PyProof.Rows L2
theorem take_snoc {α : Type} {l : List α} {k : Nat} {s : α} (h : l[k]? = some s) : l.take (k + 1) = l.take k ++ [s] := by
  rw [List.take_add_one, h]
  rfl
theorem drop_at {α : Type} {l : List α} {k : Nat} {s : α} (h : l[k]? = some s) : l.drop k = s :: l.drop (k + 1) := by
  obtain ⟨h1, rfl⟩ := List.getElem?_eq_some_iff.mp h
  exact List.drop_eq_getElem_cons h1
section
variable {P : Program} {w : World} {K : PySem.W.Frag} {mg : Str → Option Value} {base : Heap}
def spLastTouched (K : PySem.W.Frag) : Sp := fun vs H Q _ => ∃ (a l : Addr) (ns : List Str) (xs : List V) (row : List (Str × Int)), vs = [.ref a, .ref l] ∧ SqT K H a (ns.map V.str) ∧ SqX K H l xs ∧ DpAll K H xs (row.map dStep) ∧ Q (.int (XM.lastIx (fun b => ns.contains b) row.reverse)) H
theorem c_last_touched (T : Tx K mg) : Cl P w K mg base CX0 1 "last_touched" (spLastTouched K) := by
  refine cl0 T.d_last_touched (ps := ["names", "pieces"]) (fun _ _ _ _ _ _ us hl => match us, hl with | [_, _], _ => rfl) sc_last_touched (fun vs H Q E h => ?_) (fun f cdv A outer st H vs Q E hr h => ?_)
  · obtain ⟨a, l, ns, xs, row, rfl, _⟩ := h
    rfl
  · obtain ⟨a, l, ns, xs, row, rfl, hA, hS, hD, q⟩ := h
    have nd := sc_last_touched.nd
    have hl := hD.len
    rw [List.length_map] at hl
    refine ⟨_, pss_cons (ps_set (i := 2) nd rfl (.inl rfl) (pe_op op_sub (pe_lenS (by rfl) T.b_len (pv 1)) pe_int))
      (pss_cons (ps_while PassesOwn.never (PW.pt (pw_and (pt_cmpR op_ge (pv 2) pe_int (nomark _)) (pw_and1 (pt_cmpR op_notIn_seq (pe_ix ix_tup (pe_ix (ixk_row (K := K) rfl) (pv 1) (pv 2) (fun _ _ => rfl)) pe_int (fun _ _ => rfl)) (pv 0) (by rfl)))))
        (pss_one (ps_aug (i := 2) nd rfl (.inl rfl) pe_int ip_sub)))
      (pss_one (ps_ret (pv 2)))), ?_⟩
    refine ⟨_, rfl, l, xs, rfl, hS, _, _, rfl, rfl, ?_⟩
    refine ⟨fun m σ H' => H' = H ∧ ∃ k : Nat, m = k ∧ k ≤ row.length ∧ σ = [some (.ref a), some (.ref l), some (.int ((k : Int) - 1))] ∧ XM.lastIx (fun b => ns.contains b) row.reverse = XM.lastIx (fun b => ns.contains b) (row.take k).reverse,
      ⟨row.length, rfl, row.length, rfl, Nat.le_refl _, by rw [hl]; rfl, by rw [List.take_length]⟩, ?_⟩
    rintro m σ H' ⟨rfl, k, rfl, hk, rfl, e⟩
    refine ⟨_, rfl, _, _, rfl, rfl, _, rfl, ?_⟩
    rcases m with _ | k
    · refine iteF (iteF ⟨_, rfl, ?_⟩)
      rw [e] at q
      exact q
    · rw [show decide ((0 : Int) ≤ ((k + 1 : Nat) : Int) - 1) = true from decide_eq_true (by omega)]
      have hs : row[k]? = some row[k] := List.getElem?_eq_getElem hk
      generalize row[k] = s at hs
      obtain ⟨b, hb, cb⟩ := hD.step hs
      refine iteT ⟨_, rfl, _, rfl, _, _, _, _, rfl, rfl, hS, at_of (j := k) (by omega) hb, _, _, _, _, rfl, rfl, cb, rfl, _, rfl, a, _, rfl, .inr hA, rfl, flat_strs ns, _, rfl, ?_⟩
      rw [if_pos rfl, inV_strs]
      rw [take_snoc hs, List.reverse_append] at e
      have e : _ = (if ns.contains s.1 then ((row.take k).reverse.length : Int) else XM.lastIx (fun b => ns.contains b) (row.take k).reverse) := e
      cases hc : ns.contains s.1
      · rw [hc] at e
        refine iteT ⟨fun σ' H'' => H'' = H' ∧ σ' = [some (.ref a), some (.ref l), some (.int ((k : Int) - 1))], fun σ' H'' h => ?_, ?_⟩
        · obtain ⟨rfl, rfl⟩ := h
          exact ⟨k, by omega, rfl, k, rfl, by omega, rfl, e⟩
        · refine ⟨_, rfl, _, _, rfl, rfl, rfl, ?_⟩
          show [some (V.ref a), some (.ref l), some (.int (((k + 1 : Nat) : Int) - 1 - 1))] = _
          rw [show ((k + 1 : Nat) : Int) - 1 - 1 = (k : Int) - 1 by omega]
      · rw [hc, if_pos rfl, List.length_reverse, List.length_take, Nat.min_eq_left (by omega)] at e
        rw [e] at q
        refine iteF ⟨_, rfl, ?_⟩
        show Q (.int (((k + 1 : Nat) : Int) - 1)) H'
        rw [show ((k + 1 : Nat) : Int) - 1 = (k : Int) by omega]
        exact q
def spPlaceBehind (K : PySem.W.Frag) (F : Fld) : Sp := fun vs H Q _ => ∃ (l : Addr) (z : Int) (i : Nat) (nm : Str) (xs : List V) (row : List (Str × Int)), vs = [.ref l, .int z, .str nm] ∧ z + 1 = (i : Int) ∧ i ≤ row.length ∧ SqX K H l xs ∧ DpAll K H xs (row.map dStep) ∧ Q (.int ((i + XM.lead (OF F) nm (row.drop i) : Nat) : Int)) H
theorem c_place_behind (T : Tx K mg) (F : Fld) : Cl P w K mg base CX0 1 "place_behind" (spPlaceBehind K F) := by
  refine cl0 T.d_place_behind (ps := ["pieces", "at", "name"]) (fun _ _ _ _ _ _ us hl => match us, hl with | [_, _, _], _ => rfl) sc_place_behind (fun vs H Q E h => ?_) (fun f cdv A outer st H vs Q E hr h => ?_)
  · obtain ⟨l, z, i, nm, xs, row, rfl, _⟩ := h
    rfl
  · obtain ⟨l, z, i, nm, xs, row, rfl, ez, hi, hS, hD, q⟩ := h
    have nd := sc_place_behind.nd
    have hl := hD.len
    rw [List.length_map] at hl
    refine ⟨_, pss_cons (ps_set (i := 3) nd rfl (.inl rfl) (pe_op op_add (pv 1) pe_int))
      (pss_cons (ps_while PassesOwn.never (PW.pt (pw_and (pt_cmpR op_lt (pv 3) (pe_lenS (by rfl) T.b_len (pv 0)) (nomark _)) (pw_and1 (pt_cmpR op_lt_str (pe_ix ix_tup (pe_ix (ixk_row (K := K) rfl) (pv 0) (pv 3) (fun _ _ => rfl)) pe_int (fun _ _ => rfl)) (pv 2) (nomark _)))))
        (pss_one (ps_aug (i := 3) nd rfl (.inl rfl) pe_int ip_add)))
      (pss_one (ps_ret (pv 3)))), ?_⟩
    have ez : (V.int (z + 1)) = V.int (i : Int) := by rw [ez]
    refine ⟨_, rfl, _, _, rfl, rfl, ?_⟩
    refine ⟨fun m σ H' => H' = H ∧ ∃ k : Nat, m = row.length - k ∧ k ≤ row.length ∧ σ = [some (.ref l), some (.int z), some (.str nm), some (.int (k : Int))] ∧ i + XM.lead (OF F) nm (row.drop i) = k + XM.lead (OF F) nm (row.drop k),
      ⟨_, rfl, i, rfl, hi, by rw [← ez]; rfl, rfl⟩, ?_⟩
    rintro m σ H' ⟨rfl, k, rfl, hk, rfl, e⟩
    refine ⟨_, rfl, _, rfl, l, xs, rfl, hS, _, _, rfl, rfl, _, rfl, ?_⟩
    rw [hl]
    by_cases hlt : k < row.length
    · rw [show decide ((k : Int) < (row.length : Int)) = true from decide_eq_true (by omega)]
      have hs : row[k]? = some row[k] := List.getElem?_eq_getElem hlt
      generalize row[k] = s at hs
      obtain ⟨b, hb, cb⟩ := hD.step hs
      refine iteT ⟨_, rfl, _, rfl, _, _, _, _, rfl, rfl, hS, at_of (j := k) rfl hb, _, _, _, _, rfl, rfl, cb, rfl, _, rfl, _, _, rfl, rfl, _, rfl, ?_⟩
      rw [drop_at hs] at e
      have e : i + XM.lead (OF F) nm (row.drop i) = k + (if sLt s.1 nm then XM.lead (OF F) nm (row.drop (k + 1)) + 1 else 0) := e
      cases hc : sLt s.1 nm
      · rw [hc] at e
        rw [show decide (s.1.cps.toList < nm.cps.toList) = false from hc]
        refine iteF ⟨_, rfl, ?_⟩
        rw [e] at q
        exact q
      · rw [hc, if_pos rfl] at e
        rw [show decide (s.1.cps.toList < nm.cps.toList) = true from hc]
        refine iteT ⟨fun σ' H'' => H'' = H' ∧ σ' = [some (.ref l), some (.int z), some (.str nm), some (.int ((k + 1 : Nat) : Int))], fun σ' H'' h => ?_, ?_⟩
        · obtain ⟨rfl, rfl⟩ := h
          exact ⟨row.length - (k + 1), by omega, rfl, k + 1, rfl, hlt, rfl, by omega⟩
        · exact ⟨_, rfl, _, _, rfl, rfl, rfl, rfl⟩
    · rw [show decide ((k : Int) < (row.length : Int)) = false from decide_eq_false (by omega)]
      refine iteF (iteF ⟨_, rfl, ?_⟩)
      rw [e, show row.drop k = [] from List.drop_eq_nil_iff.mpr (by omega)] at q
      exact q
end
end XB
set_option Elab.async false
set_option linter.all false
set_option maxRecDepth 100000
set_option maxHeartbeats 4000000
/-! comprehensions with two fors; data that stand where all stands -/
namespace XB
open PySem PySem.Spec PyProof.Rows L2
theorem pi_tupk {X : Cx} {tg e : Expr} {te : TE} {K : PySem.W.Frag} (hk : X.K = K) (he : PE X e te) : PI X tg e (iTup K te) := by
  subst hk
  exact pi_tup he
theorem pi_listk {X : Cx} {tg e : Expr} {te : TE} {K : PySem.W.Frag} (hk : X.K = K) (he : PE X e te) : PI X tg e (iList K te) := by
  subst hk
  exact pi_list he
theorem cr_allk {X : Cx} {K : PySem.W.Frag} (hk : X.K = K) (hc : X.calm = true) : CallR X (.builtin "all") (rAll K) := by
  subst hk
  exact cr_all hc
theorem pi_enumk {X : Cx} {K : PySem.W.Frag} (hk : X.K = K) {e : Expr} {ta : TA} {p pos tpos : Pos} {elts : List Expr} {kk : Nat} (hg : Gl X "enumerate") (hm : X.mg "enumerate" = none) (ha : PA X [e] ta) (hs : starEach [e] X.env = [(false, eval e X.env)] := by rfl) :
    PI X (.Tuple elts kk tpos) (.Call (.Name "enumerate" p) [e] [] pos) (iEnum K ta) := by
  subst hk
  exact pi_enum hg hm ha hs
theorem pt_truthk {X : Cx} {K : PySem.W.Frag} (hk : X.K = K) {a : Expr} {ta : TE} (ha : PE X a ta) (he : ∀ whole, isTrue a X.env whole = (do let v ← whole; standAt a.pos; holding [v] (truthy v)) := by intro _; rfl) : PT X a (fun σ H Q => ta σ H fun x H' => ∃ k, TruV K x H' k ∧ Q k H') := by
  subst hk
  exact pt_truth ha he
/-- the inner for -/
def Lc2In (J1 : It) (g1 : TG) (tt1 : TT) (te : TE) (vs1 : List Nat) (σ2 : L2.St) (D : Addr) (Nx : Hp → Prop) (H4 : Hp) : Prop :=
  ∃ W1 : Nat → Nat → Hp → Prop, (∃ m, W1 0 m H4) ∧ ∀ j k H, W1 j k H →
      (J1.stop j H ∧ Nx H) ∨ (J1.go j H ∧ ∃ Nx1 : Hp → Prop, (∀ H', Nx1 H' → ∃ k', k' < k ∧ W1 (j + 1) k' H') ∧ ∀ x H', J1.yld j H x H' → g1 x (wipe σ2 vs1) H' fun σ3 H5 => wipe σ3 vs1 = wipe σ2 vs1 ∧ tt1 σ3 H5 fun b H6 =>
        if b = true then te σ3 H6 fun y H7 => ∃ acc, H7 D = some (.lst acc) ∧ acc.length < sizeLine ∧ Nx1 (upd H7 D (.lst (acc ++ [y]))) else Nx1 H6)
theorem lc2_in {J1 : It} {n1 : Nat} {G1 : Hp → Prop} {Y1 : Nat → Hp → V → Hp → Prop} (w : Walk J1 n1 G1 Y1) {g1 : TG} {tt1 : TT} {te : TE} {vs1 : List Nat} {σ2 : L2.St} {D : Addr} {Nx : Hp → Prop} {H4 : Hp} (Pv : Nat → Hp → Prop) (h0 : Pv 0 H4) (hG : ∀ i H, i ≤ n1 → Pv i H → G1 H)
    (hs : ∀ i x H H', i < n1 → Pv i H → Y1 i H x H' → g1 x (wipe σ2 vs1) H' fun σ3 H5 => wipe σ3 vs1 = wipe σ2 vs1 ∧ tt1 σ3 H5 fun b H6 =>
      if b = true then te σ3 H6 fun y H7 => ∃ acc, H7 D = some (.lst acc) ∧ acc.length < sizeLine ∧ Pv (i + 1) (upd H7 D (.lst (acc ++ [y]))) else Pv (i + 1) H6) (hd : ∀ H, Pv n1 H → Nx H) : Lc2In J1 g1 tt1 te vs1 σ2 D Nx H4 := by
  refine ⟨fun i m H => m = n1 - i ∧ i ≤ n1 ∧ Pv i H, ⟨n1, by simp, Nat.zero_le _, h0⟩, ?_⟩
  rintro i m H ⟨rfl, hi, p⟩
  have q := hG i H hi p
  by_cases hlt : i < n1
  · refine .inr ⟨w.goes i H hlt q, Pv (i + 1), fun H' p' => ⟨n1 - (i + 1), by omega, rfl, hlt, p'⟩, fun x H' y => hs i x H H' hlt p (w.yields i H x H' hlt q y)⟩
  · have e : i = n1 := by omega
    subst e
    exact .inl ⟨w.stops H q, hd H p⟩
theorem lc2_out {J : It} {n : Nat} {G : Hp → Prop} {Y : Nat → Hp → V → Hp → Prop} (w : Walk J n G Y) {wi1 : TI} {g g1 : TG} {tt tt1 : TT} {te : TE} {vs vs1 : List Nat} {σ : L2.St} {H1 : Hp} {D : Addr} {Qd : Hp → Prop} (Pv : Nat → Hp → Prop) (h0 : Pv 0 (upd H1 D (.lst []))) (hG : ∀ i H, i ≤ n → Pv i H → G H)
    (hs : ∀ i x H H', i < n → Pv i H → Y i H x H' → g x (wipe σ vs) H' fun σ2 H2 => wipe σ2 vs = wipe σ vs ∧ tt σ2 H2 fun b H3 =>
      if b = true then wi1 σ2 H3 fun J1 H4 => Lc2In J1 g1 tt1 te vs1 σ2 D (Pv (i + 1)) H4 else Pv (i + 1) H3) (hd : ∀ H, Pv n H → Qd H) :
    ∃ W : Nat → Nat → Hp → Prop, (∃ m, W 0 m (upd H1 D (.lst []))) ∧ ∀ i m H, W i m H →
      (J.stop i H ∧ Qd H) ∨ (J.go i H ∧ ∃ Nx : Hp → Prop, (∀ H', Nx H' → ∃ m', m' < m ∧ W (i + 1) m' H') ∧ ∀ x H', J.yld i H x H' → g x (wipe σ vs) H' fun σ2 H2 => wipe σ2 vs = wipe σ vs ∧ tt σ2 H2 fun b H3 =>
        if b = true then wi1 σ2 H3 fun J1 H4 => Lc2In J1 g1 tt1 te vs1 σ2 D Nx H4 else Nx H3) := by
  refine ⟨fun i m H => m = n - i ∧ i ≤ n ∧ Pv i H, ⟨n, by simp, Nat.zero_le _, h0⟩, ?_⟩
  rintro i m H ⟨rfl, hi, p⟩
  have q := hG i H hi p
  by_cases hlt : i < n
  · refine .inr ⟨w.goes i H hlt q, Pv (i + 1), fun H' p' => ⟨n - (i + 1), by omega, rfl, hlt, p'⟩, fun x H' y => hs i x H H' hlt p (w.yields i H x H' hlt q y)⟩
  · have e : i = n := by omega
    subst e
    exact .inl ⟨w.stops H q, hd H p⟩
theorem sqL_same {K : PySem.W.Frag} {H H' : Hp} {a : Addr} {xs : List V} (s : Same H H') (h : SqL K H a xs) : SqL K H' a xs := s.seq h
mutual
theorem Dp.sm {K : PySem.W.Frag} {H H' : Hp} (s : Same H H') : ∀ (d : PyData) {v : V}, Dp K H v d → Dp K H' v d
  | .none, _, h => by cases h; exact .non
  | .bool b, _, h => by cases h; exact .bl b
  | .int i, _, h => by cases h; exact .int i
  | .str x, _, h => by cases h; exact .str x
  | .list ds, _, h => by
    cases h with
    | lst h1 h2 => exact .lst (s.seq h1) (DpAll.sm s ds h2)
  | .tuple ds, _, h => by
    cases h with
    | tup h1 h2 => exact .tup ((Tk.of s).sqT h1) (DpAll.sm s ds h2)
  | .dict _, _, h => by cases h
theorem DpAll.sm {K : PySem.W.Frag} {H H' : Hp} (s : Same H H') : ∀ (ds : List PyData) {vs : List V}, DpAll K H vs ds → DpAll K H' vs ds
  | [], _, h => by cases h; exact .nil
  | d :: ds, _, h => by
    cases h with
    | cons h1 h2 => exact .cons (Dp.sm s d h1) (DpAll.sm s ds h2)
end
/-- a list of data -/
def RowG (K : PySem.W.Frag) (H : Hp) (D : Addr) (ds : List PyData) : Prop := ∃ xs, H D = some (.lst xs) ∧ DpAll K H xs ds
theorem RowG.same {K : PySem.W.Frag} {H H' : Hp} {D : Addr} {ds : List PyData} (h : RowG K H D ds) (s : Same H H') : RowG K H' D ds := by
  obtain ⟨xs, e, v⟩ := h
  exact ⟨xs, s _ _ e, DpAll.sm s ds v⟩
theorem rowCatG {K : PySem.W.Frag} {H : Hp} {a b : Addr} {l m : List PyData} {Q : VK} (h1 : RowG K H a l) (h2 : RowG K H b m) (hl : l.length + m.length ≤ 9000) (q : ∀ H' p, Same H H' → H p = none → RowG K H' p (l ++ m) → Q (.ref p) H') : rCat (.ref a) (.ref b) H Q := by
  obtain ⟨xs, e1, v1⟩ := h1
  obtain ⟨ys, e2, v2⟩ := h2
  have l1 := v1.len
  have l2 := v2.len
  refine catL e1 e2 (Nat.le_trans (show xs.length + ys.length ≤ 9000 by omega) (by decide)) fun H' p s hp e => q H' p s hp ⟨_, e, ?_⟩
  exact (DpAll.sm s l v1).app (DpAll.sm s m v2)
end XB
set_option Elab.async false
set_option linter.all false
/-! len and isinstance inside a comprehension's block -/
namespace XB
open PySem PySem.Spec PyProof.Rows L2
theorem pe_lenSk {X : Cx} {K : PySem.W.Frag} {e : Expr} {te : TE} {p pos : Pos} (hk : X.K = K) (hg : Gl X "len") (hm : X.mg "len" = none) (he : PE X e te) (h1 : starEach [e] X.env = (false, eval e X.env) :: starEach [] X.env := by rfl) :
    PE X (.Call (.Name "len" p) [e] [] pos) (tCB (fun xs H Q => ∃ p ys, xs = [V.ref p] ∧ (SqL K H p ys ∨ SqT K H p ys) ∧ Q (.int ys.length) H) (tCons te tNil)) := by
  subst hk
  exact pe_lenS hg hm he h1
theorem pe_isTk {X : Cx} {K : PySem.W.Frag} {x : Str} {e : Expr} {te : TE} {p q pos : Pos} (hk : X.K = K) (T : String) (hgI : Gl X "isinstance") (hmI : X.mg "isinstance" = none) (hgT : Gl X x) (hmT : X.mg x = none) (hv : bootBuiltins x = some (.type T)) (he : PE X e te)
    (hn : x ≠ "__name__" := by decide) (hdb : (x == ("__debug__" : Str)) = false := by decide)
    (h1 : starEach [e, .Name x q] X.env = (false, eval e X.env) :: starEach [.Name x q] X.env := by rfl) (h2 : starEach [.Name x q] X.env = (false, eval (.Name x q) X.env) :: starEach [] X.env := by rfl) :
    PE X (.Call (.Name "isinstance" p) [e, .Name x q] [] pos) (tCB (rIsi K) (tCons te (tCons (tC (.ty T)) tNil))) := by
  subst hk
  exact pe_isT T hgI hmI hgT hmT hv he hn hdb h1 h2
end XB
set_option Elab.async false
set_option linter.all false
set_option maxRecDepth 100000
set_option maxHeartbeats 4000000
namespace XB
open PySem PySem.Spec PyProof.Rows L2
/-! what the program takes for a name, for names: of any data -/
def okLetter (c : Nat) : Bool := decide (97 ≤ c) && decide (c ≤ 122)
def nameD : PyData → Bool
  | .str s => decide (1 ≤ s.length) && decide (s.length ≤ 6) && s.cps.toList.all okLetter
  | _ => false
/-- whether the texts rise -/
def ascS (l : List Str) : Bool := ((l.zip (l.drop 1)).map fun p => sLt p.1 p.2).all id
def strOf : PyData → Str
  | .str s => s
  | _ => ""
def namesD : PyData → Bool
  | .tuple ds => decide (1 ≤ ds.length) && decide (ds.length ≤ 6) && (ds.all nameD && ascS (ds.map strOf))
  | _ => false
theorem names_strs : ∀ {ds : List PyData}, ds.all nameD = true → ds = (ds.map strOf).map PyData.str
  | [], _ => rfl
  | d :: ds, h => by
    rw [List.all_cons, Bool.and_eq_true] at h
    rw [List.map_cons, List.map_cons, ← names_strs h.2]
    congr 1
    cases d <;> first | rfl | cases h.1
/-- no text is too long -/
def TextsOk (d : PyData) : Prop := ∀ s, d = .str s → s.length ≤ 100000
section
variable {P : Program} {w : World} {K : PySem.W.Frag} {mg : Str → Option Value} {base : Heap}
def spNameD (K : PySem.W.Frag) : Sp := fun vs H Q _ => ∃ (v : V) (d : PyData), vs = [v] ∧ Dp K H v d ∧ TextsOk d ∧ ∀ H', Same H H' → Q (.bl (nameD d)) H'
theorem c_is_nameD (T : Tx K mg) : Cl P w K mg base CX0 1 "is_name" (spNameD K) := by
  refine cl0 T.d_is_name (ps := ["value"]) (fun _ _ _ _ _ _ us hl => match us, hl with | [_], _ => rfl) sc_is_name (fun vs H Q E h => ?_) (fun f cdv A outer st H vs Q E hr h => ?_)
  · obtain ⟨v, d, rfl, _⟩ := h
    rfl
  · obtain ⟨v, d, rfl, hd, tx, q⟩ := h
    have nd := sc_is_name.nd
    obtain ⟨tk, h_MOST_LETTERS⟩ := T.g_MOST_LETTERS
    refine ⟨_, pss_cons (ps_if (PW.pt (pw_or (pt_not (pt_val (pe_isT "str" (by rfl) T.b_isinstance (by rfl) T.b_str (by decide +kernel) (pv 0)))) (pw_or1 (pt_not (pt_chain op_le op_le pe_int (pe_lenT (by rfl) T.b_len (pv 0)) (pe_glob (v := .int 6) (by rfl) h_MOST_LETTERS ⟨_, rfl⟩)))))) (pss_one (ps_ret pe_bl)) pss_nil)
      (pss_one (ps_ret (pe_callB (cr_all rfl) (by rfl) T.b_all (by decide +kernel) (pa_cons (pe_lc (own := [("letter", 1)]) (g := gName 1) (tt := tYes) (by rfl) nd (pi_str (pv 0))
        (blkOk_by (own := [("letter", 1)]) (N := ["value", "letter"]) (sc := defScope s_is_name) (by decide +kernel)) (fun _ _ _ _ _ => pg_name (i := 1) nd rfl (Or.inl rfl)) (fun _ _ _ _ _ => pts_nil) (fun _ _ _ _ _ => pe_chain op_le_str op_le_str pe_str (pv 1) pe_str)) pa_nil)))), ?_⟩
    refine ⟨_, rfl, v, .ty "str", _, _, _, rfl, .ty _, tyx_data hd, kit_data (by simp) hd, _, rfl, ?_⟩
    cases d with
    | str s =>
      cases hd
      have s1000 := tx s rfl
      have hsz : s.length ≤ sizeLine := Nat.le_trans s1000 (by decide)
      refine iteF ?_
      refine ⟨_, rfl, s, rfl, hsz, _, _, rfl, rfl, _, rfl, ?_⟩
      have e1 : decide ((1 : Int) ≤ (s.length : Int)) = decide (1 ≤ s.length) := decide_eq_decide.mpr (by omega)
      have e2 : decide ((s.length : Int) ≤ 6) = decide (s.length ≤ 6) := decide_eq_decide.mpr (by omega)
      rw [e1]
      by_cases h1 : 1 ≤ s.length
      · rw [decide_eq_true h1]
        refine iteT ⟨_, _, rfl, rfl, _, rfl, ?_⟩
        rw [e2]
        by_cases h6 : s.length ≤ 6
        · rw [decide_eq_true h6]
          refine iteF ?_
          refine ⟨_, rfl, s, rfl, fun D hD => ?_⟩
          refine lc_it walk_str (fun i H' => H' D = some (.lst (((s.cps.toList.take i).map okLetter).map V.bl)) ∧ Same H H') ⟨upd_same, same_upd hD⟩ (fun _ _ _ _ => True.intro) (fun i x H2 H3 hi ⟨eD, s'⟩ hy => ?_) (fun H2 ⟨eD, s'⟩ => ?_)
          · obtain ⟨rfl, c, hc, rfl⟩ := hy
            rw [← Array.getElem?_toList] at hc
            refine ⟨rfl, yes_ ?_⟩
            refine ⟨_, rfl, _, _, rfl, rfl, _, rfl, ?_⟩
            have e1 : (!decide ((⟨#[c]⟩ : Str).cps.toList < ("a" : Str).cps.toList)) = decide (97 ≤ c) := by
              show (!decide ([c] < [97])) = _
              rw [← decide_not]
              refine decide_eq_decide.mpr ?_
              simp [List.cons_lt_cons_iff]
            have e2 : (!decide (("z" : Str).cps.toList < (⟨#[c]⟩ : Str).cps.toList)) = decide (c ≤ 122) := by
              show (!decide ([122] < [c])) = _
              rw [← decide_not]
              refine decide_eq_decide.mpr ?_
              simp [List.cons_lt_cons_iff]
            rw [e1]
            have fin : ∀ b, b = okLetter c → ∃ acc, H3 D = some (.lst acc) ∧ acc.length < sizeLine ∧ upd H3 D (.lst (acc ++ [V.bl b])) D = some (.lst (((s.cps.toList.take (i + 1)).map okLetter).map V.bl)) ∧ Same H (upd H3 D (.lst (acc ++ [V.bl b]))) := fun b hb => by
              refine ⟨_, eD, ?_, ?_, same_put s' hD⟩
              · rw [List.length_map, List.length_map, List.length_take]
                exact small1000 (Nat.le_trans (Nat.min_le_left _ _) (by
                  have : s.cps.size = s.length := rfl
                  omega))
              · rw [upd_same, take_snoc hc, List.map_append, List.map_append, hb]
                rfl
            by_cases ha : 97 ≤ c
            · rw [decide_eq_true ha]
              refine iteT ⟨_, _, rfl, rfl, ?_⟩
              rw [e2]
              exact fin _ (by unfold okLetter; rw [decide_eq_true ha, Bool.true_and])
            · rw [decide_eq_false ha]
              exact iteF (fin _ (by unfold okLetter; rw [decide_eq_false ha, Bool.false_and]))
          · refine ⟨D, (s.cps.toList.map okLetter), rfl, SqL.of ?_, ?_⟩
            · rw [eD, List.take_of_length_le (by simp)]
            · have e : (s.cps.toList.map okLetter).all id = nameD (.str s) := by
                show _ = (decide (1 ≤ s.length) && decide (s.length ≤ 6) && s.cps.toList.all okLetter)
                rw [decide_eq_true h1, decide_eq_true h6, List.all_map]
                rfl
              rw [e]
              exact q _ s'
        · rw [decide_eq_false h6]
          have e : nameD (.str s) = false := by
            show (decide (1 ≤ s.length) && decide (s.length ≤ 6) && _) = false
            rw [decide_eq_false h6, Bool.and_false, Bool.false_and]
          rw [e] at q
          exact iteT (q _ (Same.refl _))
      · rw [decide_eq_false h1]
        have e : nameD (.str s) = false := by
          show (decide (1 ≤ s.length) && decide (s.length ≤ 6) && _) = false
          rw [decide_eq_false h1, Bool.false_and, Bool.false_and]
        rw [e] at q
        exact iteF ⟨_, rfl, iteT (q _ (Same.refl _))⟩
    | _ => exact iteT (q _ (Same.refl _))
def spAscD (K : PySem.W.Frag) : Sp := fun vs H Q _ => ∃ (a : Addr) (l : List Str), vs = [.ref a] ∧ SqT K H a (l.map V.str) ∧ l.length ≤ 1000 ∧ ∀ H', Same H H' → Q (.bl (ascS l)) H'
theorem c_is_ascendingD (T : Tx K mg) : Cl P w K mg base CX0 1 "is_ascending" (spAscD K) := by
  refine cl0 T.d_is_ascending (ps := ["items"]) (fun _ _ _ _ _ _ us hl => match us, hl with | [_], _ => rfl) sc_is_ascending (fun vs H Q E h => ?_) (fun f cdv A outer st H vs Q E hr h => ?_)
  · obtain ⟨a, l, rfl, _⟩ := h
    rfl
  · obtain ⟨a, l, rfl, hS, hlen, q⟩ := h
    have nd := sc_is_ascending.nd
    have hu := hr.units
    refine ⟨_, pss_one (ps_ret (pe_callB (cr_all rfl) (by rfl) T.b_all (by decide +kernel) (pa_cons (pe_lc (own := [("one", 1), ("other", 2)]) (g := gTup K 2 (gCons (gName 1) (gCons (gName 2) gNil))) (tt := tYes) (by rfl) nd
        (RZ.pi_zipA (by rfl) T.b_zip (pa_cons (pv 0) (pa_cons (pe_slice sl_tupA (pv 0) (po_some pe_int) po_none) pa_nil)))
        (blkOk_by (own := [("one", 1), ("other", 2)]) (N := ["items", "one", "other"]) (sc := defScope s_is_ascending) (by decide +kernel))
        (fun _ _ _ _ _ => pg_tup rfl (pgs_cons (pg_name (i := 1) nd rfl (Or.inl rfl)) (pgs_cons (pg_name (i := 2) nd rfl (Or.inl rfl)) pgs_nil))) (fun _ _ _ _ _ => pts_nil) (fun _ _ _ _ _ => pe_cmpR op_lt_str (pv 1) (pv 2) (nomark _))) pa_nil))), ?_⟩
    refine ⟨_, rfl, _, rfl, 1, rfl, ?_⟩
    refine noPart ?_
    refine sl_tail hS (fun e => ?_) (fun hne b hb => ?_)
    · have e0 : l = [] := List.map_eq_nil_iff.mp e
      subst e0
      refine ⟨a, a, _, _, rfl, .inr ⟨hS, hS, fun D hD => ?_⟩⟩
      refine lc_it (walk_zipT (xs := []) (ys := []) rfl) (fun i H' => H' D = some (.lst []) ∧ Same H H') ⟨upd_same, same_upd hD⟩ (fun i H' _ ⟨_, s'⟩ => ⟨(Tk.of s').sqT hS, (Tk.of s').sqT hS⟩)
        (fun i x H2 H3 hi _ _ => absurd hi (Nat.not_lt_zero _)) (fun H2 ⟨eD, s'⟩ => ?_)
      exact ⟨D, [], rfl, SqL.of eD, q _ s'⟩
    · have hB : SqT K (upd H b (.tup ((l.map V.str).drop 1))) b ((l.drop 1).map V.str) := by
        rw [List.map_drop]
        exact SqT.of upd_same
      have hA := (Tk.of (same_upd (o := .tup ((l.map V.str).drop 1)) hb)).sqT hS
      have sm := same_upd (o := .tup ((l.map V.str).drop 1)) hb
      generalize upd H b (.tup ((l.map V.str).drop 1)) = H1 at hA hB sm ⊢
      refine ⟨a, b, _, _, rfl, .inr ⟨hA, hB, fun D hD => ?_⟩⟩
      refine lc_it (walk_zipT (xs := l.map V.str) (ys := (l.drop 1).map V.str) rfl) (fun i H' => H' D = some (.lst ((((l.zip (l.drop 1)).take i).map fun p => sLt p.1 p.2).map V.bl)) ∧ Same H1 H') ⟨upd_same, same_upd hD⟩ (fun i H' _ ⟨_, s'⟩ => ⟨(Tk.of s').sqT hA, (Tk.of s').sqT hB⟩)
        (fun i x H2 H3 hi ⟨eD, s'⟩ hy => ?_) (fun H2 ⟨eD, s'⟩ => ?_)
      · obtain ⟨Tt, x1, x2, rfl, nT, rfl, f1, f2⟩ := hy
        obtain ⟨y1, g1, rfl⟩ := str_at f1
        obtain ⟨y2, g2, rfl⟩ := str_at f2
        have nDT : D ≠ Tt := ne_of_none eD nT
        have gz : (l.zip (l.drop 1))[i]? = some (y1, y2) := by
          rw [List.getElem?_zip_eq_some]
          exact ⟨g1, g2⟩
        refine ⟨Tt, _, rfl, SqT.of upd_same, rfl, _, _, rfl, _, _, rfl, rfl, rfl, yes_ ?_⟩
        refine ⟨_, rfl, _, rfl, _, _, rfl, rfl, _, by rw [upd_ne nDT]; exact eD, ?_, ?_, ?_⟩
        · rw [List.length_map, List.length_map, List.length_take, List.length_zip]
          exact small1000 (by omega)
        · rw [upd_same, take_snoc gz, List.map_append, List.map_append]
          rfl
        · exact same_put (same_new s' nT) hD
      · refine ⟨D, (l.zip (l.drop 1)).map (fun p : Str × Str => sLt p.1 p.2), rfl, SqL.of ?_, q _ (sm.trans s')⟩
        rw [eD, List.take_of_length_le (by rw [List.length_zip, List.length_map, List.length_map]; omega)]
def spNamesD (K : PySem.W.Frag) : Sp := fun vs H Q _ => ∃ (v : V) (d : PyData), vs = [v] ∧ Dp K H v d ∧ (∀ ds, d = .tuple ds → ∀ x ∈ ds, TextsOk x) ∧ (∀ ds, d = .tuple ds → ds.length ≤ 100000) ∧ ∀ H', Same H H' → Q (.bl (namesD d)) H'
theorem c_are_namesD (T : Tx K mg) : Cl P w K mg base CX0 2 "are_names" (spNamesD K) := by
  refine cl0 T.d_are_names (ps := ["value"]) (fun _ _ _ _ _ _ us hl => match us, hl with | [_], _ => rfl) sc_are_names (fun vs H Q E h => ?_) (fun f cdv A outer st H vs Q E hr h => ?_)
  · obtain ⟨v, d, rfl, _⟩ := h
    rfl
  · obtain ⟨v, d, rfl, hd, tx, h5, q⟩ := h
    have nd := sc_are_names.nd
    obtain ⟨tk, hMN⟩ := T.g_MOST_NAMES
    refine ⟨_, pss_cons (ps_if (PW.pt (pw_or (pt_not (pt_val (pe_isT "tuple" (by rfl) T.b_isinstance (by rfl) T.b_tuple (by decide +kernel) (pv 0)))) (pw_or1 (pt_not (pt_chain op_le op_le pe_int (pe_lenS (by rfl) T.b_len (pv 0)) (pe_glob (v := .int 6) (by rfl) hMN ⟨_, rfl⟩)))))) (pss_one (ps_ret pe_bl)) pss_nil)
      (pss_one (ps_ret (pe_and (pe_callB (cr_all rfl) (by rfl) T.b_all (by decide +kernel) (pa_cons (pe_lc (own := [("item", 1)]) (g := gName 1) (tt := tYes) (by rfl) nd (pi_tup (pv 0))
        (blkOk_by (own := [("item", 1)]) (N := ["value", "item"]) (sc := defScope s_are_names) (by decide +kernel)) (fun _ _ _ _ _ => pg_name (i := 1) nd rfl (Or.inl rfl)) (fun _ _ _ _ _ => pts_nil) (fun _ _ _ _ _ => pe_k (c_is_nameD T) hr (by decide) (by rfl) (pa_cons (pv 1) pa_nil))) pa_nil))
        (pe_one (pe_k (c_is_ascendingD T) hr (by decide) (by rfl) (pa_cons (pv 0) pa_nil)))))), ?_⟩
    refine ⟨_, rfl, v, .ty "tuple", _, _, _, rfl, .ty _, tyx_data hd, kit_data (.inl rfl) hd, _, rfl, ?_⟩
    cases d with
    | tuple ds =>
      cases hd with
      | tup hS hV =>
      have hl := hV.len
      refine iteF ?_
      refine ⟨_, rfl, _, _, rfl, .inr hS, _, _, rfl, rfl, _, rfl, ?_⟩
      rw [hl]
      have e1 : decide ((1 : Int) ≤ (ds.length : Int)) = decide (1 ≤ ds.length) := decide_eq_decide.mpr (by omega)
      have e2 : decide ((ds.length : Int) ≤ 6) = decide (ds.length ≤ 6) := decide_eq_decide.mpr (by omega)
      rw [e1]
      have nm : namesD (.tuple ds) = (decide (1 ≤ ds.length) && decide (ds.length ≤ 6) && (ds.all nameD && ascS (ds.map strOf))) := rfl
      by_cases h1 : 1 ≤ ds.length
      · rw [decide_eq_true h1] at nm ⊢
        refine iteT ⟨_, _, rfl, rfl, _, rfl, ?_⟩
        rw [e2]
        by_cases h6 : ds.length ≤ 6
        · rw [decide_eq_true h6] at nm ⊢
          rw [Bool.true_and, Bool.true_and] at nm
          refine iteF ?_
          refine ⟨_, rfl, _, rfl, ⟨_, hS⟩, fun D hD => ?_⟩
          refine lc_it (walk_tup (xs := _)) (fun i H' => H' D = some (.lst (((ds.take i).map nameD).map V.bl)) ∧ Same H H') ⟨upd_same, same_upd hD⟩ (fun _ _ _ ⟨_, s'⟩ => (Tk.of s').sqT hS) (fun i x H2 H3 hi ⟨eD, s'⟩ hy => ?_) (fun H2 ⟨eD, s'⟩ => ?_)
          · obtain ⟨rfl, hx⟩ := hy
            obtain ⟨d, hd, hx2⟩ := hV.get hx
            refine ⟨rfl, yes_ ?_⟩
            refine ⟨_, rfl, _, d, rfl, Dp.sm s' _ hx2, tx ds rfl d (List.mem_of_getElem? hd), fun H4 s4 => ⟨_, s4 _ _ eD, ?_, ?_, same_put (s'.trans s4) hD⟩⟩
            · rw [List.length_map, List.length_map, List.length_take]
              exact small1000 (by omega)
            · rw [upd_same, take_snoc hd, List.map_append, List.map_append]
              rfl
          · refine ⟨D, ds.map nameD, rfl, SqL.of (by rw [eD, List.take_of_length_le (by omega)]), _, rfl, ?_⟩
            have ea : (ds.map nameD).all id = ds.all nameD := by
              rw [List.all_map]
              rfl
            rw [ea]
            by_cases hall : ds.all nameD = true
            · rw [hall]
              rw [hall, Bool.true_and] at nm
              refine iteT ⟨_, rfl, _, ds.map strOf, rfl, ?_, by rw [List.length_map]; omega, fun H3 s3 => ?_⟩
              · have eds := names_strs hall
                have : ∀ {xs : List V} {l : List Str}, DpAll K H xs (l.map PyData.str) → xs = l.map V.str := fun {xs l} h => by
                  induction l generalizing xs with
                  | nil =>
                    cases h
                    rfl
                  | cons a l ih =>
                    cases h with
                    | cons h1 h2 =>
                      cases h1
                      rw [List.map_cons, ih h2]
                rw [eds] at hV
                have ex := this hV
                rw [← ex]
                exact (Tk.of s').sqT hS
              · rw [← nm]
                exact q _ (s'.trans s3)
            · rw [Bool.eq_false_iff.mpr hall] at nm ⊢
              rw [Bool.false_and] at nm
              rw [nm] at q
              exact iteF (q _ s')
        · rw [decide_eq_false h6] at nm ⊢
          rw [Bool.and_false, Bool.false_and] at nm
          rw [nm] at q
          exact iteT (q _ (Same.refl _))
      · rw [decide_eq_false h1] at nm ⊢
        rw [Bool.false_and, Bool.false_and] at nm
        rw [nm] at q
        exact iteF ⟨_, rfl, iteT (q _ (Same.refl _))⟩
    | _ => exact iteT (q _ (Same.refl _))
end
end XB
set_option Elab.async false
set_option linter.all false
set_option maxRecDepth 100000
set_option maxHeartbeats 4000000
namespace XB
open PySem PySem.Spec PyProof.Rows L2
/-! need_field of any data, with its refusals -/
/-- the one pair of texts less than the other -/
def ltQ (p q : Str × Str) : Bool := if p.1 == q.1 then (if p.2 == q.2 then false else sLt p.2 q.2) else sLt p.1 q.1
def ascP (l : List (Str × Str)) : Bool := ((l.zip (l.drop 1)).map fun p => ltQ p.1 p.2).all id
def pairOfD (ns : List Str) : PyData → Bool
  | .tuple [.str a, .str b] => ns.contains a && (ns.contains b && sLt a b)
  | _ => false
def prOf : PyData → Str × Str
  | .tuple [.str a, .str b] => (a, b)
  | _ => ("", "")
def pairsD (ns : List Str) : PyData → Bool
  | .tuple ds => ds.all (pairOfD ns) && ascP (ds.map prOf)
  | _ => false
def strsOf : PyData → List Str
  | .tuple ds => ds.map strOf
  | _ => []
/-- the part in which a thing is no field -/
def fieldRef : PyData → Option Str
  | .tuple [a, b] => if namesD a then (if pairsD (strsOf a) b then none else some "pairs") else some "names"
  | _ => some "form"
theorem pairs_prs {ns : List Str} : ∀ {ds : List PyData}, ds.all (pairOfD ns) = true → ds = (ds.map prOf).map dPair
  | [], _ => rfl
  | d :: ds, h => by
    rw [List.all_cons, Bool.and_eq_true] at h
    rw [List.map_cons, List.map_cons, ← pairs_prs h.2]
    congr 1
    match d, h.1 with
    | .tuple [.str a, .str b], _ => rfl
/-- no row is too long -/
def RowsOk (d : PyData) : Prop := ∀ ds, d = .tuple ds → ds.length ≤ 10000
/-- a refusal by the class x, with its field -/
def RefE (K : PySem.W.Frag) (mg : Str → Option Value) (H : Hp) (E : XK) (x f : Str) (y : V) : Prop := ∀ C H' dx, mg x = some (.ref C) → ExcC K C → Same H H' → H' dx = some (.xd [(f, y)]) → E (.ref C) (some dx) H'
theorem RefE.from {K : PySem.W.Frag} {mg : Str → Option Value} {H H1 : Hp} {E : XK} {x f : Str} {y : V} (q : RefE K mg H E x f y) (s : Same H H1) : RefE K mg H1 E x f y := fun C H' dx hC hT s' ed => q C H' dx hC hT (s.trans s') ed
theorem shaped_memN {ds : List PyData} (h : SeqAt.shaped (.tuple ds) = true) : ∀ d ∈ ds, SeqAt.shaped d = true := by
  have h : (PyData.canLay0 (.tuple ds) && decide (PyData.depth (.tuple ds) ≤ 64)) = true := h
  rw [Bool.and_eq_true, decide_eq_true_eq] at h
  obtain ⟨h1, h2⟩ := h
  have h1 : PyData.canLayAll0 ds = true := h1
  rw [PyData.depth] at h2
  have go : ∀ ds : List PyData, PyData.canLayAll0 ds = true → PyData.depthAll ds ≤ 64 → ∀ d ∈ ds, SeqAt.shaped d = true := fun ds => by
    induction ds with
    | nil => exact fun _ _ d hd => nomatch hd
    | cons a ds ih =>
      intro h1 h2 d hd
      have h1 : (PyData.canLay0 a && PyData.canLayAll0 ds) = true := h1
      rw [Bool.and_eq_true] at h1
      rw [PyData.depthAll] at h2
      rcases List.mem_cons.mp hd with e | hd
      · rw [e]
        show (PyData.canLay0 a && decide (PyData.depth a ≤ 64)) = true
        rw [h1.1, Bool.true_and]
        exact decide_eq_true (by omega)
      · exact ih h1.2 (by omega) d hd
  exact go ds h1 (by omega)
theorem small1e4 {n : Nat} (h : n ≤ 10000) : n < sizeLine := Nat.lt_of_le_of_lt h (by decide)
section
variable {P : Program} {w : World} {K : PySem.W.Frag} {mg : Str → Option Value} {base : Heap}
theorem c_BadField (T : Tx K mg) : MkE P w K mg base 1 "BadField" "part" := by
  refine mke0 T.e_BadField (ps := ["self", "part"]) rfl (fun _ _ _ _ _ _ us hl => match us, hl with | [_, _], _ => rfl) (fun _ _ _ _ _ _ _ _ => rfl) sc_BadField___init__ (fun C fI cdv A outer st H vs Q E hC hm hr h => ?_)
  obtain ⟨a, y, rfl, e, q⟩ := h
  exact ⟨_, pss_one (ps_osG (pv 0) (pv 1)), _, rfl, _, rfl, a, C, rfl, hC, T.n_BadField_part C hm, e, q⟩
def spPairOfD (K : PySem.W.Frag) : Sp := fun vs H Q _ => ∃ (n : Addr) (v : V) (ns : List Str) (d : PyData), vs = [.ref n, v] ∧ SqT K H n (ns.map V.str) ∧ SeqAt.shaped (.tuple (ns.map PyData.str)) = true ∧ Dp K H v d ∧ SeqAt.shaped d = true ∧ Q (.bl (pairOfD ns d)) H
theorem c_is_pair_ofD (T : Tx K mg) : Cl P w K mg base CX0 2 "is_pair_of" (spPairOfD K) := by
  refine cl0 T.d_is_pair_of (ps := ["names", "value"]) (fun _ _ _ _ _ _ us hl => match us, hl with | [_, _], _ => rfl) sc_is_pair_of (fun vs H Q E h => ?_) (fun f cdv A outer st H vs Q E hr h => ?_)
  · obtain ⟨n, v, ns, d, rfl, _⟩ := h
    rfl
  · obtain ⟨n, v, ns, d, rfl, hN, sN, hd, sd, q⟩ := h
    have nd := sc_is_pair_of.nd
    have hu := u65 hr
    refine ⟨_, (pss_cons (ps_if (pt_not (pt_val (pe_k (c_is_pairD T) hr (by decide) (by rfl) (pa_cons (pv 1) pa_nil)))) (pss_one (ps_ret pe_bl)) pss_nil)
    (pss_cons (ps_asg (pv 1) (pg_tup rfl (pgs_cons (pg_name (i := 2) nd rfl (.inl rfl)) (pgs_cons (pg_name (i := 3) nd rfl (.inl rfl)) pgs_nil))))
    (pss_one (ps_ret (pe_and (pe_cmpR (op_inDTk (K := K) rfl hu) (pv 2) (pv 0) (by rfl)) (pe_and (pe_cmpR (op_inDTk (K := K) rfl hu) (pv 3) (pv 0) (by rfl)) (pe_one (pe_cmpR op_lt_str (pv 2) (pv 3) (nomark _))))))))), ?_⟩
    refine ⟨_, rfl, v, d, rfl, hd, _, rfl, ?_⟩
    by_cases hp : pairD d = true
    · rw [hp]
      obtain ⟨x, y, rfl⟩ : ∃ x y, d = .tuple [x, y] := by
        match d, hp with
        | .tuple [x, y], _ => exact ⟨x, y, rfl⟩
      obtain ⟨sx, sy⟩ := shaped_two sd
      cases hd with
      | tup hS hV =>
      cases hV with
      | cons hx hV =>
      cases hV with
      | cons hy hV =>
      cases hV
      refine iteF ⟨_, rfl, _, _, rfl, hS, rfl, _, _, rfl, _, _, rfl, rfl, ?_⟩
      refine ⟨_, rfl, _, rfl, x, _, hx, .tup hN (DpAll.strs ns), sx, sN, _, rfl, ?_⟩
      rw [any_strs]
      cases x with
      | str a =>
        by_cases ha : ns.contains a = true
        · show if ns.contains a = true then _ else _
          rw [if_pos ha]
          refine ⟨_, rfl, _, rfl, y, _, hy, .tup hN (DpAll.strs ns), sy, sN, _, rfl, ?_⟩
          rw [any_strs]
          cases y with
          | str b =>
            by_cases hb : ns.contains b = true
            · show if ns.contains b = true then _ else _
              rw [if_pos hb]
              cases hx
              cases hy
              refine ⟨_, rfl, _, rfl, a, b, rfl, rfl, ?_⟩
              have e : pairOfD ns (.tuple [.str a, .str b]) = sLt a b := by
                show (ns.contains a && (ns.contains b && sLt a b)) = _
                rw [ha, hb, Bool.true_and, Bool.true_and]
              rw [e] at q
              exact q
            · show if ns.contains b = true then _ else _
              rw [if_neg hb]
              have e : pairOfD ns (.tuple [.str a, .str b]) = false := by
                show (ns.contains a && (ns.contains b && sLt a b)) = _
                rw [Bool.eq_false_iff.mpr hb, Bool.false_and, Bool.and_false]
              rw [e] at q
              exact q
          | _ => exact q
        · show if ns.contains a = true then _ else _
          rw [if_neg ha]
          have e : pairOfD ns (.tuple [.str a, y]) = false := by
            cases y with
            | str b =>
              show (ns.contains a && (ns.contains b && sLt a b)) = _
              rw [Bool.eq_false_iff.mpr ha, Bool.false_and]
            | _ => rfl
          rw [e] at q
          exact q
      | _ => exact q
    · rw [Bool.eq_false_iff.mpr hp]
      have e : pairOfD ns d = false := by
        match d, hp with
        | .none, _ => rfl
        | .bool _, _ => rfl
        | .int _, _ => rfl
        | .str _, _ => rfl
        | .list _, _ => rfl
        | .dict _, _ => rfl
        | .tuple [], _ => rfl
        | .tuple [x], _ => cases x <;> rfl
        | .tuple [_, _], h => exact absurd rfl h
        | .tuple (x :: y :: _ :: _), _ => cases x <;> first | rfl | (cases y <;> rfl)
      rw [e] at q
      exact iteT q
def spAscPD (K : PySem.W.Frag) : Sp := fun vs H Q _ => ∃ (a : Addr) (xs : List V) (l : List (Str × Str)), vs = [.ref a] ∧ SqT K H a xs ∧ DpAll K H xs (l.map dPair) ∧ l.length ≤ 10000 ∧ ∀ H', Same H H' → Q (.bl (ascP l)) H'
theorem c_is_ascendingP (T : Tx K mg) : Cl P w K mg base CX0 1 "is_ascending" (spAscPD K) := by
  refine cl0 T.d_is_ascending (ps := ["items"]) (fun _ _ _ _ _ _ us hl => match us, hl with | [_], _ => rfl) sc_is_ascending (fun vs H Q E h => ?_) (fun f cdv A outer st H vs Q E hr h => ?_)
  · obtain ⟨a, xs, l, rfl, _⟩ := h
    rfl
  · obtain ⟨a, vs', l, rfl, hS, hD, hlen, q⟩ := h
    have nd := sc_is_ascending.nd
    have hu := hr.units
    refine ⟨_, pss_one (ps_ret (pe_callB (cr_all rfl) (by rfl) T.b_all (by decide +kernel) (pa_cons (pe_lc (own := [("one", 1), ("other", 2)]) (g := gTup K 2 (gCons (gName 1) (gCons (gName 2) gNil))) (tt := tYes) (by rfl) nd
      (RZ.pi_zipA (by rfl) T.b_zip (pa_cons (pv 0) (pa_cons (pe_slice sl_tupA (pv 0) (po_some pe_int) po_none) pa_nil)))
      (blkOk_by (own := [("one", 1), ("other", 2)]) (N := ["items", "one", "other"]) (sc := defScope s_is_ascending) (by decide +kernel))
      (fun _ _ _ _ _ => pg_tup rfl (pgs_cons (pg_name (i := 1) nd rfl (Or.inl rfl)) (pgs_cons (pg_name (i := 2) nd rfl (Or.inl rfl)) pgs_nil))) (fun _ _ _ _ _ => pts_nil) (fun _ _ _ _ _ => pe_cmpR (op_ltSSk (K := K) rfl hu) (pv 1) (pv 2) (nomark _))) pa_nil))), ?_⟩
    refine ⟨_, rfl, _, rfl, 1, rfl, ?_⟩
    have hl := hD.len
    rw [List.length_map] at hl
    refine noPart ?_
    refine sl_tail hS (fun e => ?_) (fun hne b hb => ?_)
    rotate_left
    · have hB : SqT K (upd H b (.tup (vs'.drop 1))) b (vs'.drop 1) := SqT.of upd_same
      have hA := (Tk.of (same_upd (o := .tup (vs'.drop 1)) hb)).sqT hS
      have sm := same_upd (o := .tup (vs'.drop 1)) hb
      generalize upd H b (.tup (vs'.drop 1)) = H1 at hA hB sm ⊢
      refine ⟨a, b, _, _, rfl, .inr ⟨hA, hB, fun D hD' => ?_⟩⟩
      have lz : (l.zip (l.drop 1)).length = min vs'.length (vs'.drop 1).length := by rw [List.length_zip, List.length_drop, List.length_drop, hl]
      refine lc_it (walk_zipT (xs := vs') (ys := vs'.drop 1) rfl) (fun i H' => H' D = some (.lst ((((l.zip (l.drop 1)).take i).map fun p => ltQ p.1 p.2).map V.bl)) ∧ Same H1 H') ⟨upd_same, same_upd hD'⟩ (fun i H' _ ⟨_, s'⟩ => ⟨(Tk.of s').sqT hA, (Tk.of s').sqT hB⟩)
        (fun i x H2 H3 hi ⟨eD, s'⟩ hy => ?_) (fun H2 ⟨eD, s'⟩ => ?_)
      · obtain ⟨Tt, x1, x2, rfl, nT, rfl, f1, f2⟩ := hy
        have f1 : vs'[i]? = some x1 := f1
        have f2 : (vs'.drop 1)[i]? = some x2 := f2
        have hi : i < min vs'.length (vs'.drop 1).length := hi
        rw [List.getElem?_drop] at f2
        obtain ⟨d1, g1, p1⟩ := hD.get f1
        obtain ⟨d2, g2, p2⟩ := hD.get f2
        rw [List.getElem?_map] at g1 g2
        obtain ⟨y1, k1, rfl⟩ := Option.map_eq_some_iff.mp g1
        obtain ⟨y2, k2, rfl⟩ := Option.map_eq_some_iff.mp g2
        obtain ⟨b1, rfl, c1⟩ := p1.pair
        obtain ⟨b2, rfl, c2⟩ := p2.pair
        have kT : Tk H (upd H2 Tt (.tup [.ref b1, .ref b2])) := (Tk.of (sm.trans s')).new nT
        have nDT : D ≠ Tt := ne_of_none eD nT
        have gz : (l.zip (l.drop 1))[i]? = some (y1, y2) := by
          rw [List.getElem?_zip_eq_some]
          exact ⟨k1, by rw [List.getElem?_drop]; exact k2⟩
        refine ⟨Tt, _, rfl, SqT.of upd_same, rfl, _, _, rfl, _, _, rfl, rfl, rfl, yes_ ?_⟩
        refine ⟨_, rfl, _, rfl, _, _, _, _, _, _, rfl, rfl, kT.sqT c1, kT.sqT c2, _, by rw [upd_ne nDT]; exact eD, ?_, ?_, ?_⟩
        · rw [List.length_map, List.length_map, List.length_take]
          rw [List.length_drop] at hi
          exact small1e4 (by omega)
        · rw [upd_same, take_snoc gz, List.map_append, List.map_append]
          rfl
        · exact same_put (same_new s' nT) hD'
      · refine ⟨D, (l.zip (l.drop 1)).map (fun p : (Str × Str) × (Str × Str) => ltQ p.1 p.2), rfl, SqL.of ?_, q _ (sm.trans s')⟩
        rw [eD, List.take_of_length_le (by rw [lz]; exact Nat.le_refl _)]
    · subst e
      have e0 : l = [] := List.length_eq_zero_iff.mp hl.symm
      subst e0
      refine ⟨a, a, _, _, rfl, .inr ⟨hS, hS, fun D hD' => ?_⟩⟩
      refine lc_it (walk_zipT (xs := []) (ys := []) rfl) (fun i H' => H' D = some (.lst []) ∧ Same H H') ⟨upd_same, same_upd hD'⟩ (fun i H' _ ⟨_, s'⟩ => ⟨(Tk.of s').sqT hS, (Tk.of s').sqT hS⟩)
        (fun i x H2 H3 hi _ _ => absurd hi (Nat.not_lt_zero _)) (fun H2 ⟨eD, s'⟩ => ?_)
      exact ⟨D, [], rfl, SqL.of eD, q _ s'⟩
def spPairsD (K : PySem.W.Frag) : Sp := fun vs H Q _ => ∃ (n : Addr) (v : V) (ns : List Str) (d : PyData), vs = [.ref n, v] ∧ SqT K H n (ns.map V.str) ∧ SeqAt.shaped (.tuple (ns.map PyData.str)) = true ∧ Dp K H v d ∧ SeqAt.shaped d = true ∧ RowsOk d ∧ ∀ H', Same H H' → Q (.bl (pairsD ns d)) H'
theorem c_are_pairsD (T : Tx K mg) : Cl P w K mg base CX0 3 "are_pairs" (spPairsD K) := by
  refine cl0 T.d_are_pairs (ps := ["names", "value"]) (fun _ _ _ _ _ _ us hl => match us, hl with | [_, _], _ => rfl) sc_are_pairs (fun vs H Q E h => ?_) (fun f cdv A outer st H vs Q E hr h => ?_)
  · obtain ⟨n, v, ns, d, rfl, _⟩ := h
    rfl
  · obtain ⟨n, v, ns, d, rfl, hN, sN, hd, sd, l5, q⟩ := h
    have nd := sc_are_pairs.nd
    refine ⟨_, pss_cons (ps_if (pt_not (pt_val (pe_isT "tuple" (by rfl) T.b_isinstance (by rfl) T.b_tuple (by decide +kernel) (pv 1)))) (pss_one (ps_ret pe_bl)) pss_nil)
      (pss_one (ps_ret (pe_and (pe_callB (cr_all rfl) (by rfl) T.b_all (by decide +kernel) (pa_cons (pe_lc (own := [("item", 2)]) (g := gName 2) (tt := tYes) (by rfl) nd (pi_tup (pv 1))
        (blkOk_by (own := [("item", 2)]) (N := ["names", "value", "item"]) (sc := defScope s_are_pairs) (by decide +kernel)) (fun _ _ _ _ _ => pg_name (i := 2) nd rfl (Or.inl rfl)) (fun _ _ _ _ _ => pts_nil) (fun _ _ _ _ _ => pe_k (c_is_pair_ofD T) hr (by decide) (by rfl) (pa_cons (pv 0) (pa_cons (pv 2) pa_nil)))) pa_nil))
        (pe_one (pe_k (c_is_ascendingP T) hr (by decide) (by rfl) (pa_cons (pv 1) pa_nil)))))), ?_⟩
    refine ⟨_, rfl, v, .ty "tuple", _, _, _, rfl, .ty _, tyx_data hd, kit_data (.inl rfl) hd, _, rfl, ?_⟩
    cases d with
    | tuple ds =>
      cases hd with
      | tup hS hV =>
      have hl := hV.len
      have l5 := l5 ds rfl
      refine iteF ⟨_, rfl, _, rfl, ⟨_, hS⟩, fun D hD => ?_⟩
      refine lc_it (walk_tup (xs := _)) (fun i H' => H' D = some (.lst (((ds.take i).map (pairOfD ns)).map V.bl)) ∧ Same H H') ⟨upd_same, same_upd hD⟩ (fun _ _ _ ⟨_, s'⟩ => (Tk.of s').sqT hS) (fun i x H2 H3 hi ⟨eD, s'⟩ hy => ?_) (fun H2 ⟨eD, s'⟩ => ?_)
      · obtain ⟨rfl, hx⟩ := hy
        obtain ⟨d, hd, hx2⟩ := hV.get hx
        refine ⟨rfl, yes_ ⟨_, rfl, _, rfl, n, _, ns, d, rfl, (Tk.of s').sqT hN, sN, Dp.sm s' _ hx2, shaped_memN sd d (List.mem_of_getElem? hd), _, eD, ?_, ?_, same_put s' hD⟩⟩
        · rw [List.length_map, List.length_map, List.length_take]
          exact small1e4 (by omega)
        · rw [upd_same, take_snoc hd, List.map_append, List.map_append]
          rfl
      · refine ⟨D, ds.map (pairOfD ns), rfl, SqL.of (by rw [eD, List.take_of_length_le (by omega)]), _, rfl, ?_⟩
        have ea : (ds.map (pairOfD ns)).all id = ds.all (pairOfD ns) := by
          rw [List.all_map]
          rfl
        have nm : pairsD ns (.tuple ds) = (ds.all (pairOfD ns) && ascP (ds.map prOf)) := rfl
        rw [ea]
        by_cases hall : ds.all (pairOfD ns) = true
        · rw [hall, Bool.true_and] at nm
          rw [hall]
          refine iteT ⟨_, rfl, _, _, ds.map prOf, rfl, (Tk.of s').sqT hS, ?_, by rw [List.length_map]; omega, fun H3 s3 => ?_⟩
          · rw [← pairs_prs hall]
            exact DpAll.sm s' _ hV
          · rw [← nm]
            exact q _ (s'.trans s3)
        · rw [Bool.eq_false_iff.mpr hall, Bool.false_and] at nm
          rw [Bool.eq_false_iff.mpr hall]
          rw [nm] at q
          exact iteF (q _ s')
    | _ => exact iteT (q _ (Same.refl _))
/-- what can be asked whether it is a field -/
structure FOk (d : PyData) : Prop where
  sh : SeqAt.shaped d = true
  a : ∀ x y, d = .tuple [x, y] → (∀ ds, x = .tuple ds → ∀ z ∈ ds, TextsOk z) ∧ (∀ ds, x = .tuple ds → ds.length ≤ 100000) ∧ RowsOk y
/-- what need_field does -/
def OutF (K : PySem.W.Frag) (mg : Str → Option Value) (H : Hp) (Q : VK) (E : XK) (v : V) (d : PyData) : Prop :=
  (∃ x, fieldRef d = some x ∧ RefE K mg H E "BadField" "part" (.str x)) ∨ (fieldRef d = none ∧ ∀ H', Same H H' → Q v H')
def spNeedFieldD (K : PySem.W.Frag) (mg : Str → Option Value) : Sp := fun vs H Q E => ∃ (v : V) (d : PyData), vs = [v] ∧ Dp K H v d ∧ FOk d ∧ OutF K mg H Q E v d
theorem c_need_fieldD (T : Tx K mg) : Cl P w K mg base (L2.CX P w) 4 "need_field" (spNeedFieldD K mg) := by
  refine clX T.d_need_field (ps := ["field"]) (fun _ _ _ _ _ _ us hl => match us, hl with | [_], _ => rfl) sc_need_field (fun vs H Q E h => ?_) (fun f cdv A outer st H vs Q E hr h => ?_)
  · obtain ⟨v, d, rfl, _⟩ := h
    rfl
  · obtain ⟨v, d, rfl, hd, fk, q⟩ := h
    have nd := sc_need_field.nd
    have tk : Takes (cxOf (L2.CX P w) P w K mg base ["field", "names", "pairs"] "need_field" (defScope s_need_field) f cdv A outer st H E) fun cls d _ H => E cls d H := takes_of rfl rfl rfl rfl
    refine ⟨_, (pss_cons (ps_if (pt_not (pt_val (pe_k (c_is_pairD T) hr (by decide) (by rfl) (pa_cons (pv 0) pa_nil)))) (pss_one (ps_rs (K := K) (mg := mg) rfl rfl rfl tk (c_BadField T) hr (by decide) (by rfl) pe_str)) pss_nil)
    (pss_cons (ps_asg (pv 0) (pg_tup rfl (pgs_cons (pg_name (i := 1) nd rfl (.inl rfl)) (pgs_cons (pg_name (i := 2) nd rfl (.inl rfl)) pgs_nil))))
    (pss_cons (ps_if (pt_not (pt_val (pe_k (c_are_namesD T) hr (by decide) (by rfl) (pa_cons (pv 1) pa_nil)))) (pss_one (ps_rs (K := K) (mg := mg) rfl rfl rfl tk (c_BadField T) hr (by decide) (by rfl) pe_str)) pss_nil)
    (pss_cons (ps_if (pt_not (pt_val (pe_k (c_are_pairsD T) hr (by decide) (by rfl) (pa_cons (pv 1) (pa_cons (pv 2) pa_nil))))) (pss_one (ps_rs (K := K) (mg := mg) rfl rfl rfl tk (c_BadField T) hr (by decide) (by rfl) pe_str)) pss_nil)
    (pss_one (ps_ret (pv 0))))))), ?_⟩
    refine ⟨_, rfl, v, d, rfl, hd, _, rfl, ?_⟩
    by_cases hp : pairD d = true
    · rw [hp]
      obtain ⟨x, y, rfl⟩ : ∃ x y, d = .tuple [x, y] := by
        match d, hp with
        | .tuple [x, y], _ => exact ⟨x, y, rfl⟩
      obtain ⟨sx, sy⟩ := shaped_two fk.sh
      obtain ⟨a1, a2, a3⟩ := fk.a x y rfl
      cases hd with
      | tup hS hV =>
      cases hV with
      | cons hx hV =>
      cases hV with
      | cons hy hV =>
      cases hV
      refine iteF ⟨_, rfl, _, _, rfl, hS, rfl, _, _, rfl, _, _, rfl, rfl, ?_⟩
      refine ⟨_, rfl, _, x, rfl, hx, a1, a2, fun H1 s1 => ⟨_, rfl, ?_⟩⟩
      have fr : fieldRef (.tuple [x, y]) = (if namesD x then (if pairsD (strsOf x) y then none else some ("pairs" : Str)) else some ("names" : Str)) := rfl
      by_cases hn : namesD x = true
      · rw [hn]
        rw [if_pos hn] at fr
        refine iteF ?_
        obtain ⟨ds, rfl⟩ : ∃ ds, x = .tuple ds := by
          cases x with
          | tuple ds => exact ⟨ds, rfl⟩
          | _ => cases hn
        have hall : ds.all nameD = true := by
          have hn : (decide (1 ≤ ds.length) && decide (ds.length ≤ 6) && (ds.all nameD && ascS (ds.map strOf))) = true := hn
          rw [Bool.and_eq_true, Bool.and_eq_true (ds.all nameD)] at hn
          exact hn.2.1
        have eds := names_strs hall
        cases hx with
        | @tup na nxs _ hS2 hV2 =>
        have hs : strsOf (.tuple ds) = ds.map strOf := rfl
        rw [hs] at fr
        have exs : nxs = (ds.map strOf).map V.str := DpAll.of_strs (by rw [← eds]; exact hV2)
        have hN : SqT K H1 na ((ds.map strOf).map V.str) := by
          rw [← exs]
          exact (Tk.of s1).sqT hS2
        refine ⟨_, rfl, _, rfl, _, _, ds.map strOf, y, rfl, hN, by rw [← eds]; exact sx, Dp.sm s1 _ hy, sy, a3, fun H2 s2 => ⟨_, rfl, ?_⟩⟩
        by_cases hpr : pairsD (ds.map strOf) y = true
        · rw [hpr]
          rw [if_pos hpr] at fr
          refine iteF ⟨_, rfl, ?_⟩
          rcases q with ⟨w, e, _⟩ | ⟨_, q⟩
          · rw [fr] at e
            cases e
          · exact q _ (s1.trans s2)
        · rw [Bool.eq_false_iff.mpr hpr]
          rw [if_neg hpr] at fr
          rcases q with ⟨w, e, q⟩ | ⟨e, _⟩
          · rw [fr] at e
            cases e
            exact iteT (mk_at fun C H5 dx hC hT s5 ed => q C H5 dx hC hT (s1.trans (s2.trans s5)) ed)
          · rw [fr] at e
            cases e
      · rw [Bool.eq_false_iff.mpr hn]
        rw [if_neg hn] at fr
        rcases q with ⟨w, e, q⟩ | ⟨e, _⟩
        · rw [fr] at e
          cases e
          exact iteT (mk_at fun C H5 dx hC hT s5 ed => q C H5 dx hC hT (s1.trans s5) ed)
        · rw [fr] at e
          cases e
    · rw [Bool.eq_false_iff.mpr hp]
      have fr : fieldRef d = some "form" := by
        match d, hp with
        | .none, _ => rfl
        | .bool _, _ => rfl
        | .int _, _ => rfl
        | .str _, _ => rfl
        | .list _, _ => rfl
        | .dict _, _ => rfl
        | .tuple [], _ => rfl
        | .tuple [x], _ => rfl
        | .tuple [_, _], h => exact absurd rfl h
        | .tuple (x :: y :: _ :: _), _ => rfl
      rcases q with ⟨w, e, q⟩ | ⟨e, _⟩
      · rw [fr] at e
        cases e
        exact iteT (mk_at fun C H5 dx hC hT s5 ed => q C H5 dx hC hT s5 ed)
      · rw [fr] at e
        cases e
end
end XB
set_option Elab.async false
set_option linter.all false
set_option maxRecDepth 100000
set_option maxHeartbeats 4000000
namespace XB
open PySem PySem.Spec PyProof.Rows L2
/-! need_script of any data, with its refusals -/
/-- the number of the first item that does not hold -/
def fstBad (p : PyData → Bool) : List PyData → Nat → Option Nat
  | [], _ => none
  | d :: ds, i => if p d = true then fstBad p ds (i + 1) else some i
theorem fst_at {p : PyData → Bool} : ∀ {ds : List PyData} {i k : Nat} {x : PyData}, ds[i]? = some x → p x = false → (∀ y ∈ ds.take i, p y = true) → fstBad p ds k = some (k + i)
  | d :: ds, 0, k, x, h, hp, _ => by
    rw [List.getElem?_cons_zero] at h
    cases h
    rw [fstBad, if_neg (by rw [hp]; exact Bool.false_ne_true)]
    rfl
  | d :: ds, i + 1, k, x, h, hp, ht => by
    rw [List.getElem?_cons_succ] at h
    rw [List.take_succ_cons] at ht
    rw [fstBad, if_pos (ht d List.mem_cons_self), fst_at h hp (fun y hy => ht y (List.mem_cons_of_mem _ hy))]
    congr 1
    omega
theorem fst_none {p : PyData → Bool} : ∀ {ds : List PyData} {k : Nat}, (∀ y ∈ ds, p y = true) → fstBad p ds k = none
  | [], _, _ => rfl
  | d :: ds, k, h => by
    rw [fstBad, if_pos (h d List.mem_cons_self)]
    exact fst_none fun y hy => h y (List.mem_cons_of_mem _ hy)
/-- what is wrong with a script: nothing, all of it, or the number of a step -/
def scriptD (ns : List Str) : PyData → Option (Option Nat)
  | .tuple ds => if ds.length ≤ 60 then (fstBad (stepD ns) ds 0).map some else some none
  | _ => some none
def placeV : Option Nat → V
  | none => .non
  | some i => .int (i : Int)
def fldNames : PyData → List Str
  | .tuple [a, _] => strsOf a
  | _ => []
theorem field_inv {d : PyData} (h : fieldRef d = none) (s : SeqAt.shaped d = true) : ∃ y, d = .tuple [.tuple ((fldNames d).map PyData.str), y] ∧ SeqAt.shaped (.tuple ((fldNames d).map PyData.str)) = true := by
  have hp : pairD d = true := by
    cases hp : pairD d with
    | true => rfl
    | false =>
      exfalso
      have fr : fieldRef d = some "form" := by
        match d, hp with
        | .none, _ => rfl
        | .bool _, _ => rfl
        | .int _, _ => rfl
        | .str _, _ => rfl
        | .list _, _ => rfl
        | .dict _, _ => rfl
        | .tuple [], _ => rfl
        | .tuple [x], _ => rfl
        | .tuple [_, _], h => cases h
        | .tuple (x :: y :: _ :: _), _ => rfl
      rw [fr] at h
      cases h
  obtain ⟨x, y, rfl⟩ : ∃ x y, d = .tuple [x, y] := by
    match d, hp with
    | .tuple [x, y], _ => exact ⟨x, y, rfl⟩
  have fr : fieldRef (.tuple [x, y]) = (if namesD x then (if pairsD (strsOf x) y then none else some ("pairs" : Str)) else some ("names" : Str)) := rfl
  rw [fr] at h
  by_cases hn : namesD x = true
  · obtain ⟨ds, rfl⟩ : ∃ ds, x = .tuple ds := by
      cases x with
      | tuple ds => exact ⟨ds, rfl⟩
      | _ => cases hn
    have hall : ds.all nameD = true := by
      have hn : (decide (1 ≤ ds.length) && decide (ds.length ≤ 6) && (ds.all nameD && ascS (ds.map strOf))) = true := hn
      rw [Bool.and_eq_true, Bool.and_eq_true (ds.all nameD)] at hn
      exact hn.2.1
    have e : fldNames (.tuple [.tuple ds, y]) = ds.map strOf := rfl
    rw [e, ← names_strs hall]
    exact ⟨y, rfl, (shaped_two s).1⟩
  · rw [if_neg hn] at h
    cases h
section
variable {P : Program} {w : World} {K : PySem.W.Frag} {mg : Str → Option Value} {base : Heap}
def spStepD (K : PySem.W.Frag) : Sp := fun vs H Q _ => ∃ (n : Addr) (v : V) (ns : List Str) (d : PyData), vs = [.ref n, v] ∧ SqT K H n (ns.map V.str) ∧ SeqAt.shaped (.tuple (ns.map PyData.str)) = true ∧ Dp K H v d ∧ SeqAt.shaped d = true ∧ Q (.bl (stepD ns d)) H
theorem c_is_stepD (T : Tx K mg) : Cl P w K mg base CX0 3 "is_step" (spStepD K) := by
  refine cl0 T.d_is_step (ps := ["names", "value"]) (fun _ _ _ _ _ _ us hl => match us, hl with | [_, _], _ => rfl) sc_is_step (fun vs H Q E h => ?_) (fun f cdv A outer st H vs Q E hr h => ?_)
  · obtain ⟨n, v, ns, d, rfl, _⟩ := h
    rfl
  · obtain ⟨n, v, ns, d, rfl, hN, sN, hd, sd, q⟩ := h
    have nd := sc_is_step.nd
    refine ⟨_, (pss_one (ps_ret (pe_and (pe_k (c_is_great_stepD T) hr (by decide) (by rfl) (pa_cons (pv 0) (pa_cons (pv 1) pa_nil))) (pe_one (pe_k (c_is_timesD T) hr (by decide) (by rfl) (pa_cons (pe_ix (ixk_tup (K := K) rfl) (pv 1) pe_int (fun _ _ => rfl)) pa_nil)))))), ?_⟩
    refine ⟨_, rfl, _, rfl, n, v, ns, d, rfl, hN, sN, hd, sd, _, rfl, ?_⟩
    by_cases hg : greatD ns d = true
    · rw [if_pos hg]
      obtain ⟨x, t, rfl⟩ : ∃ x t, d = .tuple [.str x, .int t] := by
        match d, hg with
        | .tuple [.str x, .int t], _ => exact ⟨x, t, rfl⟩
      cases hd with
      | tup hS hV =>
      cases hV with
      | cons hx hV =>
      cases hV with
      | cons hy hV =>
      cases hV
      refine ⟨_, rfl, ix1 hS ⟨_, .int t, rfl, hy, ?_⟩⟩
      have hg : (ns.contains x && decide (t ≠ 0)) = true := hg
      rw [Bool.and_eq_true] at hg
      have e : stepD ns (.tuple [.str x, .int t]) = timesD (.int t) := by
        show (ns.contains x && timesD (.int t)) = _
        rw [hg.1, Bool.true_and]
      rw [e] at q
      exact q
    · rw [if_neg hg]
      have e : stepD ns d = false := by
        match d, hg with
        | .tuple [.str x, .int t], h =>
          have h : ¬ (ns.contains x && decide (t ≠ 0)) = true := h
          show (ns.contains x && (decide (t ≠ 0) && _)) = false
          rw [← Bool.and_assoc, Bool.eq_false_iff.mpr h]
          rfl
        | .none, _ => rfl
        | .bool _, _ => rfl
        | .int _, _ => rfl
        | .str _, _ => rfl
        | .list _, _ => rfl
        | .dict _, _ => rfl
        | .tuple [], _ => rfl
        | .tuple [x], _ => cases x <;> rfl
        | .tuple (x :: y :: _ :: _), _ => cases x <;> first | rfl | (cases y <;> rfl)
        | .tuple [.none, _], _ => rfl
        | .tuple [.bool _, _], _ => rfl
        | .tuple [.int _, _], _ => rfl
        | .tuple [.list _, _], _ => rfl
        | .tuple [.dict _, _], _ => rfl
        | .tuple [.tuple _, _], _ => rfl
        | .tuple [.str _, .none], _ => rfl
        | .tuple [.str _, .bool _], _ => rfl
        | .tuple [.str _, .str _], _ => rfl
        | .tuple [.str _, .list _], _ => rfl
        | .tuple [.str _, .dict _], _ => rfl
        | .tuple [.str _, .tuple _], _ => rfl
      rw [e] at q
      exact q
theorem c_BadScript (T : Tx K mg) : MkE P w K mg base 1 "BadScript" "place" := by
  refine mke0 T.e_BadScript (ps := ["self", "place"]) rfl (fun _ _ _ _ _ _ us hl => match us, hl with | [_, _], _ => rfl) (fun _ _ _ _ _ _ _ _ => rfl) sc_BadScript___init__ (fun C fI cdv A outer st H vs Q E hC hm hr h => ?_)
  obtain ⟨a, y, rfl, e, q⟩ := h
  exact ⟨_, pss_one (ps_osG (pv 0) (pv 1)), _, rfl, _, rfl, a, C, rfl, hC, T.n_BadScript_place C hm, e, q⟩
/-- what need_script does, of a field -/
def OutS (K : PySem.W.Frag) (mg : Str → Option Value) (H : Hp) (Q : VK) (E : XK) (v : V) : Option (Option Nat) → Prop
  | none => ∀ H', Same H H' → Q v H'
  | some o => RefE K mg H E "BadScript" "place" (placeV o)
theorem OutS.from {H H1 : Hp} {Q : VK} {E : XK} {v : V} {o : Option (Option Nat)} (q : OutS K mg H Q E v o) (s : Same H H1) : OutS K mg H1 Q E v o := by
  cases o with
  | none => exact fun H' s' => q H' (s.trans s')
  | some o => exact RefE.from (show RefE K mg H E "BadScript" "place" (placeV o) from q) s
/-- a thing that is held for a script, and what is wrong with it: any data, or an empty dict -/
def OkS (K : PySem.W.Frag) (H : Hp) (v : V) (ns : List Str) (o : Option (Option Nat)) : Prop := (∃ d, Dp K H v d ∧ SeqAt.shaped d = true ∧ RowsOk d ∧ scriptD ns d = o) ∨ ∃ a, v = .ref a ∧ H a = some (.dK []) ∧ o = some none
theorem OkS.same {H H' : Hp} {v : V} {ns : List Str} {o : Option (Option Nat)} (h : OkS K H v ns o) (s : Same H H') : OkS K H' v ns o := by
  rcases h with ⟨d, a, b⟩ | ⟨a, e, h, g⟩
  · exact .inl ⟨d, Dp.sm s _ a, b⟩
  · exact .inr ⟨a, e, s _ _ h, g⟩
def spNeedScriptD (K : PySem.W.Frag) (mg : Str → Option Value) : Sp := fun vs H Q E => ∃ (f v : V) (df : PyData), vs = [f, v] ∧ Dp K H f df ∧ FOk df ∧
  ((∃ x, fieldRef df = some x ∧ RefE K mg H E "BadField" "part" (.str x)) ∨ (fieldRef df = none ∧ ∃ o, OkS K H v (fldNames df) o ∧ OutS K mg H Q E v o))
theorem c_need_scriptD (T : Tx K mg) : Cl P w K mg base (L2.CX P w) 5 "need_script" (spNeedScriptD K mg) := by
  refine clX T.d_need_script (ps := ["field", "deeds"]) (fun _ _ _ _ _ _ us hl => match us, hl with | [_, _], _ => rfl) sc_need_script (fun vs H Q E h => ?_) (fun f cdv A outer st H vs Q E hr h => ?_)
  · obtain ⟨f, v, df, rfl, _⟩ := h
    rfl
  · obtain ⟨f0, v, df, rfl, hdf, fk, q⟩ := h
    have nd := sc_need_script.nd
    obtain ⟨tk0, hMS⟩ := T.g_MOST_STEPS
    have tk : Takes (cxOf (L2.CX P w) P w K mg base ["field", "deeds", "names", "_", "place", "item"] "need_script" (defScope s_need_script) f cdv A outer st H E) fun cls d _ H => E cls d H := takes_of rfl rfl rfl rfl
    refine ⟨_, (pss_cons (ps_asg (pe_kX (c_need_fieldD T) hr (by decide) tk (by rfl) (pa_cons (pv 0) pa_nil)) (pg_tup rfl (pgs_cons (pg_name (i := 2) nd rfl (.inl rfl)) (pgs_cons (pg_name (i := 3) nd rfl (.inl rfl)) pgs_nil))))
    (pss_cons (ps_if (PW.pt (pw_or (pt_not (pt_val (pe_isT "tuple" (by rfl) T.b_isinstance (by rfl) T.b_tuple (by decide +kernel) (pv 1)))) (pw_or1 (pt_cmpR op_gt (pe_lenS (by rfl) T.b_len (pv 1)) (pe_glob (v := .int 60) (by rfl) hMS ⟨_, rfl⟩) (nomark _))))) (pss_one (ps_rs (K := K) (mg := mg) rfl rfl rfl tk (c_BadScript T) hr (by decide) (by rfl) pe_non)) pss_nil)
    (pss_cons (ps_for (passes_of rfl) rfl (pi_enumT (by rfl) T.b_enumerate (pa_cons (pv 1) pa_nil)) (pg_tup rfl (pgs_cons (pg_name (i := 4) nd rfl (.inl rfl)) (pgs_cons (pg_name (i := 5) nd rfl (.inl rfl)) pgs_nil)))
    (pss_one (ps_if (pt_not (pt_val (pe_k (c_is_stepD T) hr (by decide) (by rfl) (pa_cons (pv 2) (pa_cons (pv 5) pa_nil))))) (pss_one (ps_rs (K := K) (mg := mg) rfl rfl rfl tk (c_BadScript T) hr (by decide) (by rfl) (pv 4))) pss_nil)))
    (pss_one (ps_ret (pv 1)))))), ?_⟩
    --@
    refine ⟨_, rfl, f0, df, rfl, hdf, fk, ?_⟩
    rcases q with ⟨x, e, q⟩ | ⟨ef, o, hO, q⟩
    · exact .inl ⟨x, e, q⟩
    refine .inr ⟨ef, fun H1 s1 => ?_⟩
    replace hdf := Dp.sm s1 _ hdf
    obtain ⟨y, edf, sN⟩ := field_inv ef fk.sh
    replace hO := hO.same s1
    replace q := q.from s1
    generalize fldNames df = ns at edf hO sN
    subst edf
    cases hdf with
    | @tup fa fxs _ hS0 hV0 =>
    cases hV0 with
    | @cons nv _ _ _ hn hV0 =>
    cases hV0 with
    | @cons yv _ _ _ hy hV0 =>
    cases hV0
    cases hn with
    | @tup na nxs _ hN hV1 =>
    have exs : nxs = ns.map V.str := DpAll.of_strs hV1
    subst exs
    refine ⟨_, _, rfl, hS0, rfl, _, _, rfl, _, _, rfl, rfl, ?_⟩
    rcases hO with ⟨d, hd, sd, bk, rfl⟩ | ⟨a, rfl, hdk, rfl⟩
    rotate_left
    · have q : RefE K mg H1 E "BadScript" "place" .non := q
      exact ⟨_, rfl, .ref a, .ty "tuple", _, _, _, rfl, .ty _, .base (.dK hdk), kit_ty (r := false) (by decide +kernel), _, rfl, iteT (mk_at fun C H5 dx hC hT s5 ed => q C H5 dx hC hT s5 ed)⟩
    refine ⟨_, rfl, v, .ty "tuple", _, _, _, rfl, .ty _, tyx_data hd, kit_data (.inl rfl) hd, _, rfl, ?_⟩
    cases d with
    | tuple ds =>
      cases hd with
      | @tup a xs _ hS hV =>
      have hl := hV.len
      refine iteF ?_
      refine ⟨_, rfl, _, _, rfl, .inr hS, _, _, rfl, rfl, _, rfl, ?_⟩
      rw [hl]
      have e : scriptD ns (.tuple ds) = if ds.length ≤ 60 then (fstBad (stepD ns) ds 0).map some else some none := rfl
      rw [e] at q
      by_cases h12 : ds.length ≤ 60
      · rw [if_pos h12] at q
        rw [show decide ((60 : Int) < (ds.length : Int)) = false from decide_eq_false (by omega)]
        refine iteF ?_
        refine ⟨_, rfl, _, xs, rfl, hS, for_it (walk_IeT (xs := xs)) (fun i σ H2 => ∃ (y2 y3 : Option V), σ = [some (.ref fa), some (.ref a), some (.ref na), some yv, y2, y3] ∧ Same H1 H2 ∧ ∀ y ∈ ds.take i, stepD ns y = true)
          ⟨none, none, rfl, Same.refl _, fun y hy => nomatch hy⟩ (fun i σ H2 _ ⟨y2, y3, _, s2, _⟩ => (Tk.of s2).sqT hS) (fun i x σ H2 H3 hi ⟨y2, y3, eσ, s2, ht⟩ hy => ?_) (fun σ H2 ⟨y2, y3, eσ, s2, ht⟩ => ?_)⟩
        · obtain ⟨Tt, x1, x2, rfl, nT, rfl, f1, f2⟩ := hy
          subst eσ
          obtain ⟨d', g1, p1⟩ := hV.get f2
          have s3 := same_new (o := .tup [x1, x2]) s2 nT
          refine ⟨Tt, _, rfl, SqT.of upd_same, rfl, _, _, rfl, _, _, rfl, rfl, ?_⟩
          refine ⟨_, rfl, _, rfl, na, x2, ns, d', rfl, (Tk.of s3).sqT hN, sN, Dp.sm s3 _ p1, shaped_memN sd d' (List.mem_of_getElem? g1), _, rfl, ?_⟩
          by_cases hc : stepD ns d' = true
          · rw [hc]
            refine iteF ⟨_, _, rfl, s3, fun y hy => ?_⟩
            rw [take_snoc g1] at hy
            rcases List.mem_append.mp hy with h | h
            · exact ht y h
            · rw [List.mem_singleton.mp h]
              exact hc
          · have hc := Bool.eq_false_iff.mpr hc
            rw [hc]
            rw [fst_at g1 hc ht, Nat.zero_add] at q
            have q : RefE K mg H1 E "BadScript" "place" (.int (i : Int)) := q
            have f1 : x1 = .int (i : Int) := (Option.some.inj f1).symm
            subst f1
            exact iteT ⟨_, rfl, mk_at fun C H5 dx hC hT s5 ed => q C H5 dx hC hT (s3.trans s5) ed⟩
        · subst eσ
          rw [fst_none (fun y hy => ht y (by rw [List.take_of_length_le (by omega)]; exact hy))] at q
          exact ⟨_, rfl, q _ s2⟩
      · rw [show decide ((60 : Int) < (ds.length : Int)) = true from decide_eq_true (by omega)]
        rw [if_neg h12] at q
        have q : RefE K mg H1 E "BadScript" "place" .non := q
        exact iteT (mk_at fun C H5 dx hC hT s5 ed => q C H5 dx hC hT s5 ed)
    | _ =>
      have q : RefE K mg H1 E "BadScript" "place" .non := q
      exact iteT (mk_at fun C H5 dx hC hT s5 ed => q C H5 dx hC hT s5 ed)
end
end XB
set_option Elab.async false
set_option linter.all false
set_option maxRecDepth 100000
set_option maxHeartbeats 4000000
/-! heaps that stand but for some addresses -/
namespace XB
open PySem PySem.Spec PyProof.Rows L2
/-- all stands but at these addresses -/
def Sb (A : List Addr) (H H' : Hp) : Prop := ∀ b u, b ∉ A → H b = some u → H' b = some u
/-- the same, but for the tables of code objects -/
def Ex (A : List Addr) (H H' : Hp) : Prop := ∀ b u, b ∉ A → H b = some u → (∀ ps, u ≠ .tbl ps) → H' b = some u
theorem Sb.refl (A : List Addr) (H : Hp) : Sb A H H := fun _ _ _ e => e
theorem Sb.trans {A : List Addr} {H H1 H2 : Hp} (a : Sb A H H1) (b : Sb A H1 H2) : Sb A H H2 := fun p u n e => b p u n (a p u n e)
theorem Sb.of {A : List Addr} {H H' : Hp} (s : Same H H') : Sb A H H' := fun b u _ e => s b u e
theorem Sb.mono {A B : List Addr} {H H' : Hp} (s : Sb A H H') (h : ∀ b ∈ A, b ∈ B) : Sb B H H' := fun b u n e => s b u (fun z => n (h b z)) e
theorem Sb.put {A : List Addr} {H H1 : Hp} {a : Addr} {o : HO} (s : Sb A H H1) (h : a ∈ A) : Sb A H (upd H1 a o) := fun b u n e => by
  have nb : b ≠ a := fun z => n (by rw [z]; exact h)
  rw [upd_ne nb]
  exact s b u n e
theorem Sb.putN {A : List Addr} {H H0 H1 : Hp} {L : Addr} {o : HO} (s : Sb A H H1) (s0 : Sb A H H0) (n : H0 L = none) : Sb A H (upd H1 L o) := fun b u hb e => by
  have nb : b ≠ L := fun z => by
    have := s0 b u hb e
    rw [z, n] at this
    cases this
  rw [upd_ne nb]
  exact s b u hb e
theorem Sb.ex {A : List Addr} {H H' : Hp} (s : Sb A H H') : Ex A H H' := fun b u n e _ => s b u n e
theorem Ex.refl (A : List Addr) (H : Hp) : Ex A H H := fun _ _ _ e _ => e
theorem Ex.trans {A : List Addr} {H H1 H2 : Hp} (a : Ex A H H1) (b : Ex A H1 H2) : Ex A H H2 := fun p u n e t => b p u n (a p u n e t) t
theorem Ex.of {A : List Addr} {H H' : Hp} (s : LamX.ExtN H H') : Ex A H H' := fun b u _ e t => s b u e t
theorem Ex.same {A : List Addr} {H H' : Hp} (s : Same H H') : Ex A H H' := fun b u _ e _ => s b u e
theorem Ex.mono {A B : List Addr} {H H' : Hp} (s : Ex A H H') (h : ∀ b ∈ A, b ∈ B) : Ex B H H' := fun b u n e t => s b u (fun z => n (h b z)) e t
theorem Ex.put {A : List Addr} {H H1 : Hp} {a : Addr} {o : HO} (s : Ex A H H1) (h : a ∈ A) : Ex A H (upd H1 a o) := fun b u n e t => by
  have nb : b ≠ a := fun z => n (by rw [z]; exact h)
  rw [upd_ne nb]
  exact s b u n e t
theorem Ex.putN {A : List Addr} {H H0 H1 : Hp} {L : Addr} {o : HO} (s : Ex A H H1) (s0 : Ex A H H0) (n : H0 L = none) : Ex A H (upd H1 L o) := fun b u hb e t => by
  have nb : b ≠ L := fun z => by
    have := s0 b u hb e t
    rw [z, n] at this
    cases this
  rw [upd_ne nb]
  exact s b u hb e t
/-- no tuple stands at these addresses -/
def NoT (A : List Addr) (H : Hp) : Prop := ∀ b ∈ A, (∀ xs, H b ≠ some (.tup xs)) ∧ ∀ o u, H b ≠ some (.frz o u)
theorem NoT.nil {H : Hp} : NoT [] H := fun _ h => nomatch h
theorem NoT.cons {A : List Addr} {H : Hp} {a : Addr} {o : HO} (e : H a = some o) (n : (∀ xs, o ≠ .tup xs) ∧ ∀ x u, o ≠ .frz x u) (t : NoT A H) : NoT (a :: A) H := fun b hb => by
  rcases List.mem_cons.mp hb with z | hb
  · rw [z, e]
    exact ⟨fun xs q => n.1 xs (Option.some.inj q), fun x u q => n.2 x u (Option.some.inj q)⟩
  · exact t b hb
theorem Ex.tk {A : List Addr} {H H' : Hp} (s : Ex A H H') (n : NoT A H) : Tk H H' :=
  ⟨fun b xs e => s b _ (fun z => (n b z).1 xs e) e (fun _ q => nomatch q), fun b o u e => s b _ (fun z => (n b z).2 o u e) e (fun _ q => nomatch q)⟩
theorem Sb.tk {A : List Addr} {H H' : Hp} (s : Sb A H H') (n : NoT A H) : Tk H H' := s.ex.tk n
/-- tables stand where nothing of them is written -/
theorem tabs_sb {TT : List (Addr × Str)} {A : List Addr} {H H' : Hp} (t : LamX.Tabs TT H) (s : Sb A H H') (n : ∀ b ∈ A, ∀ o, H b = some o → (∀ ps, o ≠ .tbl ps) ∧ ∀ φ, o ≠ .ext φ) : LamX.Tabs TT H' := fun p hp => by
  obtain ⟨ps, h1, h2, h3⟩ := t p hp
  refine ⟨ps, s _ _ (fun z => (n _ z _ h1).1 ps rfl) h1, h2, fun pos cv hc => ?_⟩
  obtain ⟨c', e1, e2⟩ := h3 pos cv hc
  refine ⟨c', e1, s _ _ (fun z => ?_) e2⟩
  have := (n _ z _ e2).2
  unfold LamX.CodeO at this
  exact this _ rfl
end XB
set_option Elab.async false
set_option linter.all false
set_option maxRecDepth 100000
set_option maxHeartbeats 4000000
/-! tuple * int, the empty tuple too -/
namespace XB
open PySem PySem.Spec PyProof.Rows L2
theorem tuple_mul0 (l : Addr) (n : Nat) (dd : Option Addr) (sl : Array (Option Value)) (x : Int) (u : Tok) (c0 : (decide (x < -(2 ^ 63)) || decide (x ≥ 2 ^ 63)) = false) :
    Meets (Builtin.«tuple.__mul__» ⟨[.ref l, .int x u], []⟩) (fun _ R s => s.heap.get? l = some { cls := .type "tuple", dict := dd, data := .seq #[] n, slots := sl } ∧ R (.ok (.ret (Value.ref l))) s) :=
  .of_wp fun prog w A R s h => by
    obtain ⟨hp, g, d, tk, os⟩ := s
    obtain ⟨hl, h⟩ := h
    have f1 := AutoSeq1.idx_int
    wp_walk using wpAny_loadPart' hl
    repeat (first
      | (refine wpAny_ite_false (decide_eq_false (by rw [c0]; exact Bool.false_ne_true)) ?_; wp_walk using wpAny_loadPart' hl))
    exact ⟨_, rfl, h⟩
def rMulT (K : PySem.W.Frag) : R2 := fun x y H Q => ∃ l k xs, x = .ref l ∧ y = .int k ∧ SqT K H l xs ∧ 2 ≤ k ∧ k ≤ 1000 ∧ xs.length ≤ 1000 ∧ ∀ H' p, Same H H' → SqT K H' p (List.replicate k.toNat xs).flatten → Q (.ref p) H'
theorem op_mulT {X : Cx} {K : PySem.W.Frag} (hk : X.K = K) : OpR X (binaryOp .Mult) (rMulT K) := by
  subst hk
  intro pins s σ H x y v u Q I rx ry h
  obtain ⟨l, k, xs, rfl, rfl, hT, h1, h2, hz, q⟩ := h
  by_cases hne : xs = []
  · subst hne
    have hT' := hT
    cases rx
    obtain ⟨t, rfl⟩ := ry
    obtain ⟨its, r, ⟨⟨cls, dd, data, sl⟩, ho, hc, n, hd⟩, hs⟩ := I.tuple hT
    simp only at hc hd
    subst hc hd
    have hn : its = [] := List.eq_nil_of_length_eq_zero r.length.symm
    subst hn
    have c0 : (decide (k < -(2 ^ 63)) || decide (k ≥ 2 ^ 63)) = false := by
      rw [decide_eq_false (by omega), decide_eq_false (by omega)] <;> rfl
    refine wpAny_binaryOp_repeat_ref (T := "tuple") (U := "int") (by decide) ⟨_, ho, rfl⟩ (fun s' => typeIs_int s' k t) noFill_tuple_mul F.fills_int_mul F.slot_int_rmul repeat_tuple F.slot_int_index.lookup
      (call_meets F.slot_int_rmul (typeIs_int s k t) F.entry_int_rmul (F.args_int_rmul_2 _ _) (int_rmul_tuple k t l [].toArray n dd sl)
        ⟨ho, rfl, ⟨_, ho, rfl⟩, call_meets F.slot_tuple_mul ⟨_, ho, rfl⟩ F.entry_tuple_mul (F.args_tuple_mul_2 _ _) (tuple_mul0 l n dd sl k t c0) ⟨ho, ?_⟩⟩)
    refine ⟨.ref l, H, I, rfl, q H l (Same.refl _) ?_⟩
    have e : (List.replicate k.toNat ([] : List V)).flatten = [] := by
      rw [List.flatten_replicate_nil]
    rw [e]
    exact hT'
  · exact op_repT pins s σ H _ _ v u Q I rx ry ⟨l, k, xs, rfl, rfl, hT, hne, h1, h2, hz, fun p hp => q _ p (same_upd hp) (SqT.of upd_same)⟩
end XB
set_option Elab.async false
set_option linter.all false
set_option maxRecDepth 100000
set_option maxHeartbeats 4000000
/-! the head of a law whose promise holds where no repr runs around -/
namespace XB
open PySem PySem.Spec PyProof.Rows L2
section
variable {P : Program} {w : World} {K : PySem.W.Frag} {mg mb : Str → Option Value} {k : Nat} {fa a : Addr} {fd : FuncData} {x : Str} {sp : Sp} {st : Shared} {vs : List Value} {ns : List Int}
def scriptO (vs : List Value) : Obj := { cls := .type "list", data := .seq vs.toArray }
theorem end_g (kin : K.In st.heap) (gl : st.heap.Ns mainGlobals mg) (bl : st.heap.Ns builtinsNs mb) (bb : ∀ y : Str, y ≠ "__name__" → mb y = bootBuiltins y) (nl : st.heap.NoLimit) (ge : st.gens = #[])
    (at_ : st.heap.get? a = some (scriptO vs)) (whl : IntsAre vs ns) (short : ns.length ≤ sizeLine) (room : Room k callerA)
    (prom : ∀ base : Heap, K.In base → base.Ns mainGlobals mg → FnG P w K mg base CX0 k fa fd [x] sp) (bnd : ∀ (s : Shared) (u : Value), BindsTo s fd ⟨[u], []⟩ [(x, u)])
    (holds : ∀ H : Hp, SqL K H a (ns.map V.int) → sp [.ref a] H (fun v _ => v = .bl true) fun _ _ _ => False) :
    codeAny (model P w) callerA (.call (.ref fa) ⟨[.ref a], []⟩) (fun r t => r = .ok (.ret (.bool true)) ∧ OldK st.heap t.heap ∧ t.os = st.os ∧ AllBare t.gens) st := by
  have hv := vals_ints whl
  obtain ⟨G, hG⟩ : ∃ G : Hp, ∀ b, G b = if b = a ∧ (K.lookup a).isNone = true then some (.frz (scriptO vs) (.lst (ns.map V.int))) else none := ⟨fun b => if b = a ∧ (K.lookup a).isNone = true then _ else none, fun _ => rfl⟩
  have only : ∀ b u, G b = some u → b = a ∧ K.lookup a = none ∧ u = .frz (scriptO vs) (.lst (ns.map V.int)) := fun b u q => by
    rw [hG] at q
    by_cases c : b = a ∧ (K.lookup a).isNone = true
    · rw [if_pos c] at q
      exact ⟨c.1, by simpa using c.2, (Option.some.inj q).symm⟩
    · rw [if_neg c] at q
      cases q
  have row : SqL K G a (ns.map V.int) := by
    cases q : K.lookup a with
    | none => exact .inl (.inr ⟨scriptO vs, by rw [hG, if_pos ⟨rfl, by rw [q]; rfl⟩]⟩)
    | some o =>
      have q2 := kin a o q
      rw [at_] at q2
      have q3 : o = scriptO vs := (Option.some.inj q2).symm
      subst q3
      exact .inr ⟨_, vs.toArray, _, q, rfl, rfl, rfl, by rw [List.size_toArray, whl.length]; exact short, by simpa using hv⟩
  have sound : HOk P w G st.heap := fun b u q => by
    obtain ⟨rfl, _, rfl⟩ := only b u q
    exact ⟨at_, by rw [List.length_map]; exact short, vs, 0, hv, at_⟩
  have stays : ∀ {b : Addr} {o : Obj}, st.heap.get? b = some o → (b = a → o ≠ scriptO vs ∨ ∃ u, K.lookup a = some u) → (hidT st.heap G).get? b = some o := fun {b o} q c => by
    refine hidT_get q ?_
    cases g : G b with
    | none => rfl
    | some u =>
      obtain ⟨e1, e2, _⟩ := only b u g
      rcases c e1 with z | ⟨u', z⟩
      · rw [e1, at_] at q
        exact absurd (Option.some.inj q).symm z
      · rw [e2] at z
        cases z
  have names : ∀ {b : Addr} {f : Str → Option Value}, st.heap.Ns b f → (hidT st.heap G).Ns b f := fun {b f} h => by
    obtain ⟨o, es, ep, q, d, r⟩ := h
    refine ⟨o, es, ep, stays q fun _ => .inl fun z => ?_, d, r⟩
    rw [z] at d
    have d : Data.seq vs.toArray _ = Data.dict es ep := d
    cases d
  have kin' : K.In (hidT st.heap G) := fun b o q => stays (kin b o q) fun e => .inr ⟨o, by rw [← e]; exact q⟩
  have md : Mod K mg (hidT st.heap G) := ⟨kin', names gl, ⟨mb, names bl, bb⟩, by obtain ⟨mc, n1, n2⟩ := nl; exact ⟨mc, names n1, n2⟩⟩
  have none_in : ∀ {b : Addr}, b ∉ ([] : List Addr) := fun {b} z => by cases z
  have e0 : Env0 P w K mg (hidT st.heap G) callerA [] st G := { frames := rfl, mod := md, bs := fun _ _ q => of_hidT q, bsz := Nat.le_of_eq (hidT_size _ _), funs := trivial, frf := fun b z => absurd (show b ∈ ([] : List Addr) from z) none_in, hok := sound, bare := .of_eq ge }
  have ran := (prom _ kin' (names gl)).goes (A := callerA) (outer := []) (Q := fun v _ => v = .bl true) (E := fun _ _ _ => False) (args := ⟨[.ref a], []⟩) (us := [.ref a]) (vs := [.ref a]) rfl room e0 (bnd st (.ref a)) (.cons (show Value.ref a = Value.ref a from rfl) .nil) (holds G row)
  refine codeAny_mono ran ?_
  intro r t q
  match r, q with
  | .ok (.ret u), q =>
    obtain ⟨v, G', e1, e2, un, ok', rv, ev⟩ := q
    have ev : v = .bl true := ev
    subst ev
    have eu : u = Value.bool true := rv
    rw [eu]
    refine ⟨rfl, OldK.of_keep fun b o hb => ?_, e1, e2⟩
    cases g : G b with
    | none => exact un.keep b o hb g (fun z => absurd (show b ∈ ([] : List Addr) from z) none_in) none_in
    | some y =>
      obtain ⟨_, _, rfl⟩ := only b y g
      have c1 := (sound b _ g).1
      have c2 := (ok' b _ (un.frzs b _ _ g)).1
      rw [hb] at c1
      rw [c2, ← c1]
  | .ok .next, q => exact False.elim q
  | .ok .brk, q => exact False.elim q
  | .ok .cont, q => exact False.elim q
  | .error _, q => exact False.elim q
theorem walk_g {l : PySem.W.OpenLaw} {n k : Nat} {q : Program} {loose : List Str} {XP : (Str → Option Value) → Heap → Prop} {YP : World → Heap → Prop} {d : DefRec} {K : Params → PySem.W.Frag} {sp : PySem.W.Frag → Sp} {x : Str}
    (most : l.most = some n) (fits : n ≤ sizeLine) (plain : d.params.defaults = []) (room : Room k callerA) (inn : ∀ (w : World) (h : Heap), YP w h → (K w.params).In h)
    (prom : ∀ (w : World) (mg : Str → Option Value) (fa : Addr) (h : Heap), (K w.params).In h → h.Ns mainGlobals mg → mg d.name = some (.ref fa) →
      ∃ fd : FuncData, (∀ (s : Shared) (u : Value), BindsTo s fd ⟨[u], []⟩ [(x, u)]) ∧ ∀ base : Heap, (K w.params).In base → base.Ns mainGlobals mg → FnG l.prog w (K w.params) mg base CX0 k fa fd [x] (sp (K w.params)))
    (holds : ∀ (K : PySem.W.Frag) (H : Hp) (a : Addr) (ns : List Int), ns.length ≤ n → SqL K H a (ns.map V.int) → sp K [.ref a] H (fun v _ => v = .bl true) fun _ _ _ => False) : PySem.W.WalkO q loose XP YP l.row.toRowW d [] (fun f vs => PySem.call f vs) := by
  refine Att.attach_call most plain fun w s0 st mg mb fa o pm cd doc a vs ns gg y ho hd hcd hmg hobj hints hlen hgen => ?_
  have kin := inn w _ y
  obtain ⟨fd, b, pr⟩ := prom w mg fa _ kin gg.T.g hmg
  exact end_g kin gg.T.g gg.T.b gg.T.builtins gg.T.nolimit hgen hobj hints (Nat.le_trans hlen fits) room pr b fun H s => holds _ H a ns hlen s
/-- the same, with what the head tells of the globals beside the written part -/
theorem walk_gX {TX : (Str → Option Value) → Prop} {l : PySem.W.OpenLaw} {n k : Nat} {q : Program} {loose : List Str} {XP : (Str → Option Value) → Heap → Prop} {YP : World → Heap → Prop} {d : DefRec} {K : Params → PySem.W.Frag} {sp : PySem.W.Frag → Sp} {x : Str}
    (most : l.most = some n) (fits : n ≤ sizeLine) (plain : d.params.defaults = []) (room : Room k callerA) (told : ∀ (mg : Str → Option Value) (h : Heap), XP mg h → TX mg) (inn : ∀ (w : World) (h : Heap), YP w h → (K w.params).In h)
    (prom : ∀ (w : World) (mg : Str → Option Value) (fa : Addr) (h : Heap), (K w.params).In h → h.Ns mainGlobals mg → mg d.name = some (.ref fa) → TX mg →
      ∃ fd : FuncData, (∀ (s : Shared) (u : Value), BindsTo s fd ⟨[u], []⟩ [(x, u)]) ∧ ∀ base : Heap, (K w.params).In base → base.Ns mainGlobals mg → FnG l.prog w (K w.params) mg base CX0 k fa fd [x] (sp (K w.params)))
    (holds : ∀ (K : PySem.W.Frag) (H : Hp) (a : Addr) (ns : List Int), ns.length ≤ n → SqL K H a (ns.map V.int) → sp K [.ref a] H (fun v _ => v = .bl true) fun _ _ _ => False) : PySem.W.WalkO q loose XP YP l.row.toRowW d [] (fun f vs => PySem.call f vs) := by
  refine Att.attach_call most plain fun w s0 st mg mb fa o pm cd doc a vs ns gg y ho hd hcd hmg hobj hints hlen hgen => ?_
  have kin := inn w _ y
  obtain ⟨fd, b, pr⟩ := prom w mg fa _ kin gg.T.g hmg (told _ _ gg.X)
  exact end_g kin gg.T.g gg.T.b gg.T.builtins gg.T.nolimit hgen hobj hints (Nat.le_trans hlen fits) room pr b fun H s => holds _ H a ns hlen s
end
end XB
set_option Elab.async false
set_option linter.all false
set_option maxRecDepth 100000
set_option maxHeartbeats 4000000
/-! the head of a law whose defs make lambdas: what their code objects keep of them is told, too -/
namespace XB
open PySem PySem.Spec PyProof.Rows L2
/-- the code objects of some defs of the module, each with its table -/
def tabsOf (K : PySem.W.Frag) (xs : List Str) : List (Addr × Addr) := xs.filterMap (PySem.W.tabIn K)
section
variable {P : Program} {w : World} {K : PySem.W.Frag} {mg mb : Str → Option Value} {k : Nat} {fa a : Addr} {fd : FuncData} {x : Str} {sp : Sp} {st : Shared} {vs : List Value} {ns : List Int}
theorem end_gT {ts : List (Addr × Addr)} (kin : K.In st.heap) (gl : st.heap.Ns mainGlobals mg) (bl : st.heap.Ns builtinsNs mb) (bb : ∀ y : Str, y ≠ "__name__" → mb y = bootBuiltins y) (nl : st.heap.NoLimit) (ge : st.gens = #[])
    (empty : ∀ t ∈ ts, st.heap.get? t.2 = some (PySem.W.tabObj #[])) (out : ∀ t ∈ ts, K.lookup t.2 = none) (heads : ∀ t ∈ ts, PySem.W.CodeHd st.heap t.1 t.2)
    (bm : ∃ (b : Addr) (o : Obj), mg "__builtins__" = some (.ref b) ∧ b ≠ builtinsNs ∧ st.heap.get? b = some o ∧ o.cls = .type "module" ∧ o.dict = some builtinsNs ∧ o.data = .plain)
    (at_ : st.heap.get? a = some (scriptO vs)) (whl : IntsAre vs ns) (short : ns.length ≤ sizeLine) (room : Room k callerA)
    (prom : ∀ base : Heap, K.In base → base.Ns mainGlobals mg → (∀ t ∈ ts, LamX.TabB base mg t.1 t.2) → FnG P w K mg base CX0 k fa fd [x] sp) (bnd : ∀ (s : Shared) (u : Value), BindsTo s fd ⟨[u], []⟩ [(x, u)])
    (holds : ∀ H : Hp, (∀ t ∈ ts, H t.2 = some (.tbl #[])) → SqL K H a (ns.map V.int) → sp [.ref a] H (fun v _ => v = .bl true) fun _ _ _ => False) :
    codeAny (model P w) callerA (.call (.ref fa) ⟨[.ref a], []⟩) (fun r t => r = .ok (.ret (.bool true)) ∧ OldK st.heap t.heap ∧ t.os = st.os ∧ AllBare t.gens) st := by
  have hv := vals_ints whl
  have notT : ∀ t ∈ ts, t.2 ≠ a := fun t ht z => by
    have q := empty t ht
    rw [z, at_] at q
    have q2 : (scriptO vs).data = (PySem.W.tabObj #[]).data := congrArg Obj.data (Option.some.inj q)
    have q3 : Data.seq vs.toArray _ = Data.fields #[] := q2
    cases q3
  obtain ⟨G, hG⟩ : ∃ G : Hp, ∀ b, G b = if b = a ∧ (K.lookup a).isNone = true then some (.frz (scriptO vs) (.lst (ns.map V.int))) else if (ts.any fun t => t.2 == b) = true then some (.tbl #[]) else none := ⟨fun b => if b = a ∧ (K.lookup a).isNone = true then _ else if (ts.any fun t => t.2 == b) = true then _ else none, fun _ => rfl⟩
  have only : ∀ b u, G b = some u → (b = a ∧ K.lookup a = none ∧ u = .frz (scriptO vs) (.lst (ns.map V.int))) ∨ ((∃ t ∈ ts, t.2 = b) ∧ u = .tbl #[]) := fun b u q => by
    rw [hG] at q
    by_cases c : b = a ∧ (K.lookup a).isNone = true
    · rw [if_pos c] at q
      exact .inl ⟨c.1, by simpa using c.2, (Option.some.inj q).symm⟩
    · rw [if_neg c] at q
      by_cases d : (ts.any fun t => t.2 == b) = true
      · rw [if_pos d] at q
        obtain ⟨t, ht, e⟩ := List.any_eq_true.mp d
        exact .inr ⟨⟨t, ht, eq_of_beq e⟩, (Option.some.inj q).symm⟩
      · rw [if_neg d] at q
        cases q
  have tbls : ∀ t ∈ ts, G t.2 = some (.tbl #[]) := fun t ht => by
    have here : (ts.any fun u => u.2 == t.2) = true := List.any_eq_true.mpr ⟨t, ht, beq_self_eq_true _⟩
    rw [hG, if_neg fun z => notT t ht z.1, if_pos here]
  have row : SqL K G a (ns.map V.int) := by
    cases q : K.lookup a with
    | none => exact .inl (.inr ⟨scriptO vs, by rw [hG, if_pos ⟨rfl, by rw [q]; rfl⟩]⟩)
    | some o =>
      have q2 := kin a o q
      rw [at_] at q2
      have q3 : o = scriptO vs := (Option.some.inj q2).symm
      subst q3
      exact .inr ⟨_, vs.toArray, _, q, rfl, rfl, rfl, by rw [List.size_toArray, whl.length]; exact short, by simpa using hv⟩
  have sound : HOk P w G st.heap := fun b u q => by
    rcases only b u q with ⟨rfl, _, rfl⟩ | ⟨⟨t, ht, rfl⟩, rfl⟩
    · exact ⟨at_, by rw [List.length_map]; exact short, vs, 0, hv, at_⟩
    · exact empty t ht
  have stays : ∀ {b : Addr} {o : Obj}, st.heap.get? b = some o → (b = a → o ≠ scriptO vs ∨ ∃ u, K.lookup a = some u) → ((∃ t ∈ ts, t.2 = b) → o ≠ PySem.W.tabObj #[]) → (hidT st.heap G).get? b = some o := fun {b o} q c d => by
    refine hidT_get q ?_
    cases g : G b with
    | none => rfl
    | some u =>
      rcases only b u g with ⟨e1, e2, _⟩ | ⟨⟨t, ht, e1⟩, _⟩
      · rcases c e1 with z | ⟨u', z⟩
        · rw [e1, at_] at q
          exact absurd (Option.some.inj q).symm z
        · rw [e2] at z
          cases z
      · have q2 := empty t ht
        rw [e1, q] at q2
        exact absurd (Option.some.inj q2) (d ⟨t, ht, e1⟩)
  have plain : ∀ {b : Addr} {o : Obj}, st.heap.get? b = some o → (∀ l n, o.data ≠ .seq l n) → o.data ≠ .fields #[] → (hidT st.heap G).get? b = some o := fun {b o} q c d => stays q (fun _ => .inl fun z => by subst z; exact c _ _ rfl) fun _ z => by subst z; exact d rfl
  have names : ∀ {b : Addr} {f : Str → Option Value}, st.heap.Ns b f → (hidT st.heap G).Ns b f := fun {b f} h => by
    obtain ⟨o, es, ep, q, d, r⟩ := h
    refine ⟨o, es, ep, plain q (fun l n z => ?_) (fun z => ?_), d, r⟩ <;> (rw [d] at z; cases z)
  have kin' : K.In (hidT st.heap G) := fun b o q => stays (kin b o q) (fun e => .inr ⟨o, by rw [← e]; exact q⟩) fun ⟨t, ht, e⟩ _ => by
    have n := out t ht
    rw [e, q] at n
    cases n
  have md : Mod K mg (hidT st.heap G) := ⟨kin', names gl, ⟨mb, names bl, bb⟩, by obtain ⟨mc, n1, n2⟩ := nl; exact ⟨mc, names n1, n2⟩⟩
  have heads' : ∀ t ∈ ts, LamX.TabB (hidT st.heap G) mg t.1 t.2 := fun t ht => by
    refine ⟨?_, ?_, fun z => ?_⟩
    · obtain ⟨co, cv, f1, f2, f3, f4, f5, f6, f7, g0, g1, g2, g3, g4, g5, g6, g7, g8, g9⟩ := heads t ht
      refine ⟨co, cv, f1, f2, f3, f4, f5, f6, f7, plain g0 (fun l n z => ?_) (fun z => ?_), g1, g2, g3, g4, g5, g6, g7, g8, g9⟩
      · rw [g2] at z
        cases z
      · rw [g2] at z
        cases z
        simp at g3
    · obtain ⟨b, o, b1, b2, b3, b4, b5, b6⟩ := bm
      refine ⟨b, o, b1, b2, fun z => ?_, fun z => ?_, plain b3 (fun l n z => ?_) (fun z => ?_), b4, b5, b6⟩
      · obtain ⟨o2, es, ep, q, d, _⟩ := gl
        rw [z, q] at b3
        cases b3
        rw [d] at b6
        cases b6
      · have q := empty t ht
        rw [← z, b3] at q
        cases q
        cases b6
      · rw [b6] at z
        cases z
      · rw [b6] at z
        cases z
    · obtain ⟨o2, es, ep, q, d, _⟩ := gl
      have q2 := empty t ht
      rw [← z, q] at q2
      cases q2
      cases d
  have none_in : ∀ {b : Addr}, b ∉ ([] : List Addr) := fun {b} z => by cases z
  have e0 : Env0 P w K mg (hidT st.heap G) callerA [] st G := { frames := rfl, mod := md, bs := fun _ _ q => of_hidT q, bsz := Nat.le_of_eq (hidT_size _ _), funs := trivial, frf := fun b z => absurd (show b ∈ ([] : List Addr) from z) none_in, hok := sound, bare := .of_eq ge }
  have ran := (prom _ kin' (names gl) heads').goes (A := callerA) (outer := []) (Q := fun v _ => v = .bl true) (E := fun _ _ _ => False) (args := ⟨[.ref a], []⟩) (us := [.ref a]) (vs := [.ref a]) rfl room e0 (bnd st (.ref a)) (.cons (show Value.ref a = Value.ref a from rfl) .nil) (holds G tbls row)
  refine codeAny_mono ran ?_
  intro r t q
  match r, q with
  | .ok (.ret u), q =>
    obtain ⟨v, G', e1, e2, un, ok', rv, ev⟩ := q
    have ev : v = .bl true := ev
    subst ev
    have eu : u = Value.bool true := rv
    rw [eu]
    have kept : ∀ b o, (∀ y ∈ ts, y.2 ≠ b) → st.heap.get? b = some o → t.heap.get? b = some o := fun b o nb hb => by
      cases g : G b with
      | none => exact un.keep b o hb g (fun z => absurd (show b ∈ ([] : List Addr) from z) none_in) none_in
      | some y =>
        rcases only b y g with ⟨_, _, rfl⟩ | ⟨⟨y2, hy, e⟩, _⟩
        · have c1 := (sound b _ g).1
          have c2 := (ok' b _ (un.frzs b _ _ g)).1
          rw [hb] at c1
          rw [c2, ← c1]
        · exact absurd e (nb y2 hy)
    have grew : ∀ y ∈ ts, ∃ more : Array Value, t.heap.get? y.2 = some (PySem.W.tabObj more) := fun y hy => by
      obtain ⟨more, z⟩ := un.tbls y.2 #[] (tbls y hy)
      exact ⟨_, ok' y.2 _ z⟩
    refine ⟨rfl, ⟨fun b o hb => ?_, fun b o hb => ?_⟩, e1, e2⟩
    · rcases Classical.em (∃ y ∈ ts, y.2 = b) with ⟨y, hy, rfl⟩ | h
      · obtain ⟨more, hm⟩ := grew y hy
        have q := empty y hy
        rw [q] at hb
        cases hb
        exact .inr (.inl ⟨((heads y hy).tab q).isCodeTable, rfl, #[], more, rfl, by rw [Array.empty_append]; exact hm⟩)
      · exact .inl (kept b o (fun y hy e => h ⟨y, hy, e⟩) hb)
    · rcases Classical.em (∃ y ∈ ts, y.2 = b) with ⟨y, hy, rfl⟩ | h
      · obtain ⟨more, hm⟩ := grew y hy
        exact ⟨_, hm⟩
      · exact ⟨o, kept b o (fun y hy e => h ⟨y, hy, e⟩) hb⟩
  | .ok .next, q => exact False.elim q
  | .ok .brk, q => exact False.elim q
  | .ok .cont, q => exact False.elim q
  | .error _, q => exact False.elim q
/-- the walk to the law, with the tables of the defs that make lambdas -/
theorem walk_gT {TX : (Str → Option Value) → Prop} {l : PySem.W.OpenLaw} {n k : Nat} {q : Program} {loose : List Str} {XP : (Str → Option Value) → Heap → Prop} {YP : World → Heap → Prop} {d : DefRec} {K : Params → PySem.W.Frag} {sp : PySem.W.Frag → Sp} {x : Str} {xs : List Str}
    (most : l.most = some n) (fits : n ≤ sizeLine) (plain : d.params.defaults = []) (room : Room k callerA) (told : ∀ (mg : Str → Option Value) (h : Heap), XP mg h → TX mg) (inn : ∀ (w : World) (h : Heap), YP w h → (K w.params).In h)
    (recs : ∀ y ∈ xs, ∃ e, (recsOf q).find? (fun e => e.name == y) = some e) (noT : ∀ w : World, PySem.W.noTabs (K w.params) = true)
    (prom : ∀ (w : World) (mg : Str → Option Value) (fa : Addr) (h : Heap), (K w.params).In h → h.Ns mainGlobals mg → mg d.name = some (.ref fa) → TX mg →
      ∃ fd : FuncData, (∀ (s : Shared) (u : Value), BindsTo s fd ⟨[u], []⟩ [(x, u)]) ∧ ∀ base : Heap, (K w.params).In base → base.Ns mainGlobals mg → (∀ t ∈ tabsOf (K w.params) xs, LamX.TabB base mg t.1 t.2) → FnG l.prog w (K w.params) mg base CX0 k fa fd [x] (sp (K w.params)))
    (holds : ∀ (K : PySem.W.Frag) (H : Hp) (a : Addr) (ns : List Int), ns.length ≤ n → (∀ t ∈ tabsOf K xs, H t.2 = some (.tbl #[])) → SqL K H a (ns.map V.int) → sp K [.ref a] H (fun v _ => v = .bl true) fun _ _ _ => False) : PySem.W.WalkO q loose XP YP l.row.toRowW d [] (fun f vs => PySem.call f vs) := by
  refine Att.attach_call most plain fun w s0 st mg mb fa o pm cd doc a vs ns gg y ho hd hcd hmg hobj hints hlen hgen => ?_
  have kin := inn w _ y
  obtain ⟨fd, b, pr⟩ := prom w mg fa _ kin gg.T.g hmg (told _ _ gg.X)
  have all : ∀ t ∈ tabsOf (K w.params) xs, PySem.W.CodeHd st.heap t.1 t.2 ∧ st.heap.get? t.2 = some (PySem.W.tabObj #[]) := fun t ht => by
    obtain ⟨y, hy, e⟩ := List.mem_filterMap.mp ht
    obtain ⟨r, hr⟩ := recs y hy
    exact PySem.W.tab_of gg.T kin hr e
  refine end_gT kin gg.T.g gg.T.b gg.T.builtins gg.T.nolimit hgen (fun t ht => (all t ht).2) (fun t ht => ?_) (fun t ht => (all t ht).1) gg.T.bmain hobj hints (Nat.le_trans hlen fits) room pr b fun H hT s => holds _ H a ns hlen hT s
  cases e : (K w.params).lookup t.2 with
  | none => rfl
  | some o =>
    have k1 := kin _ o e
    rw [(all t ht).2] at k1
    cases k1
    have k2 := List.all_eq_true.mp (noT w) _ (PySem.W.mem_of_lookupK e)
    cases k2
end
end XB
set_option Elab.async false
set_option linter.all false
set_option maxRecDepth 100000
set_option maxHeartbeats 4000000
/-! defs that make lambdas: their code objects are known; a tuple of one thing many times over -/
namespace XB
open PySem PySem.Spec PyProof.Rows L2
/-- the code object of a def that makes lambdas, and its table -/
structure CodeT (K : PySem.W.Frag) (mg : Str → Option Value) (base : Heap) (x : Str) (c tab : Addr) : Prop where
  code : ∀ (f : Addr) (o : Obj) (fd : FuncData), mg x = some (.ref f) → K.lookup f = some o → o.data = .func fd → fd.code = .ref c
  tb : LamX.TabB base mg c tab
section
variable {P : Program} {w : World} {K : PySem.W.Frag} {mg : Str → Option Value} {base : Heap}
theorem clC {x : Str} {st : Stmt} {N ps : List Str} {k : Nat} {sp : Sp} {c tab : Addr} (D : Dn K mg x st) (C : CodeT K mg base x c tab)
    (hb : ∀ (kV doc pm : Value) (an : Option Addr) (cdv ct : Value) (us : List Value), us.length = ps.length → bindArgs (PySem.W.fnOf x x (defArgs st) (defBody st) (defScope st) .none kV doc pm an cdv ct) ⟨us, []⟩ = pure (ps.zip us))
    (S : FnScope N ps (defScope st)) (len : ∀ vs H Q E, sp vs H Q E → vs.length = ps.length)
    (body : ∀ (f : Addr) (A : Around) (outer : List Env) (s : Shared) (H : Hp) (vs : List V) (Q : VK) (E : XK), Room k (A.deeper (envOfC x (defScope st) s.heap.objs.size f (.ref c))) → sp vs H Q E →
      ∃ t, PSs (cxOf CX0 P w K mg base N x (defScope st) f (.ref c) A outer s H E).nox (defBody st) t ∧ t { nx := fun _ H' => Q .non H', rt := Q } (start N vs) H) : Cl P w K mg base CX0 (k + 1) x sp := by
  obtain ⟨f, fd, F, hm⟩ := D.ex
  obtain ⟨oc, od, kV, doc, pm, an, cdv, ct, osl, rfl, lk, hcd⟩ := id F.ex
  obtain rfl : cdv = .ref c := C.code f _ _ hm lk rfl
  refine ⟨f, _, ps, fn_of lk hcd S len fun A outer s H vs Q E hr h => ?_, hm, F.kp, F.binds hb⟩
  obtain ⟨t, ht, q⟩ := body f A outer s H vs Q E hr h
  exact ⟨t, ht.nox, q⟩
theorem fgC {x : Str} {st : Stmt} {N ps : List Str} {k : Nat} {sp : Sp} {fl c tab : Addr} {fd : FuncData} (F : Fun K x x st fl fd) (hm : mg x = some (.ref fl)) (C : CodeT K mg base x c tab) (S : FnScope N ps (defScope st)) (len : ∀ vs H Q E, sp vs H Q E → vs.length = ps.length)
    (body : ∀ (f : Addr) (A : Around) (outer : List Env) (s : Shared) (H : Hp) (vs : List V) (Q : VK) (E : XK), (A.deeper (envOfC x (defScope st) s.heap.objs.size f (.ref c))).guards = some [] → Room k (A.deeper (envOfC x (defScope st) s.heap.objs.size f (.ref c))) → sp vs H Q E →
      ∃ t, PSs (cxOf CX0 P w K mg base N x (defScope st) f (.ref c) A outer s H E).nox (defBody st) t ∧ t { nx := fun _ H' => Q .non H', rt := Q } (start N vs) H) : FnG P w K mg base CX0 (k + 1) fl fd ps sp := by
  obtain ⟨oc, od, kV, doc, pm, an, cdv, ct, osl, rfl, lk, hcd⟩ := id F.ex
  obtain rfl : cdv = .ref c := C.code fl _ _ hm lk rfl
  refine fng_of lk hcd S len fun A outer s H vs Q E hg hr h => ?_
  obtain ⟨t, ht, q⟩ := body fl A outer s H vs Q E hg hr h
  exact ⟨t, ht.nox, q⟩
theorem codeT_mk {h : Heap} {x : Str} {c tab : Addr} (X : K.In h) (G : h.Ns mainGlobals mg) (ht : PySem.W.tabIn K x = some (c, tab)) (tb : LamX.TabB base mg c tab) : CodeT K mg base x c tab :=
  ⟨fun f o fd hm ho hd => PySem.W.law_code X G ht hm (X f o ho) hd, tb⟩
end
/-- a tuple of one thing, many times over -/
def rMulM (K : PySem.W.Frag) : R2 := fun x y H Q => ∃ l k z, x = .ref l ∧ y = .int k ∧ SqT K H l [z] ∧ 2 ≤ k ∧ k ≤ 100000 ∧ ∀ H' p, Same H H' → SqT K H' p (List.replicate k.toNat z) → Q (.ref p) H'
theorem rep_flat1 {α : Type} (z : α) : ∀ n : Nat, (List.replicate n [z]).flatten = List.replicate n z := fun n => by
  induction n with
  | zero => rfl
  | succ n ih => rw [List.replicate_succ, List.flatten_cons, ih, List.replicate_succ]; rfl
theorem op_mulM {X : Cx} {K : PySem.W.Frag} (hk : X.K = K) : OpR X (binaryOp .Mult) (rMulM K) := by
  subst hk
  intro pins s σ H x y v u Q I rx ry h
  obtain ⟨l, k, z, rfl, rfl, hT, k2, kM, q⟩ := h
  cases rx
  obtain ⟨tk, rfl⟩ := ry
  obtain ⟨its, rel, ⟨⟨oc, od, dat, slo⟩, hob, ecl, nn, eda⟩, hsz⟩ := I.tuple hT
  simp only at ecl eda
  subst ecl eda
  obtain ⟨a, rfl⟩ : ∃ a, its = [a] := by
    cases rel with
    | cons _ r2 => cases r2; exact ⟨_, rfl⟩
  have big : (decide (k < -(2 ^ 63)) || decide (k ≥ 2 ^ 63)) = false := by
    rw [Bool.or_eq_false_iff]
    exact ⟨decide_eq_false (by omega), decide_eq_false (by omega)⟩
  have one : (([a].toArray.isEmpty) || k == 1) = false := by
    rw [Bool.or_eq_false_iff]
    exact ⟨rfl, beq_eq_false_iff_ne.mpr (by omega)⟩
  have nil : (decide (k ≤ 0) || ([a].toArray.isEmpty)) = false := by
    rw [Bool.or_eq_false_iff]
    exact ⟨decide_eq_false (by omega), rfl⟩
  have sz1 : (([a].toArray.size : Nat) : Int) * k = k := by
    show (((1 : Nat) : Int)) * k = k
    omega
  have many : Builtin.Tuple.tupleTooMany ((([a].toArray.size : Nat) : Int) * k) = false := by
    rw [sz1]
    unfold Builtin.Tuple.tupleTooMany
    rw [sizeLine_eq]
    exact decide_eq_false (by omega)
  have laid : (List.replicate k.toNat a).length ≤ sizeLine := by
    rw [List.length_replicate, sizeLine_eq]
    omega
  have e0 : (List.foldl (fun b c => b ++ c) #[] (List.replicate k.toNat [a].toArray)) = (List.replicate k.toNat a).toArray := by
    rw [size_rep, rep_flat1]
  refine wpAny_binaryOp_repeat_ref (T := "tuple") (U := "int") (by decide) ⟨_, hob, rfl⟩ (fun s' => typeIs_int s' k tk) noFill_tuple_mul F.fills_int_mul F.slot_int_rmul repeat_tuple F.slot_int_index.lookup ?_
  refine call_meets F.slot_int_rmul (typeIs_int s k tk) F.entry_int_rmul (F.args_int_rmul_2 _ _) (int_rmul_tuple k tk l [a].toArray nn od slo) ⟨hob, rfl, ⟨_, hob, rfl⟩, ?_⟩
  refine call_meets F.slot_tuple_mul ⟨_, hob, rfl⟩ F.entry_tuple_mul (F.args_tuple_mul_2 _ _) (tuple_mulW l [a].toArray nn od slo k tk big one nil (by rw [sz1]; omega) many (by rw [e0, List.size_toArray]; exact laid)) ⟨hob, ?_⟩
  rw [e0]
  have rel1 : Vals (List.replicate k.toNat z) (List.replicate k.toNat a) := by
    have r := rel.rep k.toNat
    rw [rep_flat1, rep_flat1] at r
    exact r
  refine ⟨.ref s.heap.objs.size, _, I.laid (t' := s.toks) (o := .tup (List.replicate k.toNat z)) (fun b ob e => Heap.get?_push_of_some _ e) (Nat.le_refl _) ?_, rfl, q _ _ (same_upd (I.hok.fresh (Nat.le_refl _))) (SqT.of upd_same)⟩
  exact ⟨by rw [List.length_replicate, sizeLine_eq]; omega, _, rel1, IsTup.new _ _⟩
end XB
set_option Elab.async false
set_option linter.all false
set_option maxRecDepth 100000
set_option maxHeartbeats 4000000
/-! defs that make lambdas and call what wants the guards known (repr): clC and cg0 in one -/
namespace XB
open PySem PySem.Spec PyProof.Rows L2
section
variable {P : Program} {w : World} {K : PySem.W.Frag} {mg : Str → Option Value} {base : Heap}
theorem cgC {x : Str} {st : Stmt} {N ps : List Str} {k : Nat} {sp : Sp} {c tab : Addr} (D : Dn K mg x st) (C : CodeT K mg base x c tab)
    (hb : ∀ (kV doc pm : Value) (an : Option Addr) (cdv ct : Value) (us : List Value), us.length = ps.length → bindArgs (PySem.W.fnOf x x (defArgs st) (defBody st) (defScope st) .none kV doc pm an cdv ct) ⟨us, []⟩ = pure (ps.zip us))
    (S : FnScope N ps (defScope st)) (len : ∀ vs H Q E, sp vs H Q E → vs.length = ps.length)
    (body : ∀ (f : Addr) (A : Around) (outer : List Env) (s : Shared) (H : Hp) (vs : List V) (Q : VK) (E : XK), (A.deeper (envOfC x (defScope st) s.heap.objs.size f (.ref c))).guards = some [] → Room k (A.deeper (envOfC x (defScope st) s.heap.objs.size f (.ref c))) → sp vs H Q E →
      ∃ t, PSs (cxOf CX0 P w K mg base N x (defScope st) f (.ref c) A outer s H E).nox (defBody st) t ∧ t { nx := fun _ H' => Q .non H', rt := Q } (start N vs) H) : Cg P w K mg base CX0 (k + 1) x sp := by
  obtain ⟨f, fd, F, hm⟩ := D.ex
  exact ⟨f, fd, ps, fgC F hm C S len body, hm, F.kp, F.binds hb⟩
end
/-- two things of an own class, joined by the operator whose method has that name -/
theorem op_O2e {X : Cx} {CX : CXT} {k j : Nat} {x m : Str} {sp : Sp} {E : XK} (op : Operator) (he : dunder op.info.snd = m) (O : Oc X.K X.mg x) (c : MCl X.prog X.w X.K X.mg X.base CX k x m sp) (hr : Room j X.A) (hk : k ≤ j) (hx : Passes CX X E) : OpR X (binaryOp op) (rO2 X.mg x sp E) := by
  subst he
  exact op_O2 O c hr hk hx
/-- a method called: pe_meth or pe_meth0 told by names -/
theorem pe_mtOf {X : Cx} {CX : CXT} {k : Nat} {x m : Str} {sp : Sp} {E : XK} {e : Expr} {ta : TE} {t : TA} (O : Oc X.K X.mg x) (c : MCl X.prog X.w X.K X.mg X.base CX k x m sp)
    (h : ∀ (C f : Addr) (fd : FuncData) (ps : List Str), Cls X.K C → Meth X.K C m f → FnOk X.prog X.w X.K X.mg X.base CX k f fd ps sp → L2.Binds X.K fd ps [] → PE X e (tMeth C m sp [] E ta t)) : PE X e (tMtO X.mg x m sp E ta t) := by
  obtain ⟨C, f, fd, ps, hm, M, F, b, _⟩ := c.ex
  rw [mtO_eq hm]
  exact h C f fd ps (oc_cls O hm) M F b
/-! the same in a lambda's body: K and mg told apart (a reading with X.mg in it cannot be found there) -/
section
variable {X : Cx} {K : PySem.W.Frag} {mg : Str → Option Value} {CX : CXT} {k j : Nat} {x m : Str} {sp : Sp} {E : XK}
theorem op_O2k (hK : X.K = K) (hmg : X.mg = mg) (op : Operator) (he : dunder op.info.snd = m) (O : Oc K mg x) (c : MCl X.prog X.w K mg X.base CX k x m sp) (hr : Room j X.A) (hk : k ≤ j) (hx : Passes CX X E) : OpR X (binaryOp op) (rO2 mg x sp E) := by
  subst hK hmg
  exact op_O2e op he O c hr hk hx
theorem pe_mtOk {pos apos : Pos} {e o : Expr} {es : List Expr} {ta : TE} {t : TA} {pl : Sem Bool} (hK : X.K = K) (hmg : X.mg = mg) (O : Oc K mg x) (c : MCl X.prog X.w K mg X.base CX k x m sp) (ho : PE X o ta) (hr : Room j X.A) (hk : k ≤ j) (hx : Passes CX X E) (ha : PA X (e :: es) t)
    (h1 : starEach (e :: es) X.env = (false, eval e X.env) :: starEach es X.env := by rfl) (h2 : ((backTo pos (starEach es X.env)).any fun x => x.fst) = false := by rfl)
    (h3 : eval ((o.Attribute m apos).Call (e :: es) [] pos) X.env = (do
      let ov ← eval o X.env
      standAt apos.atName
      let y ← holding [ov] (getMethod ov m pl)
      match y with
        | (f, first) => callWith pos f first (backTo pos (starEach (e :: es) X.env)) (backToKw pos (keywordEach [] X.env))) := by rfl) : PE X ((o.Attribute m apos).Call (e :: es) [] pos) (tMtO mg x m sp E ta t) := by
  subst hK hmg
  exact pe_mtO O c ho hr hk hx ha h1 h2 h3
theorem pe_mtO0k {pos apos : Pos} {o : Expr} {ta : TE} {pl : Sem Bool} (hK : X.K = K) (hmg : X.mg = mg) (O : Oc K mg x) (c : MCl X.prog X.w K mg X.base CX k x m sp) (ho : PE X o ta) (hr : Room j X.A) (hk : k ≤ j) (hx : Passes CX X E)
    (h3 : eval ((o.Attribute m apos).Call [] [] pos) X.env = (do
      let ov ← eval o X.env
      standAt apos.atName
      let y ← holding [ov] (getMethod ov m pl)
      match y with
        | (f, first) => callWith pos f first (backTo pos (starEach [] X.env)) (backToKw pos (keywordEach [] X.env))) := by rfl) : PE X ((o.Attribute m apos).Call [] [] pos) (tMtO mg x m sp E ta tNil) := by
  subst hK hmg
  exact pe_mtO0 O c ho hr hk hx h3
theorem pe_ixOk {a b : Expr} {ta tb : TE} {pos : Pos} (hK : X.K = K) (hmg : X.mg = mg) (c : MCl X.prog X.w K mg X.base CX k x "__getitem__" sp) (hr : Room j X.A) (hk : k + 1 ≤ j) (hx : Passes CX X E)
    (ha : PE X a ta) (hbb : PE X b tb) (hsl : ∀ o i, subscripted b true o i = runValue (Code.builtin "lifetime.subscript" ⟨[o, i], []⟩) := by exact fun _ _ => rfl) (hlt : ∀ o r, letTemporaryGo a o r = pure () := by exact fun _ _ => rfl) : PE X (.Subscript a b pos) (tOp (rOIx mg x sp E) ta tb) := by
  subst hK hmg
  exact pe_ixO c hr hk hx ha hbb hsl hlt
theorem pe_mkOk {p pos : Pos} {e : Expr} {es : List Expr} {t : TA} (hK : X.K = K) (hmg : X.mg = mg) (O : Oc K mg x) (c : MCl X.prog X.w K mg X.base CX k x "__init__" sp) (hr : Room j X.A) (hk : k + 1 ≤ j) (hg : Gl X x) (hx : Passes CX X E) (ha : PA X (e :: es) t)
    (h0 : (x == ("__debug__" : Str)) = false := by decide) (h1 : starEach (e :: es) X.env = (false, eval e X.env) :: starEach es X.env := by rfl) (h2 : ((backTo pos (starEach es X.env)).any fun x => x.fst) = false := by rfl) : PE X ((Expr.Name x p).Call (e :: es) [] pos) (tMkO mg x sp E t) := by
  subst hK hmg
  exact pe_mkO O c hr hk hg hx ha h0 h1 h2
end
end XB
set_option Elab.async false
set_option linter.all false
set_option maxRecDepth 100000
set_option maxHeartbeats 4000000
/-! x in o, of an own class -/
namespace XB
open PySem PySem.Spec PyProof.Rows L2
def rOIn (mg : Str → Option Value) (x : Str) (sp : Sp) (E : XK) : R2 := fun u v H Q => ∃ a fs, v = .ref a ∧ Ins mg x H a fs ∧ sp [v, u] H (fun r H' => ∃ b, r = .bl b ∧ Q (.bl b) H') E
section
variable {X : Cx} {CX : CXT} {k j : Nat} {x m : Str} {sp : Sp} {E : XK}
theorem op_inO (c : MCl X.prog X.w X.K X.mg X.base CX k x "__contains__" sp) (hr : Room j X.A) (hk : k ≤ j) (hx : Passes CX X E) : OpR X (compareOp .In) (rOIn X.mg x sp E) := by
  obtain ⟨C, f, fd, ps, hm, M, F, b, _⟩ := c.ex
  intro pins s σ H u v a b' Q I rx ry h
  obtain ⟨p, fs, h1, h2, h3⟩ := h
  rw [ins_eq hm] at h2
  obtain ⟨dx, h2⟩ := h2
  subst h1
  obtain rfl : b' = .ref p := by first | exact ry | exact rx
  obtain ⟨ox, od, ia⟩ := ins_at I h2
  obtain ⟨n, fr⟩ := I.fr
  refine PySem.W.in_K fr I.mod.kin ia M.at_ M.fn (wpAny_mono (run_def F (hr.mono hk) b hx I (show Vals [V.ref p, u] [Value.ref p, a] from .cons rfl (.cons rx .nil)) h3) (fun u' s' h' => ?_) fun e s' he => he)
  obtain ⟨r, H', I', rr, t, rfl, q⟩ := h'
  obtain rfl : u' = .bool t := rr
  exact wpAny_pure ⟨.bl t, H', I', rfl, q⟩
theorem op_inOk {K : PySem.W.Frag} {mg : Str → Option Value} (hK : X.K = K) (hmg : X.mg = mg) (c : MCl X.prog X.w K mg X.base CX k x "__contains__" sp) (hr : Room j X.A) (hk : k ≤ j) (hx : Passes CX X E) : OpR X (compareOp .In) (rOIn mg x sp E) := by
  subst hK hmg
  exact op_inO c hr hk hx
end
end XB
set_option Elab.async false
set_option linter.all false
set_option maxRecDepth 100000
set_option maxHeartbeats 4000000
namespace XB
open PySem PySem.Spec PyProof.Rows L2
/-! sheets as data -/
abbrev Stp := Str × Int
/-- a step with its number -/
abbrev Itm := Nat × Stp
def dItm (p : Itm) : PyData := .tuple [.int (p.1 : Int), dStep p.2]
def dRow (r : List Itm) : PyData := .tuple (r.map dItm)
/-- a row with the number of the next step -/
structure SS where
  row : List Itm
  cnt : Nat
def dSS (s : SS) : PyData := .tuple [dRow s.row, .int (s.cnt : Int)]
/-- a sheet: now, what is ahead (the latest last), what was undone (the next first) -/
structure Sh where
  now : SS
  past : List SS
  fut : List SS
def dSh (h : Sh) : PyData := .tuple [dSS h.now, .tuple (h.past.map dSS), .tuple (h.fut.map dSS)]
theorem flat_itm (p : Itm) : flatD (dItm p) = true := rfl
theorem flat_items (r : List Itm) : flatAll (r.map dItm) = true := flatAll_of fun d hd => by
  obtain ⟨s, _, rfl⟩ := List.mem_map.mp hd
  rfl
theorem flat_row (r : List Itm) : flatD (dRow r) = true := by
  unfold dRow
  simp only [flatD]
  exact flat_items r
theorem flat_ss (s : SS) : flatD (dSS s) = true := by
  unfold dSS
  simp only [flatD, flatAll, flat_row, Bool.true_and]
theorem flat_sss (l : List SS) : flatAll (l.map dSS) = true := flatAll_of fun d hd => by
  obtain ⟨s, _, rfl⟩ := List.mem_map.mp hd
  exact flat_ss s
theorem flat_sh (h : Sh) : flatD (dSh h) = true := by
  unfold dSh
  simp only [flatD, flatAll, flat_ss, flat_sss, Bool.true_and]
end XB
namespace L2
open PySem PySem.Spec PyProof.Rows XB
section
variable {K : PySem.W.Frag}
theorem Dp.itm {H : Hp} {v : V} {p : Itm} (h : Dp K H v (dItm p)) : ∃ a b, v = .ref a ∧ SqT K H a [.int (p.1 : Int), .ref b] ∧ SqT K H b [.str p.2.1, .int p.2.2] := by
  unfold dItm at h
  cases h with
  | tup hs ha =>
  cases ha with
  | cons h1 ha =>
  cases ha with
  | cons h2 ha =>
  cases ha
  cases h1
  obtain ⟨b, rfl, hb⟩ := Dp.step (s := p.2) h2
  exact ⟨_, b, rfl, hs, hb⟩
theorem Dp.of_itm {H : Hp} {a b : Addr} {p : Itm} (h1 : SqT K H a [.int (p.1 : Int), .ref b]) (h2 : SqT K H b [.str p.2.1, .int p.2.2]) : Dp K H (.ref a) (dItm p) := .tup h1 (.cons (.int _) (.cons (Dp.of_step (s := p.2) h2) .nil))
theorem Dp.row {H : Hp} {v : V} {r : List Itm} (h : Dp K H v (dRow r)) : ∃ a xs, v = .ref a ∧ SqT K H a xs ∧ DpAll K H xs (r.map dItm) := by
  unfold dRow at h
  cases h with
  | tup hs ha => exact ⟨_, _, rfl, hs, ha⟩
theorem Dp.ss {H : Hp} {v : V} {s : SS} (h : Dp K H v (dSS s)) : ∃ a r, v = .ref a ∧ SqT K H a [.ref r, .int (s.cnt : Int)] ∧ Dp K H (.ref r) (dRow s.row) := by
  unfold dSS at h
  cases h with
  | tup hs ha =>
  cases ha with
  | cons h1 ha =>
  cases ha with
  | cons h2 ha =>
  cases ha
  cases h2
  obtain ⟨r, xs, rfl, _⟩ := id h1.row
  exact ⟨_, r, rfl, hs, h1⟩
theorem Dp.sh {H : Hp} {v : V} {s : Sh} (h : Dp K H v (dSh s)) : ∃ a n p f ps fs, v = .ref a ∧ SqT K H a [.ref n, .ref p, .ref f] ∧ Dp K H (.ref n) (dSS s.now) ∧ SqT K H p ps ∧ DpAll K H ps (s.past.map dSS) ∧ SqT K H f fs ∧ DpAll K H fs (s.fut.map dSS) := by
  unfold dSh at h
  cases h with
  | tup hs ha =>
  cases ha with
  | cons h1 ha =>
  cases ha with
  | cons h2 ha =>
  cases ha with
  | cons h3 ha =>
  cases ha
  obtain ⟨n, xs, rfl, _⟩ := id h1.ss
  cases h2 with
  | tup hp hpd =>
  cases h3 with
  | tup hf hfd => exact ⟨_, n, _, _, _, _, rfl, hs, h1, hp, hpd, hf, hfd⟩
end
end L2
namespace XB
open PySem PySem.Spec PyProof.Rows L2
/-- a row that is good: names, times, numbers ascending, below the next one -/
structure SOk (F : Fld) (s : SS) : Prop where
  good : ∀ p ∈ s.row, p.2.1 ∈ F.names ∧ GoodTimes p.2.2
  asc : (s.row.map Prod.fst).Pairwise (· < ·)
  lt : ∀ p ∈ s.row, p.1 < s.cnt
  len : s.row.length ≤ 60
  cn : s.cnt ≤ 70
structure ShOk (F : Fld) (h : Sh) : Prop where
  now : SOk F h.now
  past : ∀ s ∈ h.past, SOk F s
  fut : ∀ s ∈ h.fut, SOk F s
/-- the numbers of the steps by which names are held -/
def holdN (F : Fld) : List Str → List Itm → List Nat
  | _, [] => []
  | ns, p :: r => if ns.any (fun x => (OF F).tc x p.2.1) then p.1 :: holdN F (ns ++ [p.2.1]) r else holdN F ns r
/-- the numbers of the steps by which the one at a place is held -/
def holdAt (F : Fld) (r : List Itm) (i : Nat) : List Nat := match r[i]? with
  | some p => holdN F [p.2.1] (r.drop (i + 1))
  | none => []
end XB
set_option Elab.async false
set_option linter.all false
set_option maxRecDepth 100000
set_option maxHeartbeats 4000000
namespace XB
open PySem PySem.Spec PyProof.Rows L2
theorem DpAll.set1 {K : PySem.W.Frag} {H : Hp} {v : V} {d : PyData} (hv : Dp K H v d) : ∀ {vs : List V} {ds : List PyData} (i : Nat), DpAll K H vs ds → DpAll K H (vs.set i v) (ds.set i d)
  | _, _, _, .nil => .nil
  | _, _, 0, .cons _ t => .cons hv t
  | _, _, i + 1, .cons h t => .cons h (DpAll.set1 hv i t)
theorem DpAll.er {K : PySem.W.Frag} {H : Hp} : ∀ {vs : List V} {ds : List PyData} (i : Nat), DpAll K H vs ds → DpAll K H (vs.eraseIdx i) (ds.eraseIdx i)
  | _, _, _, .nil => .nil
  | _, _, 0, .cons _ t => t
  | _, _, i + 1, .cons h t => .cons h (DpAll.er i t)
theorem map_er {α β : Type} (f : α → β) : ∀ (l : List α) (i : Nat), (l.eraseIdx i).map f = (l.map f).eraseIdx i
  | [], _ => rfl
  | _ :: _, 0 => rfl
  | x :: l, i + 1 => by
    show f x :: (l.eraseIdx i).map f = f x :: (l.map f).eraseIdx i
    rw [map_er f l i]
/-- a list of steps put in at a place -/
theorem DpAll.inI {K : PySem.W.Frag} {H : Hp} {vs : List V} {row : List (Str × Int)} {v : V} {s : Str × Int} (hv : Dp K H v (dStep s)) (i : Nat) (h : DpAll K H vs (row.map dStep)) :
    DpAll K H (vs.take i ++ [v] ++ vs.drop i) ((row.take i ++ s :: row.drop i).map dStep) := by
  rw [List.append_assoc, List.map_append, List.map_cons, List.map_take, List.map_drop]
  exact (h.take i).app (.cons hv (h.drop i))
section
variable {P : Program} {w : World} {K : PySem.W.Frag} {mg : Str → Option Value} {base : Heap}
/-- the row as the program changes it stands in a list of its own -/
def Row1 (K : PySem.W.Frag) (H : Hp) (D : Addr) (row : List (Str × Int)) : Prop := ∃ xs, H D = some (.lst xs) ∧ DpAll K H xs (row.map dStep)
theorem Row1.put {K : PySem.W.Frag} {H : Hp} {D : Addr} {xs ys : List V} {row : List (Str × Int)} (e : H D = some (.lst xs)) (h : DpAll K H ys (row.map dStep)) : Row1 K (upd H D (.lst ys)) D row :=
  ⟨ys, upd_same, DpAll.tk (Tk.refl.lst e) _ (flat_all_steps row) h⟩
theorem TouchAt.lst {K : PySem.W.Frag} {H : Hp} {t D : Addr} {F : Fld} {xs ys : List V} (h : TouchAt K H t F) (e : H D = some (.lst xs)) : TouchAt K (upd H D (.lst ys)) t F := by
  obtain ⟨kvs, e1, g⟩ := h
  have k : Tk H (upd H D (.lst ys)) := Tk.refl.lst e
  refine ⟨kvs, by rw [upd_ne (ne_of e1 e (fun q => nomatch q))]; exact e1, fun n hn => ?_⟩
  obtain ⟨a, e1, e2⟩ := g n hn
  exact ⟨a, e1, k.sqT e2⟩
theorem lastIx_congr {p q : Str → Bool} : ∀ {r : List (Str × Int)}, (∀ y ∈ r, p y.1 = q y.1) → XM.lastIx p r = XM.lastIx q r
  | [], _ => rfl
  | y :: r, h => by
    have ih := lastIx_congr (p := p) (q := q) (r := r) fun z hz => h z (List.mem_cons_of_mem _ hz)
    have hy := h y List.mem_cons_self
    unfold XM.lastIx
    rw [hy, ih]
def Names (F : Fld) (l : List (Str × Int)) : Prop := ∀ s ∈ l, s.1 ∈ F.names
theorem names_ins {F : Fld} {x : Str × Int} (hx : x.1 ∈ F.names) : ∀ {r : List (Str × Int)}, Names F r → Names F (XM.ins (OF F) x r)
  | [], _ => fun s hs => by
    have hs : s ∈ [x] := hs
    rw [List.mem_singleton.mp hs]
    exact hx
  | y :: r, h => by
    have ih := names_ins hx (r := r) fun z hz => h z (List.mem_cons_of_mem _ hz)
    have hy := h y List.mem_cons_self
    have h0 : Names F r := fun z hz => h z (List.mem_cons_of_mem _ hz)
    have c : ∀ {a : Str × Int} {l : List (Str × Int)}, a.1 ∈ F.names → Names F l → Names F (a :: l) := fun {a l} ha hl s hs => by
      rcases List.mem_cons.mp hs with rfl | hs
      · exact ha
      · exact hl s hs
    unfold XM.ins
    by_cases e1 : y.1 = x.1
    · rw [if_pos e1]
      by_cases e2 : y.2 + x.2 = 0
      · rw [if_pos e2]
        exact h0
      · rw [if_neg e2]
        exact c hx h0
    · rw [if_neg e1]
      by_cases e2 : (OF F).tc y.1 x.1 = true
      · rw [if_pos e2]
        exact c hx h
      · rw [if_neg e2]
        by_cases e3 : ((OF F).lt y.1 x.1 && XM.top (OF F) x.1 r) = true
        · rw [if_pos e3]
          exact c hx h
        · rw [if_neg e3]
          exact c hy ih
theorem names_act {F : Fld} : ∀ {l r : List (Str × Int)}, Names F l → Names F r → Names F (XM.act (OF F) l r)
  | [], _, _, h => h
  | x :: l, r, hl, h => by
    rw [XM.act_cons]
    exact names_act (fun z hz => hl z (List.mem_cons_of_mem _ hz)) (names_ins (hl x List.mem_cons_self) h)
def spPiled (K : PySem.W.Frag) (F : Fld) : Sp := fun vs H Q _ => ∃ (t d : Addr) (xs : List V) (steps : List (Str × Int)), vs = [.ref t, .ref d] ∧ TouchAt K H t F ∧ F.Ok ∧ SqT K H d xs ∧ DpAll K H xs (steps.map dStep) ∧ steps.length ≤ 500 ∧ Names F steps ∧
  ∀ H' r, Same H H' → Dp K H' (.ref r) (dSteps (XM.act (OF F) steps []).reverse) → Q (.ref r) H'
theorem c_piled (T : Tx K mg) (F : Fld) : Cl P w K mg base CX0 2 "piled" (spPiled K F) := by
  refine cl0 T.d_piled (ps := ["touch", "steps"]) (fun _ _ _ _ _ _ us hl => match us, hl with | [_, _], _ => rfl) sc_piled (fun vs H Q E h => ?_) (fun f cdv A outer st H vs Q E hr h => ?_)
  · obtain ⟨t, d, xs, steps, rfl, _⟩ := h
    rfl
  · obtain ⟨t, d, xs, steps, rfl, hT, ok, hS, hD, hlen, hN, q⟩ := h
    have nd := sc_piled.nd
    have hu : (A.deeper (envOfC "piled" (defScope s_piled) st.heap.objs.size f cdv)).units + 1 < cLine := by
      have := hr.un
      omega
    have hl := hD.len
    rw [List.length_map] at hl
    refine ⟨_, pss_cons (ps_set (i := 2) nd rfl (.inl rfl) (pe_lst pa_nil))
      (pss_cons (ps_for PassesOwn.never rfl (pi_tup (pv 1)) (pg_tup rfl (pgs_cons (pg_name (i := 3) nd rfl (.inl rfl)) (pgs_cons (pg_name (i := 4) nd rfl (.inl rfl)) pgs_nil)))
        (pss_cons (ps_set (i := 5) nd rfl (.inl rfl) (pe_k (c_last_touched T) hr (by decide) (by rfl) (pa_cons (pe_dget hu (pv 0) (pv 3) (fun _ _ => rfl)) (pa_cons (pv 2) pa_nil))))
        (pss_one (ps_if (PW.pt (pw_or (pt_cmpR op_lt (pv 5) pe_int (nomark _)) (pw_or1 (pt_cmpR op_ne (pe_ix ix_tup (pe_ix ix_list (pv 2) (pv 5) (fun _ _ => rfl)) pe_int (fun _ _ => rfl)) (pv 3) (nomark _)))))
          (pss_one (ps_expr (pe_bm PySem.F.plainAttrs_list PySem.F.slot_list_insert PySem.F.type_list_insert mt_insert (pv 2) (pa_cons (pe_k (c_place_behind T F) hr (by decide) (by rfl) (pa_cons (pv 2) (pa_cons (pv 5) (pa_cons (pv 3) pa_nil)))) (pa_cons (pe_tup (pa_cons (pv 3) (pa_cons (pv 4) pa_nil))) pa_nil)))))
          (pss_one (ps_if (pt_cmpR op_ne (pe_op op_add (pe_ix ix_tup (pe_ix ix_list (pv 2) (pv 5) (fun _ _ => rfl)) pe_int (fun _ _ => rfl)) (pv 4)) pe_int (nomark _))
            (pss_one (ps_asg (pe_tup (pa_cons (pv 3) (pa_cons (pe_op op_add (pe_ix ix_tup (pe_ix ix_list (pv 2) (pv 5) (fun _ _ => rfl)) pe_int (fun _ _ => rfl)) (pv 4)) pa_nil))) (pg_sub (pv 2) (pv 5) set_list)))
            (pss_one (ps_delL (pv 2) (pv 5)))))))))
      (pss_one (ps_ret (pe_tupleOf (by rfl) T.b_tuple (pv 2))))), ?_⟩
    refine ⟨by decide, fun D hD0 => ?_⟩
    refine ⟨_, rfl, d, rfl, ⟨_, (Tk.of (same_upd hD0)).sqT hS⟩, for_it (walk_tup (xs := xs)) (fun i σ H2 => ∃ (row : List (Str × Int)) (y3 y4 y5 : Option V), σ = [some (.ref t), some (.ref d), some (.ref D), y3, y4, y5] ∧ Same H H2 ∧ Row1 K H2 D row ∧ row.reverse = XM.act (OF F) (steps.take i) [])
      ⟨[], none, none, none, rfl, same_upd hD0, ⟨[], upd_same, .nil⟩, rfl⟩ (fun i σ H2 _ ⟨_, _, _, _, _, s', _⟩ => (Tk.of s').sqT hS) (fun i x σ H2 H3 hi ⟨row, y3, y4, y5, eσ, s2, ⟨ys, eD, hY⟩, er⟩ hy => ?_) (fun σ H2 ⟨row, y3, y4, y5, eσ, s2, ⟨ys, eD, hY⟩, er⟩ => ?_)⟩
    · obtain ⟨rfl, hx⟩ := hy
      subst eσ
      obtain ⟨dd, g1, p1⟩ := hD.get hx
      rw [List.getElem?_map] at g1
      obtain ⟨s, k1, rfl⟩ := Option.map_eq_some_iff.mp g1
      obtain ⟨b, rfl, cb⟩ := p1.step
      have cb := (Tk.of s2).sqT cb
      have ms := hN s (List.mem_of_getElem? k1)
      obtain ⟨kvs, e1, g⟩ := hT.same s2
      obtain ⟨r, e2, e3⟩ := g s.1 ms
      have dg : DGet H3 t (.str s.1) (some (.ref r)) := by
        have := DGet.k (k := .inr s.1) e1
        rwa [e2] at this
      have hly := hY.len
      rw [List.length_map] at hly
      have hnr : Names F row.reverse := by
        rw [er]
        exact names_act (fun z hz => hN z (List.mem_of_mem_take hz)) (fun _ h => nomatch h)
      have hlr : row.length ≤ 500 := by
        have := XM.act_len (O := OF F) (l := steps.take i) (r := [])
        rw [← er, List.length_reverse, List.length_take, List.length_nil] at this
        omega
      have hlt : i < steps.length := by omega
      have fin : ∀ row' : List (Str × Int), XM.ins (OF F) s row.reverse = row'.reverse → row'.reverse = XM.act (OF F) (steps.take (i + 1)) [] := fun row' e => by
        rw [take_snoc k1, XM.act_app, ← er, XM.act_cons, XM.act_nil, e]
      have hc : XM.lastIx (fun b => (touchL F s.1).contains b) row.reverse = XM.lastIx (fun b => (OF F).tc b s.1) row.reverse := lastIx_congr fun y hy => mem_touch ok (hnr y hy)
      refine ⟨b, _, rfl, cb, rfl, _, _, rfl, _, _, rfl, rfl, ?_⟩
      refine ⟨_, rfl, _, rfl, t, .ref r, rfl, dg, _, rfl, r, D, touchL F s.1, ys, row, rfl, e3, .inl (SqL.of eD), hY, ?_⟩
      have hin : ∀ (i0 : Nat) T, H3 T = none → Row1 K (upd (upd H3 T (.tup [.str s.1, .int s.2])) D (.lst (ys.take (((i0 + XM.lead (OF F) s.1 (row.drop i0) : Nat) : Int)).toNat ++ [.ref T] ++ ys.drop (((i0 + XM.lead (OF F) s.1 (row.drop i0) : Nat) : Int)).toNat))) D
          (row.take i0 ++ XM.among (OF F) s (row.drop i0)) := fun i0 T hT' => by
        rw [Int.toNat_natCast]
        have eD' : upd H3 T (.tup [.str s.1, .int s.2]) D = some (.lst ys) := by
          rw [upd_ne (ne_of_none eD hT')]
          exact eD
        have := DpAll.inI (row := row) (v := .ref T) (s := s) (Dp.of_step (SqT.of upd_same)) (i0 + XM.lead (OF F) s.1 (row.drop i0)) (DpAll.tk (Tk.of (same_upd (o := .tup [.str s.1, .int s.2]) hT')) _ (flat_all_steps row) hY)
        have := Row1.put eD' this
        have er1 : row.take i0 ++ XM.among (OF F) s (row.drop i0) = row.take (i0 + XM.lead (OF F) s.1 (row.drop i0)) ++ s :: row.drop (i0 + XM.lead (OF F) s.1 (row.drop i0)) := by
          unfold XM.among
          rw [List.take_add, List.append_assoc, List.drop_drop]
        rw [er1]
        exact this
      obtain ⟨k, hk⟩ : ∃ k, XM.lastIx (fun b => (touchL F s.1).contains b) row.reverse = k := ⟨_, rfl⟩
      rw [hk]
      rw [hc] at hk
      rcases XM.ins_code (O := OF F) hk with ⟨rfl, e⟩ | ⟨j, z, rfl, hz, h⟩
      · refine ⟨_, rfl, _, _, rfl, rfl, _, rfl, iteT (iteT ?_)⟩
        refine ⟨_, rfl, Or.inl ⟨rfl, _, SqL.of eD⟩, _, rfl, _, rfl, _, rfl, D, _, 0, s.1, ys, row, rfl, rfl, Nat.zero_le _, .inl (SqL.of eD), hY, ?_⟩
        have hle := XM.lead_le (O := OF F) (a := s.1) (row.drop (0))
        rw [List.length_drop] at hle
        have hb : (((0) + XM.lead (OF F) s.1 (row.drop (0)) : Nat) : Int) < 2 ^ 63 := by omega
        refine ⟨_, rfl, _, rfl, (show 2 ≤ sizeLine by decide), fun T hT' => ⟨D, ys, _, .ref T, rfl, rfl, by rw [upd_ne (ne_of_none eD hT')]; exact eD, small1000 (by omega), Int.natCast_nonneg _, hb, ?_⟩⟩
        exact ⟨_, _, _, _, rfl, same_put (same_new s2 hT') hD0, hin (0) T hT', fin _ (by simpa using e)⟩
      · have hj := (List.getElem?_eq_some_iff.mp hz).1
        obtain ⟨c, hc1, hc2⟩ := hY.step hz
        refine ⟨_, rfl, _, _, rfl, rfl, _, rfl, ?_⟩
        rw [show decide ((j : Int) < 0) = false from decide_eq_false (by omega)]
        refine iteF ⟨_, rfl, _, rfl, _, _, _, _, rfl, rfl, SqL.of eD, at_of (j := j) rfl hc1, _, _, _, _, rfl, rfl, hc2, rfl, _, rfl, rfl, _, rfl, ?_⟩
        rw [show decide (V.str z.1 = V.str s.1) = decide (z.1 = s.1) from decide_eq_decide.mpr ⟨fun h => V.str.inj h, fun h => congrArg _ h⟩]
        rcases h with ⟨n, e⟩ | ⟨n, n2, e⟩ | ⟨n, n2, e⟩
        · rw [decide_eq_false n]
          refine iteT ?_
          refine ⟨_, rfl, Or.inl ⟨rfl, _, SqL.of eD⟩, _, rfl, _, rfl, _, rfl, D, _, j + 1, s.1, ys, row, rfl, rfl, hj, .inl (SqL.of eD), hY, ?_⟩
          have hle := XM.lead_le (O := OF F) (a := s.1) (row.drop (j + 1))
          rw [List.length_drop] at hle
          have hb : (((j + 1) + XM.lead (OF F) s.1 (row.drop (j + 1)) : Nat) : Int) < 2 ^ 63 := by omega
          refine ⟨_, rfl, _, rfl, (show 2 ≤ sizeLine by decide), fun T hT' => ⟨D, ys, _, .ref T, rfl, rfl, by rw [upd_ne (ne_of_none eD hT')]; exact eD, small1000 (by omega), Int.natCast_nonneg _, hb, ?_⟩⟩
          exact ⟨_, _, _, _, rfl, same_put (same_new s2 hT') hD0, hin (j + 1) T hT', fin _ (by simpa using e)⟩
        · rw [decide_eq_true n]
          refine iteF ⟨_, rfl, _, rfl, _, _, _, _, rfl, rfl, SqL.of eD, at_of (j := j) rfl hc1, _, _, _, _, rfl, rfl, hc2, rfl, _, rfl, _, _, rfl, rfl, rfl, _, rfl, ?_⟩
          rw [dec_int, show (z.2 + s.2 == 0) = false by simp [n2]]
          refine iteT ⟨_, rfl, _, rfl, _, rfl, _, _, _, _, rfl, rfl, SqL.of eD, at_of (j := j) rfl hc1, _, _, _, _, rfl, rfl, hc2, rfl, _, rfl, _, _, rfl, rfl, (show 2 ≤ sizeLine by decide), fun T hT' => ?_⟩
          have eD' : upd H3 T (.tup [.str s.1, .int (z.2 + s.2)]) D = some (.lst ys) := by
            rw [upd_ne (ne_of_none eD hT')]
            exact eD
          refine ⟨_, rfl, _, rfl, D, ys, _, j, rfl, rfl, eD', ixN_of rfl (by omega), ?_⟩
          refine ⟨row.set j (s.1, z.2 + s.2), _, _, _, rfl, same_put (same_new s2 hT') hD0, Row1.put eD' ?_, fin _ e⟩
          rw [List.map_set]
          exact DpAll.set1 (d := dStep (s.1, z.2 + s.2)) (Dp.of_step (SqT.of upd_same)) j (DpAll.tk (Tk.of (same_upd hT')) _ (flat_all_steps row) hY)
        · rw [decide_eq_true n]
          refine iteF ⟨_, rfl, _, rfl, _, _, _, _, rfl, rfl, SqL.of eD, at_of (j := j) rfl hc1, _, _, _, _, rfl, rfl, hc2, rfl, _, rfl, _, _, rfl, rfl, rfl, _, rfl, ?_⟩
          rw [dec_int, show (z.2 + s.2 == 0) = true by simp [n2]]
          have hjb : (j : Int) < 2 ^ 63 := by omega
          refine iteF ⟨_, rfl, _, rfl, D, ys, _, j, rfl, rfl, eD, by omega, hjb, (ixN_seq (ixN_of rfl (by omega))).1, ?_⟩
          refine ⟨row.eraseIdx j, _, _, _, rfl, same_put s2 hD0, Row1.put eD ?_, fin _ e⟩
          rw [map_er]
          exact DpAll.er j hY
    · subst eσ
      refine ⟨_, rfl, .inl ⟨D, ys, rfl, SqL.of eD, fun r hr' => q _ r (same_new s2 hr') ?_⟩⟩
      rw [hl, List.take_length] at er
      rw [← er, List.reverse_reverse]
      exact .tup (SqT.of upd_same) (DpAll.tk (Tk.of (same_upd hr')) _ (flat_all_steps row) hY)
end
end XB
set_option Elab.async false
set_option linter.all false
set_option maxRecDepth 100000
set_option maxHeartbeats 4000000
namespace XB
open PySem PySem.Spec PyProof.Rows L2
section
variable {P : Program} {w : World} {K : PySem.W.Frag} {mg : Str → Option Value} {base : Heap}
theorem GoodScript.names {F : Fld} {l : List (Str × Int)} (g : GoodScript F l) : Names F l := fun s hs => (g.2 s hs).1
theorem GoodScript.nz {F : Fld} {l : List (Str × Int)} (g : GoodScript F l) : XM.NZ l := fun s hs => (g.2 s hs).2.1
/-- a field and a script -/
def FS (K : PySem.W.Frag) (F : Fld) (l : List (Str × Int)) (vs : List V) (H : Hp) : Prop := ∃ (a d : Addr), vs = [.ref a, .ref d] ∧ Dp K H (.ref a) (dField F) ∧ F.Ok ∧ Dp K H (.ref d) (dSteps l) ∧ GoodScript F l
def spLeastPile (K : PySem.W.Frag) (F : Fld) : Sp := fun vs H Q _ => ∃ l, FS K F l vs H ∧ ∀ H' r, Same H H' → Dp K H' (.ref r) (dSteps (XM.act (OF F) l []).reverse) → Q (.ref r) H'
theorem c_least_pile (T : Tx K mg) (F : Fld) : Cl P w K mg base CX0 6 "least_pile" (spLeastPile K F) := by
  refine cl0 T.d_least_pile (ps := ["field", "deeds"]) (fun _ _ _ _ _ _ us hl => match us, hl with | [_, _], _ => rfl) sc_least_pile (fun vs H Q E h => ?_) (fun f cdv A outer st H vs Q E hr h => ?_)
  · obtain ⟨l, ⟨a, d, rfl, _⟩, _⟩ := h
    rfl
  · obtain ⟨l, ⟨a, d, rfl, hF, ok, hL, g⟩, q⟩ := h
    refine ⟨_, pss_cons (ps_expr (pe_k (c_need_script T) hr (by decide) (by rfl) (pa_cons (pv 0) (pa_cons (pv 1) pa_nil))))
      (pss_one (ps_ret (pe_k (c_piled T F) hr (by decide) (by rfl) (pa_cons (pe_k (c_touch_table T) hr (by decide) (by rfl) (pa_cons (pv 0) pa_nil)) (pa_cons (pv 1) pa_nil))))), ?_⟩
    refine ⟨_, rfl, _, rfl, a, d, F, l, rfl, hF, ok, hL, g, fun H1 s1 => ?_⟩
    refine ⟨_, rfl, a, F, rfl, Dp.tk (Tk.of s1) _ (flat_field F) hF, ok, fun H2 t s2 ht hT => ?_⟩
    obtain ⟨_, vs, e, hS, hV⟩ := (Dp.tk (Tk.of (s1.trans s2)) (dSteps l) (flat_steps l) hL).steps
    cases e
    refine ⟨_, rfl, t, d, vs, l, rfl, hT, ok, hS, hV, ?_, g.names, fun H3 r s3 hD => q _ r ((s1.trans s2).trans s3) hD⟩
    have := g.1
    omega
def lenOf (l : List (Str × Int)) : Int := (l.map fun s => if s.2 < 0 then -s.2 else s.2).sum
def spLengthOf (K : PySem.W.Frag) : Sp := fun vs H Q _ => ∃ (a : Addr) (xs : List V) (l : List (Str × Int)), vs = [.ref a] ∧ SqT K H a xs ∧ DpAll K H xs (l.map dStep) ∧ l.length ≤ 500 ∧ ∀ H', Same H H' → Q (.int (lenOf l)) H'
theorem act_len0 {F : Fld} {l : List (Str × Int)} : (XM.act (OF F) l []).length ≤ l.length := by
  have := XM.act_len (O := OF F) (l := l) (r := [])
  rw [List.length_nil] at this
  omega
def spLength (K : PySem.W.Frag) (F : Fld) : Sp := fun vs H Q _ => ∃ l, FS K F l vs H ∧ ∀ H', Same H H' → Q (.int (lenOf (XM.act (OF F) l []).reverse)) H'
def spIsPile (K : PySem.W.Frag) (F : Fld) : Sp := fun vs H Q _ => ∃ l, FS K F l vs H ∧ ∀ H', Same H H' → Q (.bl (decide ((XM.act (OF F) l []).length = l.length))) H'
def spBack (K : PySem.W.Frag) : Sp := fun vs H Q _ => ∃ (a : Addr) (l : List (Str × Int)), vs = [.ref a] ∧ Dp K H (.ref a) (dSteps l) ∧ l.length ≤ 500 ∧ ∀ H' r, Same H H' → Dp K H' (.ref r) (dSteps (XM.back l)) → Q (.ref r) H'
theorem names_back {F : Fld} {l : List (Str × Int)} (h : Names F l) : Names F (XM.back l) := fun s hs => by
  unfold XM.back at hs
  obtain ⟨x, hx, rfl⟩ := List.mem_map.mp (List.mem_reverse.mp hs)
  exact h x hx
def spTakenBack (K : PySem.W.Frag) (F : Fld) : Sp := fun vs H Q _ => ∃ l, FS K F l vs H ∧ ∀ H' r, Same H H' → Dp K H' (.ref r) (dSteps (XM.act (OF F) (XM.back l) []).reverse) → Q (.ref r) H'
end
end XB
set_option Elab.async false
set_option linter.all false
set_option maxRecDepth 100000
set_option maxHeartbeats 4000000
namespace XM
theorem frs_snoc {α : Type} [DecidableEq α] {O : Ord α} {x : α × Int} : ∀ {l bar : Row α}, frs O bar (l ++ [x]) = frs O bar l ++ (if (bar ++ l).all (fun w => !O.tc w.1 x.1) then [x.1] else [])
  | [], bar => by
    show (if _ then _ else _) = _
    rw [List.append_nil]
    cases bar.all (fun w => !O.tc w.1 x.1) <;> rfl
  | y :: l, bar => by
    have ih := frs_snoc (O := O) (x := x) (l := l) (bar := bar ++ [y])
    rw [List.append_assoc, List.singleton_append] at ih
    show (if _ then y.1 :: frs O (bar ++ [y]) (l ++ [x]) else frs O (bar ++ [y]) (l ++ [x])) = (if _ then _ else _) ++ _
    rw [ih]
    cases bar.all (fun w => !O.tc w.1 y.1) <;> rfl
end XM
namespace XB
open PySem PySem.Spec PyProof.Rows L2
section
variable {P : Program} {w : World} {K : PySem.W.Frag} {mg : Str → Option Value} {base : Heap}
def SrtOf (ns zs : List Str) : Prop := zs.Perm ns ∧ sortedS zs = true
theorem frs_len {F : Fld} : ∀ {l bar : List (Str × Int)}, (XM.frs (OF F) bar l).length ≤ l.length
  | [], _ => Nat.le_refl _
  | x :: l, bar => by
    have ih := frs_len (F := F) (l := l) (bar := bar ++ [x])
    unfold XM.frs
    split
    · rw [List.length_cons, List.length_cons]
      omega
    · rw [List.length_cons]
      omega
theorem barred_all {F : Fld} (ok : F.Ok) {n : Str} (hn : n ∈ F.names) (l : List (Str × Int)) : (!(l.any fun w => (touchL F w.1).contains n)) = l.all fun w => !(OF F).tc w.1 n := by
  induction l with
  | nil => rfl
  | cons y r ih =>
    rw [List.any_cons, List.all_cons, Bool.not_or, ih, mem_touch ok hn, (OF F).symm]
def Bars (H : Hp) (B : Addr) (f : Str → Bool) (m : Nat) : Prop := ∃ kvs : List (Key × V), H B = some (.dK kvs) ∧ kvs.length ≤ m ∧ ∀ n, (valV kvs (.inr n)).isSome = f n
def spFrontNames (K : PySem.W.Frag) (F : Fld) : Sp := fun vs H Q _ => ∃ (t d : Addr) (xs : List V) (l : List (Str × Int)), vs = [.ref t, .ref d] ∧ TouchAt K H t F ∧ F.Ok ∧ SqT K H d xs ∧ DpAll K H xs (l.map dStep) ∧ l.length ≤ 60 ∧ Names F l ∧
  ∀ H' r zs, Same H H' → SrtOf (XM.frs (OF F) [] l) zs → SqT K H' r (zs.map V.str) → Q (.ref r) H'
def spFronts (K : PySem.W.Frag) (F : Fld) : Sp := fun vs H Q _ => ∃ l, FS K F l vs H ∧ ∀ H' r zs, Same H H' → SrtOf (XM.frs (OF F) [] (XM.act (OF F) l []).reverse) zs → SqT K H' r (zs.map V.str) → Q (.ref r) H'
theorem names_rev {F : Fld} {l : List (Str × Int)} (h : Names F l) : Names F l.reverse := fun s hs => h s (List.mem_reverse.mp hs)
def spEnds (K : PySem.W.Frag) (F : Fld) : Sp := fun vs H Q _ => ∃ l, FS K F l vs H ∧ ∀ H' r zs, Same H H' → SrtOf (XM.frs (OF F) [] (XM.act (OF F) l [])) zs → SqT K H' r (zs.map V.str) → Q (.ref r) H'
end
end XB
set_option Elab.async false
set_option linter.all false
set_option maxRecDepth 100000
set_option maxHeartbeats 4000000
namespace XB
open PySem PySem.Spec PyProof.Rows L2
/-! a sheet: field, row, steps, len, in -/
section
variable {P : Program} {w : World} {K : PySem.W.Frag} {mg : Str → Option Value} {base : Heap}
/-- a sheet with its field and its state -/
def ShAt (mg : Str → Option Value) (H : Hp) (a f s : Addr) : Prop := Ins mg "Sheet" H a [("_field", .ref f), ("_state", .ref s)]
def SheetAt (K : PySem.W.Frag) (mg : Str → Option Value) (H : Hp) (a : Addr) (F : Fld) (h : Sh) : Prop := ∃ f s, ShAt mg H a f s ∧ Dp K H (.ref f) (dField F) ∧ Dp K H (.ref s) (dSh h)
def spShField (K : PySem.W.Frag) (mg : Str → Option Value) : Sp := fun vs H Q _ => ∃ a F h, vs = [.ref a] ∧ SheetAt K mg H a F h ∧ ∀ f, Dp K H (.ref f) (dField F) → Q (.ref f) H
theorem c_Sheet_field (T : Tx K mg) : PCl P w K mg base (L2.CX P w) 1 "Sheet" "field" (spShField K mg) := by
  refine pclX T.p_Sheet_field (ps := ["self"]) (fun _ _ _ _ _ _ us hl => match us, hl with | [_], _ => rfl) sc_Sheet_field (fun vs H Q E h => ?_) (fun f cdv A outer st H vs Q E hr h => ?_)
  · obtain ⟨a, F, h, rfl, _⟩ := h
    rfl
  · obtain ⟨a, F, h, rfl, ⟨f1, s1, ⟨C, dx, hm, hi⟩, hF, hS⟩, q⟩ := h
    exact ⟨_, pss_one (ps_ret (pe_fld (pv 0) rfl)), _, rfl, a, C, dx, _, .ref f1, rfl, hi, oc_cls T.o_Sheet hm, T.n_Sheet__field C hm, rfl, q f1 hF⟩
def spShRow (K : PySem.W.Frag) (mg : Str → Option Value) : Sp := fun vs H Q _ => ∃ a F h, vs = [.ref a] ∧ SheetAt K mg H a F h ∧ ∀ r, Dp K H (.ref r) (dRow h.now.row) → Q (.ref r) H
theorem c_Sheet_row (T : Tx K mg) : PCl P w K mg base (L2.CX P w) 1 "Sheet" "row" (spShRow K mg) := by
  refine pclX T.p_Sheet_row (ps := ["self"]) (fun _ _ _ _ _ _ us hl => match us, hl with | [_], _ => rfl) sc_Sheet_row (fun vs H Q E h => ?_) (fun f cdv A outer st H vs Q E hr h => ?_)
  · obtain ⟨a, F, h, rfl, _⟩ := h
    rfl
  · obtain ⟨a, F, h, rfl, ⟨f1, s1, ⟨C, dx, hm, hi⟩, hF, hS⟩, q⟩ := h
    have nd := sc_Sheet_row.nd
    refine ⟨_, (pss_cons (ps_asg (pe_fld (pv 0) rfl) (pg_tup rfl (pgs_cons (pg_tup rfl (pgs_cons (pg_name (i := 1) nd rfl (.inl rfl)) (pgs_cons (pg_name (i := 2) nd rfl (.inl rfl)) pgs_nil))) (pgs_cons (pg_name (i := 2) nd rfl (.inl rfl)) (pgs_cons (pg_name (i := 2) nd rfl (.inl rfl)) pgs_nil)))))
    (pss_one (ps_ret (pv 1)))), ?_⟩
    --@
    obtain ⟨_, n, p, f, ps, fs, e, h1, h2, h3, h4, h5, h6⟩ := hS.sh
    cases e
    obtain ⟨_, r, e, h7, h8⟩ := h2.ss
    cases e
    refine ⟨_, rfl, a, C, dx, _, .ref s1, rfl, hi, oc_cls T.o_Sheet hm, T.n_Sheet__state C hm, rfl, ?_⟩
    exact ⟨_, _, rfl, h1, rfl, _, _, rfl, ⟨_, _, rfl, h7, rfl, _, _, rfl, _, _, rfl, rfl, _, _, rfl, _, _, rfl, rfl, _, rfl, q r h8⟩⟩
def spShSteps (K : PySem.W.Frag) (mg : Str → Option Value) : Sp := fun vs H Q _ => ∃ a F h, vs = [.ref a] ∧ SheetAt K mg H a F h ∧ h.now.row.length ≤ 900 ∧ ∀ H' r, Same H H' → Dp K H' (.ref r) (dSteps (h.now.row.map Prod.snd)) → Q (.ref r) H'
theorem c_Sheet_steps (T : Tx K mg) : PCl P w K mg base (L2.CX P w) 3 "Sheet" "steps" (spShSteps K mg) := by
  refine pclX T.p_Sheet_steps (ps := ["self"]) (fun _ _ _ _ _ _ us hl => match us, hl with | [_], _ => rfl) sc_Sheet_steps (fun vs H Q E h => ?_) (fun f cdv A outer st H vs Q E hr h => ?_)
  · obtain ⟨a, F, h, rfl, _⟩ := h
    rfl
  · obtain ⟨a, F, h, rfl, hA, hl, q⟩ := h
    have nd := sc_Sheet_steps.nd
    obtain ⟨f1, s1, hi, hF, hS⟩ := id hA
    refine ⟨_, (pss_one (ps_ret (pe_tupleOf (by rfl) T.b_tuple (pe_lc (own := [("_", 1), ("step", 2)]) (g := (gTup K 2 (gCons (gName 1) (gCons (gName 2) gNil)))) (tt := tYes) (by rfl) nd (pi_tup (pe_ptO T.o_Sheet (c_Sheet_row T) (pv 0) hr (by decide) (E := E0) passL rfl)) (blkOk_by (own := [("_", 1), ("step", 2)]) (N := ["self", "_", "step"]) (sc := defScope s_Sheet_steps) (by decide +kernel)) (fun _ _ _ _ _ => (pg_tup rfl (pgs_cons (pg_name (i := 1) nd rfl (by first | exact Or.inl rfl | exact Or.inr rfl)) (pgs_cons (pg_name (i := 2) nd rfl (by first | exact Or.inl rfl | exact Or.inr rfl)) pgs_nil)))) (fun _ _ _ _ _ => pts_nil) (fun _ _ _ _ _ => (pv 2)))))), ?_⟩
    --@
    refine ⟨_, rfl, a, _, rfl, hi, a, F, h, rfl, hA, fun r hR => ?_⟩
    obtain ⟨_, xs, e, hX, hV⟩ := hR.row
    cases e
    have lx := hV.len
    rw [List.length_map] at lx
    refine ⟨_, rfl, ⟨_, hX⟩, fun D hD => ?_⟩
    refine lc_it (walk_tup (xs := xs)) (fun i H' => ∃ ys, H' D = some (.lst ys) ∧ DpAll K H' ys ((h.now.row.take i).map fun p => dStep p.2) ∧ Same H H') ⟨[], upd_same, .nil, same_upd hD⟩ (fun _ _ _ ⟨_, _, _, s'⟩ => (Tk.of s').sqT hX) (fun i x H2 H3 hi ⟨ys, eD, hY, s'⟩ hy => ?_) (fun H2 ⟨ys, eD, hY, s'⟩ => ?_)
    · obtain ⟨rfl, hx⟩ := hy
      obtain ⟨d, g1, p1⟩ := hV.get hx
      rw [List.getElem?_map] at g1
      obtain ⟨p, k1, rfl⟩ := Option.map_eq_some_iff.mp g1
      obtain ⟨t, b, rfl, h1, h2⟩ := p1.itm
      have ly := hY.len
      rw [List.length_map, List.length_take] at ly
      refine ⟨_, _, rfl, (Tk.of s').sqT h1, rfl, _, _, rfl, _, _, rfl, rfl, rfl, yes_ ⟨_, rfl, _, eD, small1000 (by omega), ?_⟩⟩
      refine ⟨ys ++ [.ref b], upd_same, ?_, same_put s' hD⟩
      have et : (h.now.row.take (i + 1)).map (fun p => dStep p.2) = (h.now.row.take i).map (fun p => dStep p.2) ++ [dStep p.2] := by
        rw [take_snoc k1, List.map_append]
        rfl
      rw [et]
      have tt : Tk H3 (upd H3 D (.lst (ys ++ [.ref b]))) := Tk.refl.lst eD
      refine (DpAll.tk tt _ (flatAll_of fun d hd => by obtain ⟨z, _, rfl⟩ := List.mem_map.mp hd; rfl) hY).app (.cons (Dp.of_step (s := p.2) ?_) .nil)
      exact ((Tk.of s').trans tt).sqT h2
    · rw [List.take_of_length_le (by omega)] at hY
      refine .inl ⟨D, ys, rfl, SqL.of eD, fun t nt => upd_gen nt fun H3 s3 e3 => q H3 t (s'.trans s3) (.tup (SqT.of e3) ?_)⟩
      rw [List.map_map]
      exact DpAll.sm s3 _ hY
def spShLen (K : PySem.W.Frag) (mg : Str → Option Value) : Sp := fun vs H Q _ => ∃ a F h, vs = [.ref a] ∧ SheetAt K mg H a F h ∧ Q (.int h.now.row.length) H
theorem c_Sheet_len (T : Tx K mg) : MCl P w K mg base (L2.CX P w) 3 "Sheet" "__len__" (spShLen K mg) := by
  refine mclX T.m_Sheet___len__ (ps := ["self"]) (fun _ _ _ _ _ _ us hl => match us, hl with | [_], _ => rfl) sc_Sheet___len__ (fun vs H Q E h => ?_) (fun f cdv A outer st H vs Q E hr h => ?_)
  · obtain ⟨a, F, h, rfl, _⟩ := h
    rfl
  · obtain ⟨a, F, h, rfl, hA, q⟩ := h
    have nd := sc_Sheet___len__.nd
    obtain ⟨f1, s1, hi, hF, hS⟩ := id hA
    refine ⟨_, (pss_one (ps_ret (pe_lenS (by rfl) T.b_len (pe_ptO T.o_Sheet (c_Sheet_row T) (pv 0) hr (by decide) (E := E0) passL rfl)))), ?_⟩
    refine ⟨_, rfl, a, _, rfl, hi, a, F, h, rfl, hA, fun r hR => ?_⟩
    obtain ⟨_, xs, e, hX, hV⟩ := hR.row
    cases e
    have lx := hV.len
    rw [List.length_map] at lx
    refine ⟨_, xs, rfl, .inr hX, ?_⟩
    rw [lx]
    exact q
/-- what is no whole number: any other data, an empty dict -/
def NoWhole (K : PySem.W.Frag) (H : Hp) (v : V) : Prop := (∃ d, Dp K H v d ∧ wholeD d = false) ∨ ∃ a, v = .ref a ∧ H a = some (.dK [])
def spNoWhole (K : PySem.W.Frag) : Sp := fun vs H Q _ => ∃ v, vs = [v] ∧ ((NoWhole K H v ∧ Q (.bl false) H) ∨ (∃ z, v = .int z ∧ Q (.bl true) H))
theorem c_is_wholeN (T : Tx K mg) : Cl P w K mg base CX0 1 "is_whole" (spNoWhole K) := by
  refine cl0 T.d_is_whole (ps := ["value"]) (fun _ _ _ _ _ _ us hl => match us, hl with | [_], _ => rfl) sc_is_whole (fun vs H Q E h => ?_) (fun f cdv A outer st H vs Q E hr h => ?_)
  · obtain ⟨v, rfl, _⟩ := h
    rfl
  · obtain ⟨v, rfl, h⟩ := h
    have nd := sc_is_whole.nd
    refine ⟨_, (pss_one (ps_ret (pe_and (pe_isT "int" (by rfl) T.b_isinstance (by rfl) T.b_int (by decide +kernel) (pv 0)) (pe_one (pe_not (pe_isT "bool" (by rfl) T.b_isinstance (by rfl) T.b_bool (by decide +kernel) (pv 0))))))), ?_⟩
    rcases h with ⟨⟨d, hd, hw⟩ | ⟨a, rfl, hk⟩, q⟩ | ⟨z, rfl, q⟩
    · refine ⟨_, rfl, v, .ty "int", _, _, _, rfl, .ty _, tyx_data hd, kit_data (.inr (.inr (.inr (.inl rfl)))) hd, _, rfl, ?_⟩
      by_cases h1 : isD "int" d = true
      · rw [if_pos h1]
        refine ⟨_, rfl, v, .ty "bool", _, _, _, rfl, .ty _, tyx_data hd, kit_data (.inr (.inr (.inr (.inr rfl)))) hd, _, rfl, ?_⟩
        have e : (!isD "bool" d) = false := by
          cases d <;> first | rfl | (cases hw; done) | (exfalso; simp [isD, tyD] at h1; done)
        rw [e]
        exact q
      · rw [if_neg h1]
        exact q
    · exact ⟨_, rfl, .ref a, .ty "int", _, _, _, rfl, .ty _, .base (.dK hk), kit_ty (r := false) (by decide +kernel), _, rfl, q⟩
    · refine ⟨_, rfl, .int z, .ty "int", _, _, _, rfl, .ty _, tyx_data (K := K) (H := H) (d := .int z) (.int z), kit_data (K := K) (H := H) (d := .int z) (.inr (.inr (.inr (.inl rfl)))) (.int z), _, rfl, ?_⟩
      exact ⟨_, rfl, .int z, .ty "bool", _, _, _, rfl, .ty _, tyx_data (K := K) (H := H) (d := .int z) (.int z), kit_data (K := K) (H := H) (d := .int z) (.inr (.inr (.inr (.inr rfl)))) (.int z), _, rfl, q⟩
/-- whether a number is one of a row -/
def hasN (r : List Itm) (z : Int) : Bool := r.any fun p => (p.1 : Int) == z
def spShIn (K : PySem.W.Frag) (mg : Str → Option Value) : Sp := fun vs H Q _ => ∃ a v F h, vs = [.ref a, v] ∧ SheetAt K mg H a F h ∧ h.now.row.length ≤ 900 ∧ ((NoWhole K H v ∧ Q (.bl false) H) ∨ ∃ z, v = .int z ∧ ∀ H', Same H H' → Q (.bl (hasN h.now.row z)) H')
theorem c_Sheet_in (T : Tx K mg) : MCl P w K mg base (L2.CX P w) 3 "Sheet" "__contains__" (spShIn K mg) := by
  refine mclX T.m_Sheet___contains__ (ps := ["self", "x"]) (fun _ _ _ _ _ _ us hl => match us, hl with | [_, _], _ => rfl) sc_Sheet___contains__ (fun vs H Q E h => ?_) (fun f cdv A outer st H vs Q E hr h => ?_)
  · obtain ⟨a, v, F, h, rfl, _⟩ := h
    rfl
  · obtain ⟨a, v, F, h, rfl, hA, hl, q⟩ := h
    have nd := sc_Sheet___contains__.nd
    obtain ⟨f1, s1, hi, hF, hS⟩ := id hA
    refine ⟨_, (pss_one (ps_ret (pe_and (pe_k (c_is_wholeN T) hr (by decide) (by rfl) (pa_cons (pv 1) pa_nil)) (pe_one (pe_cmpR (op_inD (u65 hr)) (pv 1) (pe_lc (own := [("number", 2), ("_", 3)]) (g := (gTup K 2 (gCons (gName 2) (gCons (gName 3) gNil)))) (tt := tYes) (by rfl) nd (pi_tup (pe_ptO T.o_Sheet (c_Sheet_row T) (pv 0) hr (by decide) (E := E0) passL rfl)) (blkOk_by (own := [("number", 2), ("_", 3)]) (N := ["self", "x", "number", "_"]) (sc := defScope s_Sheet___contains__) (by decide +kernel)) (fun _ _ _ _ _ => (pg_tup rfl (pgs_cons (pg_name (i := 2) nd rfl (by first | exact Or.inl rfl | exact Or.inr rfl)) (pgs_cons (pg_name (i := 3) nd rfl (by first | exact Or.inl rfl | exact Or.inr rfl)) pgs_nil)))) (fun _ _ _ _ _ => pts_nil) (fun _ _ _ _ _ => (pv 2))) (by rfl)))))), ?_⟩
    rcases q with ⟨nw, q⟩ | ⟨z, rfl, q⟩
    · exact ⟨_, rfl, _, rfl, .inl ⟨nw, _, rfl, q⟩⟩
    refine ⟨_, rfl, _, rfl, .inr ⟨z, rfl, _, rfl, ?_⟩⟩
    refine ⟨_, rfl, _, rfl, a, _, rfl, hi, a, F, h, rfl, hA, fun r hR => ?_⟩
    obtain ⟨_, xs, e, hX, hV⟩ := hR.row
    cases e
    have lx := hV.len
    rw [List.length_map] at lx
    refine ⟨_, rfl, ⟨_, hX⟩, fun D hD => ?_⟩
    refine lc_it (walk_tup (xs := xs)) (fun i H' => H' D = some (.lst ((h.now.row.take i).map fun p => V.int (p.1 : Int))) ∧ Same H H') ⟨upd_same, same_upd hD⟩ (fun _ _ _ ⟨_, s'⟩ => (Tk.of s').sqT hX) (fun i x H2 H3 hi ⟨eD, s'⟩ hy => ?_) (fun H2 ⟨eD, s'⟩ => ?_)
    · obtain ⟨rfl, hx⟩ := hy
      obtain ⟨d, g1, p1⟩ := hV.get hx
      rw [List.getElem?_map] at g1
      obtain ⟨p, k1, rfl⟩ := Option.map_eq_some_iff.mp g1
      obtain ⟨t, b, rfl, h1, h2⟩ := p1.itm
      refine ⟨_, _, rfl, (Tk.of s').sqT h1, rfl, _, _, rfl, _, _, rfl, rfl, rfl, yes_ ⟨_, rfl, _, eD, ?_, ?_, same_put s' hD⟩⟩
      · rw [List.length_map, List.length_take]
        exact small1000 (by omega)
      · rw [upd_same, take_snoc k1, List.map_append]
        rfl
    · rw [List.take_of_length_le (by omega)] at eD
      have e1 : (h.now.row.map fun p => V.int (p.1 : Int)) = (h.now.row.map fun p => (p.1 : Int)).map V.int := by rw [List.map_map]; rfl
      rw [e1] at eD
      refine ⟨.int z, (h.now.row.map fun p => (p.1 : Int)).map PyData.int, .int _, .lst (SqL.of eD) (dpInts _), rfl, shInts _, ?_⟩
      have e2 : (((h.now.row.map fun p => (p.1 : Int)).map PyData.int).any fun y => PyData.eqv y (.int z)) = hasN h.now.row z := by
        rw [List.any_map, List.any_map]
        rfl
      rw [e2]
      exact q _ s'
end
end XB
set_option Elab.async false
set_option linter.all false
set_option maxRecDepth 100000
set_option maxHeartbeats 4000000
/-! rules of rows, lists or tuples -/
namespace XB
open PySem PySem.Spec PyProof.Rows L2
section
variable {P : Program} {w : World} {K : PySem.W.Frag} {mg : Str → Option Value} {base : Heap}
def spLawApart (K : PySem.W.Frag) : Sp := fun vs H Q _ => ∃ (a : Addr) (F : Fld) (x y : Str), vs = [.ref a, .str x, .str y] ∧ Dp K H (.ref a) (dField F) ∧ F.Ok ∧ x ∈ F.names ∧ y ∈ F.names ∧ ∀ H', Same H H' → Q (.bl (apart F x y)) H'
def spLawLength (K : PySem.W.Frag) : Sp := fun vs H Q _ => ∃ (a : Addr) (xs : List V) (l : List (Str × Int)), vs = [.ref a] ∧ SqT K H a xs ∧ DpAll K H xs (l.map dStep) ∧ l.length ≤ 500 ∧ ∀ H', Same H H' → Q (.int (lenOf l)) H'
end
end XB
set_option Elab.async false
set_option linter.all false
set_option maxRecDepth 100000
set_option maxHeartbeats 4000000
namespace XB
open PySem PySem.Spec PyProof.Rows L2
section
variable {P : Program} {w : World} {K : PySem.W.Frag} {mg : Str → Option Value} {base : Heap}
def spLawBack (K : PySem.W.Frag) : Sp := fun vs H Q _ => ∃ (a : Addr) (l : List (Str × Int)), vs = [.ref a] ∧ Dp K H (.ref a) (dSteps l) ∧ l.length ≤ 500 ∧ ∀ H' r, Same H H' → Dp K H' (.ref r) (dSteps (XM.back l)) → Q (.ref r) H'
/-- whether the step there can stand first -/
def free1 (F : Fld) (l : List (Str × Int)) (k : Nat) : Bool := match l[k]? with
  | some s => (l.take k).all fun y => !(OF F).tc y.1 s.1
  | none => false
def firstsL (F : Fld) (l : List (Str × Int)) (n : Nat) : List Nat := (List.range n).filter (free1 F l)
theorem firsts_snoc {F : Fld} {l : List (Str × Int)} {n : Nat} : firstsL F l (n + 1) = firstsL F l n ++ (if free1 F l n then [n] else []) := by
  unfold firstsL
  rw [List.range_succ, List.filter_append]
  congr 1
  cases h : free1 F l n <;> simp [h]
theorem firsts_len {F : Fld} {l : List (Str × Int)} {n : Nat} : (firstsL F l n).length ≤ n := by
  have := List.length_filter_le (free1 F l) (List.range n)
  rw [List.length_range] at this
  exact this
def spLawFirst (K : PySem.W.Frag) : Sp := fun vs H Q _ => ∃ (a p : Addr) (F : Fld) (xs : List V) (l : List (Str × Int)), vs = [.ref a, .ref p] ∧ Dp K H (.ref a) (dField F) ∧ F.Ok ∧ SqX K H p xs ∧ DpAll K H xs (l.map dStep) ∧ Names F l ∧ l.length ≤ 60 ∧
  ∀ H' r, Same H H' → H' r = some (.lst ((firstsL F l l.length).map fun k => V.int (k : Nat))) → H r = none → Q (.ref r) H'
end
end XB
set_option Elab.async false
set_option linter.all false
set_option maxRecDepth 100000
set_option maxHeartbeats 4000000
namespace XB
open PySem PySem.Spec PyProof.Rows L2
def up (n : Nat) (o : Option (Nat × Nat)) : Option (Nat × Nat) := o.map fun p => (p.1 + n, p.2 + n)
theorem met_none {F : Fld} {l : List (Str × Int)} {k : Nat} {s : Str × Int} (hs : l[k]? = some s) (h : XM.near (OF F) s.1 (l.drop (k + 1)) = none) : up k (XM.met (OF F) (l.drop k)) = up (k + 1) (XM.met (OF F) (l.drop (k + 1))) := by
  rw [drop_at hs]
  show up k (match XM.near (OF F) s.1 (l.drop (k + 1)) with
    | some d => some (0, d + 1)
    | none => (XM.met (OF F) (l.drop (k + 1))).map fun p => (p.1 + 1, p.2 + 1)) = _
  rw [h]
  unfold up
  rw [Option.map_map]
  congr 1
  funext p
  show (p.1 + 1 + k, p.2 + 1 + k) = (p.1 + (k + 1), p.2 + (k + 1))
  rw [Nat.add_assoc, Nat.add_assoc, Nat.add_comm 1 k]
theorem met_here {F : Fld} {l : List (Str × Int)} {k d : Nat} {s : Str × Int} (hs : l[k]? = some s) (h : XM.near (OF F) s.1 (l.drop (k + 1)) = some d) : up k (XM.met (OF F) (l.drop k)) = some (k, k + 1 + d) := by
  rw [drop_at hs]
  show up k (match XM.near (OF F) s.1 (l.drop (k + 1)) with
    | some d => some (0, d + 1)
    | none => (XM.met (OF F) (l.drop (k + 1))).map fun p => (p.1 + 1, p.2 + 1)) = _
  rw [h]
  show some (0 + k, d + 1 + k) = _
  rw [Nat.zero_add, Nat.add_comm (d + 1) k, Nat.add_comm d 1, Nat.add_assoc]
section
variable {P : Program} {w : World} {K : PySem.W.Frag} {mg : Str → Option Value} {base : Heap}
def metV (K : PySem.W.Frag) (H : Hp) (Q : VK) : Option (Nat × Nat) → Prop
  | none => ∀ H', Same H H' → Q .non H'
  | some p => ∀ H' r, Same H H' → SqT K H' r [.int (p.1 : Nat), .int (p.2 : Nat)] → Q (.ref r) H'
def spLawMet (K : PySem.W.Frag) : Sp := fun vs H Q _ => ∃ (a p : Addr) (F : Fld) (xs : List V) (l : List (Str × Int)), vs = [.ref a, .ref p] ∧ Dp K H (.ref a) (dField F) ∧ F.Ok ∧ SqX K H p xs ∧ DpAll K H xs (l.map dStep) ∧ Names F l ∧ l.length ≤ 60 ∧
  metV K H Q (XM.met (OF F) l)
end
end XB
set_option Elab.async false
set_option linter.all false
set_option maxRecDepth 100000
set_option maxHeartbeats 4000000
namespace XB
open PySem PySem.Spec PyProof.Rows L2
theorem cut_mid (xs : List V) {i j : Nat} (h1 : i ≤ j) (h2 : j ≤ xs.length) : cutV xs (some (i : Int)) (some (j : Int)) = (xs.drop i).take (j - i) := by
  unfold cutV
  rw [HT.sIx_nat, HT.sIx_nat, Nat.min_eq_left h2, Nat.min_eq_left (Nat.le_trans h1 h2)]
def melt {α : Type} (l : List α) (x : List α) (i j : Nat) : List α := l.take i ++ x ++ ((l.drop (i + 1)).take (j - (i + 1)) ++ l.drop (j + 1))
theorem melt_step {F : Fld} {l : List (Str × Int)} {i j : Nat} (h : XM.met (OF F) l = some (i, j)) (hZ : XM.NZ l) (hN : Names F l) :
    ∃ a s t, l[i]? = some (a, s) ∧ l[j]? = some (a, t) ∧ i < j ∧ j < l.length ∧ ∀ x, x = (if s + t = 0 then [] else [(a, s + t)]) →
      XM.NZ (melt l x i j) ∧ Names F (melt l x i j) ∧ XM.act (OF F) (melt l x i j) [] = XM.act (OF F) l [] ∧ (melt l x i j).length < l.length := by
  obtain ⟨u, a, s, m, t, v, e, hi, hj, hm⟩ := XM.met_some h
  have z1 : s ≠ 0 := hZ (a, s) (by rw [e]; simp)
  have z2 : t ≠ 0 := hZ (a, t) (by rw [e]; simp)
  refine ⟨a, s, t, ?_, ?_, by omega, ?_, fun x hx => ?_⟩
  · rw [e, List.getElem?_append_right (by omega), hi, Nat.sub_self]
    rfl
  · rw [e, List.getElem?_append_right (by omega), show j - u.length = m.length + 1 by omega, List.getElem?_cons_succ, List.getElem?_append_right (by omega), Nat.sub_self]
    rfl
  · rw [e]
    simp
    omega
  · have em : melt l x i j = u ++ (x ++ (m ++ v)) := by
      unfold melt
      have e1 : l.take i = u := by
        rw [e, ← hi, List.take_left']
        rfl
      have e2 : l.drop (i + 1) = m ++ (a, t) :: v := by
        rw [e, ← hi, List.drop_append, List.drop_of_length_le (by omega)]
        rw [show u.length + 1 - u.length = 1 by omega]
        rfl
      have e3 : l.drop (j + 1) = v := by
        have : l.drop (j + 1) = (l.drop (i + 1)).drop (m.length + 1) := by
          rw [List.drop_drop]
          congr 1
          omega
        rw [this, e2, List.drop_append, List.drop_of_length_le (by omega), show m.length + 1 - m.length = 1 by omega]
        rfl
      rw [e1, e2, e3, show j - (i + 1) = m.length by omega, List.take_left' rfl, List.append_assoc]
    have nx : XM.NZ x := by
      rw [hx]
      intro y hy
      by_cases h0 : s + t = 0
      · rw [if_pos h0] at hy
        cases hy
      · rw [if_neg h0] at hy
        rw [List.mem_singleton.mp hy]
        exact h0
    have zl := hZ
    rw [e] at zl
    have zu : XM.NZ u := fun y hy => zl y (by simp [hy])
    have zm : XM.NZ m := fun y hy => zl y (by simp [hy])
    have zv : XM.NZ v := fun y hy => zl y (by simp [hy])
    have nl := hN
    rw [e] at nl
    rw [em]
    refine ⟨zu.app (nx.app (zm.app zv)), fun y hy => ?_, ?_, ?_⟩
    · rw [List.mem_append, List.mem_append, List.mem_append] at hy
      rcases hy with hy | hy | hy | hy
      · exact nl y (by simp [hy])
      · rw [hx] at hy
        by_cases h0 : s + t = 0
        · rw [if_pos h0] at hy
          cases hy
        · rw [if_neg h0] at hy
          rw [List.mem_singleton.mp hy]
          exact nl (a, s) (by simp)
      · exact nl y (by simp [hy])
      · exact nl y (by simp [hy])
    · rw [e, hx]
      exact (XM.act_meet (O := OF F) hm z1 z2 zu zm (show XM.NF (OF F) [] from trivial)).symm
    · rw [e, hx]
      by_cases h0 : s + t = 0
      · rw [if_pos h0]
        simp
        try omega
      · rw [if_neg h0]
        simp
        try omega
section
variable {P : Program} {w : World} {K : PySem.W.Frag} {mg : Str → Option Value} {base : Heap}
def spLawPile (K : PySem.W.Frag) (F : Fld) : Sp := fun vs H Q _ => ∃ (a p : Addr) (xs : List V) (l : List (Str × Int)), vs = [.ref a, .ref p] ∧ Dp K H (.ref a) (dField F) ∧ F.Ok ∧ SqT K H p xs ∧ DpAll K H xs (l.map dStep) ∧ Names F l ∧ XM.NZ l ∧ l.length ≤ 60 ∧
  ∀ H' r l', Same H H' → Row1 K H' r l' → H r = none → Names F l' → XM.NZ l' → XM.pl (OF F) l' = true → XM.act (OF F) l' [] = XM.act (OF F) l [] → l'.length ≤ l.length → Q (.ref r) H'
/-- what _law_met has answered -/
def SpotV (K : PySem.W.Frag) (H : Hp) (z : V) : Option (Nat × Nat) → Prop
  | none => z = .non
  | some p => ∃ t, z = .ref t ∧ SqT K H t [.int (p.1 : Nat), .int (p.2 : Nat)]
theorem metV_of {H : Hp} {Q : VK} {o : Option (Nat × Nat)} (h : ∀ H' z, Same H H' → SpotV K H' z o → Q z H') : metV K H Q o := by
  cases o with
  | none => exact fun H' s => h H' .non s rfl
  | some p => exact fun H' r s hs => h H' (.ref r) s ⟨r, rfl, hs⟩
def PileInv (K : PySem.W.Frag) (F : Fld) (H : Hp) (a p : Addr) (l : List (Str × Int)) : Nat → L2.St → Hp → Prop := fun m σ H2 => ∃ (D : Addr) (ys : List V) (l' : List (Str × Int)) (z : V) (y4 y5 y6 y7 : Option V), m = l'.length ∧ σ = [some (.ref a), some (.ref p), some (.ref D), some z, y4, y5, y6, y7] ∧ Same H H2 ∧ H2 D = some (.lst ys) ∧ DpAll K H2 ys (l'.map dStep) ∧ H D = none ∧
        Names F l' ∧ XM.NZ l' ∧ XM.act (OF F) l' [] = XM.act (OF F) l [] ∧ l'.length ≤ l.length ∧ SpotV K H2 z (XM.met (OF F) l')
end
end XB
set_option Elab.async false
set_option linter.all false
set_option maxRecDepth 100000
set_option maxHeartbeats 4000000
namespace XB
open PySem PySem.Spec PyProof.Rows L2
theorem rising_least : ∀ {r : List Str} {x : Str}, risingS x r = true → ∀ y ∈ r, sLt y x = false
  | [], _, _ => fun _ h => nomatch h
  | z :: r, x, h => by
    unfold risingS at h
    rw [Bool.and_eq_true] at h
    have h1 : sLt z x = false := by
      have := h.1
      rw [ltCps_eq] at this
      unfold sLt
      simpa using this
    intro y hy
    rcases List.mem_cons.mp hy with rfl | hy
    · exact h1
    · have h2 := rising_least h.2 y hy
      cases h3 : sLt y x
      · rfl
      · exfalso
        by_cases e : x = z
        · rw [e] at h3
          rw [h3] at h2
          cases h2
        · have h4 : sLt x z = true := sLt_tot z x (fun q => e q.symm) h1
          have := sLt_trans _ _ _ h3 h4
          rw [this] at h2
          cases h2
theorem sorted_head {y0 : Str} {ys : List Str} (h : sortedS (y0 :: ys) = true) : ∀ y ∈ y0 :: ys, sLt y y0 = false := fun y hy => by
  rcases List.mem_cons.mp hy with rfl | hy
  · exact sLt_irr _
  · exact rising_least h y hy
def nm1 (l : List (Str × Int)) (k : Nat) : Str := (l[k]?.map (·.1)).getD ""
theorem nm1_of {l : List (Str × Int)} {k : Nat} {s : Str × Int} (h : l[k]? = some s) : nm1 l k = s.1 := by
  unfold nm1
  rw [h]
  rfl
theorem mem_firsts {F : Fld} {l : List (Str × Int)} {n k : Nat} : k ∈ firstsL F l n ↔ k < n ∧ free1 F l k = true := by
  unfold firstsL
  rw [List.mem_filter, List.mem_range]
theorem firsts_at {F : Fld} {l : List (Str × Int)} {k : Nat} (h : k ∈ firstsL F l l.length) : ∃ s, l[k]? = some s ∧ ∀ y ∈ l.take k, (OF F).tc y.1 s.1 = false := by
  obtain ⟨h1, h2⟩ := mem_firsts.mp h
  have hs : l[k]? = some l[k] := List.getElem?_eq_getElem h1
  refine ⟨_, hs, fun y hy => ?_⟩
  unfold free1 at h2
  rw [hs] at h2
  have := List.all_eq_true.mp h2 y hy
  simpa using this
theorem least_first {F : Fld} {l : List (Str × Int)} {ys : List Str} {y0 : Str} (hP : (y0 :: ys).Perm ((firstsL F l l.length).map (nm1 l))) (hS : sortedS (y0 :: ys) = true) {k : Nat} (hk : k ∈ firstsL F l l.length) (hn : nm1 l k = y0) :
    ∃ s, l[k]? = some s ∧ s.1 = y0 ∧ l = l.take k ++ s :: l.drop (k + 1) ∧ XM.LeastFirst (OF F) (l.take k) s (l.drop (k + 1)) := by
  obtain ⟨s, hs, hf⟩ := firsts_at hk
  have e1 : s.1 = y0 := by rw [← hn, nm1_of hs]
  have e2 : l = l.take k ++ s :: l.drop (k + 1) := by
    rw [← drop_at hs, List.take_append_drop]
  refine ⟨s, hs, e1, e2, hf, fun p' z q' e hp hz => ?_⟩
  rw [← e2] at e
  have hz' : l[p'.length]? = some z := by
    rw [e, List.getElem?_append_right (Nat.le_refl _), Nat.sub_self]
    rfl
  have m : p'.length ∈ firstsL F l l.length := by
    refine mem_firsts.mpr ⟨(List.getElem?_eq_some_iff.mp hz').1, ?_⟩
    unfold free1
    rw [hz']
    show (l.take p'.length).all _ = true
    rw [e, List.take_left' rfl, List.all_eq_true]
    intro w hw
    rw [hp w hw]
    rfl
  have m2 : z.1 ∈ y0 :: ys := hP.symm.subset (List.mem_map.mpr ⟨_, m, nm1_of hz'⟩)
  have := sorted_head hS _ m2
  show sLt s.1 z.1 = true
  rw [e1]
  exact sLt_tot _ _ (fun q => hz (by rw [q, e1])) this
theorem firsts_some {F : Fld} {l : List (Str × Int)} (h : l ≠ []) : 0 ∈ firstsL F l l.length := by
  cases l with
  | nil => exact absurd rfl h
  | cons x r => exact mem_firsts.mpr ⟨by simp, rfl⟩
/-- what stands fast while the least pile is drawn from a pile -/
structure LInv (F : Fld) (l fl ll : List (Str × Int)) : Prop where
  srt : XM.Srt (OF F) fl ll
  pl : XM.pl (OF F) (fl ++ ll) = true
  nf : XM.NZ fl
  nl : XM.NZ ll
  act : XM.act (OF F) (fl ++ ll) [] = XM.act (OF F) l []
  nm : Names F ll
  len : fl.length + ll.length ≤ 60
theorem LInv.step {F : Fld} {l fl p q : List (Str × Int)} {s : Str × Int} (I : LInv F l fl (p ++ s :: q)) (L : XM.LeastFirst (OF F) p s q) : LInv F l (fl ++ [s]) (p ++ q) := by
  have zs : s.2 ≠ 0 := I.nl s (by simp)
  have zp : XM.NZ p := fun y hy => I.nl y (by simp [hy])
  have zq : XM.NZ q := fun y hy => I.nl y (by simp [hy])
  refine ⟨I.srt.step L, ?_, I.nf.app fun y hy => by rw [List.mem_singleton.mp hy]; exact zs, zp.app zq, ?_, fun y hy => I.nm y ?_, ?_⟩
  · rw [List.append_assoc, List.singleton_append, ← XM.pl_move L.free]
    exact I.pl
  · rw [List.append_assoc, List.singleton_append, ← XM.act_move L.free I.nf zp (show XM.NF (OF F) [] from trivial)]
    exact I.act
  · rw [List.mem_append] at hy
    rcases hy with h | h <;> simp [h]
  · have := I.len
    simp at this ⊢
    omega
theorem LInv.done {F : Fld} {l fl : List (Str × Int)} (I : LInv F l fl []) : (XM.act (OF F) l []).reverse = fl := by
  have h := I.pl
  have nf : XM.NF (OF F) fl.reverse := XM.nf_of (left := []) _ fl rfl I.srt h I.nf
  have a := XM.act_fix nf
  rw [List.reverse_reverse] at a
  have := I.act
  rw [List.append_nil, a] at this
  rw [← this, List.reverse_reverse]
theorem lay_steps : ∀ {l : List (Str × Int)}, (∀ s ∈ l, GoodName s.1) → PyData.canLayAll0 (l.map dStep) = true
  | [], _ => rfl
  | s :: l, h => by
    rw [List.map_cons, PyData.canLayAll0, lay_steps fun x hx => h x (List.mem_cons_of_mem _ hx)]
    show (PyData.canLay0 (.tuple [.str s.1, .int s.2]) && true) = true
    simp [PyData.canLay0, PyData.canLayAll0, strOk_of (h s List.mem_cons_self)]
theorem deep_steps : ∀ l : List (Str × Int), PyData.depthAll (l.map dStep) ≤ 2
  | [] => by decide
  | s :: l => by
    rw [List.map_cons, PyData.depthAll]
    have := deep_steps l
    have e : (dStep s).depth ≤ 2 := by
      show PyData.depth (.tuple [.str s.1, .int s.2]) ≤ 2
      simp [PyData.depth, PyData.depthAll]
    omega
theorem sh_steps {l : List (Str × Int)} (h : ∀ s ∈ l, GoodName s.1) : SeqAt.shaped (.list (l.map dStep)) = true := by
  have h2 := deep_steps l
  show (PyData.canLayAll0 (l.map dStep) && decide (PyData.depthAll (l.map dStep) + 1 ≤ 64)) = true
  rw [lay_steps h, Bool.true_and]
  exact decide_eq_true (by omega)
theorem ne_steps (l : List (Str × Int)) : PyData.eqv (.list (l.map dStep)) (.list []) = l.isEmpty := by
  cases l <;> rfl
end XB
set_option Elab.async false
set_option linter.all false
set_option maxRecDepth 100000
set_option maxHeartbeats 4000000
namespace XB
open PySem PySem.Spec PyProof.Rows L2
theorem fresh_of {H H1 : Hp} {p : Addr} (s : Same H H1) (h : H1 p = none) : H p = none := by
  cases e : H p with
  | none => rfl
  | some o =>
    rw [s _ _ e] at h
    cases h
theorem nat_at {ns : List Nat} {i : Nat} {x : V} (h : (ns.map fun k => V.int (k : Nat))[i]? = some x) : ∃ k, ns[i]? = some k ∧ x = V.int (k : Nat) := by
  rw [List.getElem?_map] at h
  obtain ⟨z, e, rfl⟩ := Option.map_eq_some_iff.mp h
  exact ⟨z, e, rfl⟩
section
variable {P : Program} {w : World} {K : PySem.W.Frag} {mg : Str → Option Value} {base : Heap}
def spLawLeast (K : PySem.W.Frag) (F : Fld) : Sp := fun vs H Q _ => ∃ (a p : Addr) (l : List (Str × Int)), vs = [.ref a, .ref p] ∧ Dp K H (.ref a) (dField F) ∧ F.Ok ∧ Dp K H (.ref p) (dSteps l) ∧ Names F l ∧ XM.NZ l ∧ l.length ≤ 60 ∧
  ∀ H' r, Same H H' → Dp K H' (.ref r) (dSteps (XM.act (OF F) l []).reverse) → Q (.ref r) H'
def LeastInv (K : PySem.W.Frag) (F : Fld) (H : Hp) (a p : Addr) (l : List (Str × Int)) : Nat → L2.St → Hp → Prop := fun m σ H2 => ∃ (D E : Addr) (xs ys : List V) (ll fl : List (Str × Int)) (y4 y5 y6 : Option V), m = ll.length ∧ σ = [some (.ref a), some (.ref p), some (.ref D), some (.ref E), y4, y5, y6] ∧ Same H H2 ∧
  H2 D = some (.lst xs) ∧ DpAll K H2 xs (ll.map dStep) ∧ H D = none ∧ H2 E = some (.lst ys) ∧ DpAll K H2 ys (fl.map dStep) ∧ H E = none ∧ D ≠ E ∧ LInv F l fl ll
end
end XB
set_option Elab.async false
set_option linter.all false
set_option maxRecDepth 100000
set_option maxHeartbeats 4000000
/-! tuples of which it is known that they have no dict of their own: their methods may be called -/
namespace XB
open PySem PySem.Spec PyProof.Rows L2
def SqF (H : Hp) (a : Addr) (xs : List V) : Prop := ∃ o : Obj, H a = some (.frz o (.tup xs)) ∧ o.cls = .type "tuple" ∧ o.dict = none
theorem SqF.sqT {K : PySem.W.Frag} {H : Hp} {a : Addr} {xs : List V} (h : SqF H a xs) : SqT K H a xs := by
  obtain ⟨o, e, _⟩ := h
  exact .inl (.inr ⟨o, e⟩)
theorem SqF.same {H H' : Hp} {a : Addr} {xs : List V} (h : SqF H a xs) (s : Same H H') : SqF H' a xs := by
  obtain ⟨o, e, r⟩ := h
  exact ⟨o, s _ _ e, r⟩
theorem SqF.tk {H H' : Hp} {a : Addr} {xs : List V} (h : SqF H a xs) (t : Tk H H') : SqF H' a xs := by
  obtain ⟨o, e, r⟩ := h
  exact ⟨o, t.z _ _ _ e, r⟩
/-- the names of a field stand so -/
def FNm (K : PySem.W.Frag) (H : Hp) (f : Addr) (F : Fld) : Prop := ∃ n p, SqT K H f [.ref n, .ref p] ∧ SqF H n (F.names.map V.str)
theorem FNm.tk {K : PySem.W.Frag} {H H' : Hp} {f : Addr} {F : Fld} (h : FNm K H f F) (t : Tk H H') : FNm K H' f F := by
  obtain ⟨n, p, h1, h2⟩ := h
  exact ⟨n, p, t.sqT h1, h2.tk t⟩
/-- (e, ..): a new tuple without a dict of its own -/
def tTupF (t : TA) : TE := fun σ H Q => t σ H fun xs H1 => xs.length ≤ sizeLine ∧ ∀ p o, o.cls = .type "tuple" → o.dict = none → H1 p = none → Q (.ref p) (upd H1 p (.frz o (.tup xs)))
def rSlF (K : PySem.W.Frag) : V → Option Int → Option Int → Hp → VK → Prop := fun x lo hi H Q => ∃ a xs, x = .ref a ∧ SqF H a xs ∧ ∀ H' p, Same H H' → SqF H' p (cutV xs lo hi) → Q (.ref p) H'
section
variable {X : Cx} {es : List Expr} {t : TA} {pos : Pos}
theorem pe_tupF {x1} (h : PA X es t) : PE X (.Tuple es x1 pos) (tTupF t) := by
  refine ⟨fun pins s σ H Q I hq => ?_⟩
  refine wpAny_Tuple_spliced (thn (h.run pos pins s σ H _ I hq) fun us s1 ⟨xs, H1, I1, r, z, q⟩ => ⟨by rw [← r.length]; exact z, ?_⟩)
  have hf : H1 s1.heap.objs.size = none := I1.hok.fresh (Nat.le_refl _)
  refine ⟨.ref s1.heap.objs.size, upd H1 s1.heap.objs.size (.frz { cls := .type "tuple", data := .seq us.toArray } (.tup xs)), I1.laid (t' := s1.toks) (fun b u e => Heap.get?_push_of_some _ e) (Nat.le_refl _) ?_, rfl, q _ _ rfl rfl hf⟩
  exact ⟨Heap.get?_push_size _ rfl, z, us, r, ⟨_, Heap.get?_push_size _ rfl, rfl, _, rfl⟩⟩
theorem sl_tupF {K : PySem.W.Frag} (hk : X.K = K) : SlR X (rSlF K) := by
  subst hk
  intro pins s σ H x v vl vu lo hi sl Q I rx hs pl pu h
  obtain ⟨a, xs, rfl, hF, q⟩ := h
  have hx : SqT X.K H a xs := hF.sqT
  cases rx
  obtain ⟨its, r, ht, hz⟩ := I.tuple hx
  have hlen : its.toArray.size = xs.length := by rw [List.size_toArray]; exact r.length.symm
  refine ⟨"tuple", _, PyProof.Rows.slot_tuple_getitem.lookup, ht.typeIs, ?_⟩
  by_cases hw : HT.sIx xs.length 0 lo = 0 ∧ HT.sIx xs.length xs.length hi = xs.length
  · refine getItem_tuple_whole ht hs pl pu (by rw [hlen]; exact hw) ⟨.ref a, H, I, rfl, q H a (Same.refl _) ?_⟩
    have e : cutV xs lo hi = xs := by
      unfold cutV
      rw [hw.1, hw.2]
      simp
    rw [e]
    exact hF
  · refine HT.getItem_tuple_cut ht hs pl pu (by rw [hlen]; exact hw) ?_ (by rw [hlen]; exact hz)
    rw [hlen]
    have hf : H s.heap.objs.size = none := I.hok.fresh (Nat.le_refl _)
    refine ⟨.ref s.heap.objs.size, _, I.laid (t' := s.toks) (o := .frz { cls := .type "tuple", data := .seq ((its.drop (HT.sIx xs.length 0 lo)).take (HT.sIx xs.length xs.length hi - HT.sIx xs.length 0 lo)).toArray } (.tup (cutV xs lo hi))) (fun b ob q => Heap.get?_push_of_some _ q) (Nat.le_refl _) ?_, rfl, q _ _ (same_upd hf) ⟨_, upd_same, rfl, rfl⟩⟩
    exact ⟨Heap.get?_push_size _ rfl, Nat.le_trans (cutV_length xs lo hi) hz, _, (r.drop (HT.sIx xs.length 0 lo)).take (HT.sIx xs.length xs.length hi - HT.sIx xs.length 0 lo), IsTup.new _ _⟩
/-- o.m(e, ..) of such a tuple -/
def tBMF (r : V → List V → Hp → VK → Prop) (to : TE) (t : TA) : TE := fun σ H Q => to σ H fun x H1 => (∃ a xs, x = .ref a ∧ SqF H1 a xs) ∧ t σ H1 fun xs H2 => r x xs H2 Q
variable {o e : Expr} {to : TE} {name : Str} {apos cpos : Pos} {id : String} {r : V → List V → Hp → VK → Prop}
theorem pe_bmF (slot : Slot "tuple" name id) (hty : typeOf (.builtin id) = pure (.type "method_descriptor")) (hm : MtR X id r) (ho : PE X o to) (ha : PA X (e :: es) t)
    (hbase : attributeBase o name X.env (eval o X.env) = eval o X.env := by rfl)
    (hfew : ((backTo cpos (starEach (e :: es) X.env)).all (fun x => !x.1) && (backToKw cpos (keywordEach [] X.env)).all (fun x => x.1.isSome)
      && decide ((e :: es).length + ([] : List Keyword).length + (if ([] : List Keyword).isEmpty then 0 else 1) < 30)) = true := by rfl)
    (hline : (apos.endLine == cpos.line) = true := by rfl) (hs : starEach (e :: es) X.env = (false, eval e X.env) :: starEach es X.env := by rfl) (hplain : (backTo cpos (starEach es X.env)).any (·.1) = false := by rfl) :
    PE X (.Call (.Attribute o name apos) (e :: es) [] cpos) (tBMF r to t) := by
  refine ⟨fun pins s σ H Q I h => ?_⟩
  refine wpAny_Call_method_late hbase hfew hline rfl (thn (ho.run pins s σ H _ I h) fun v s1 ⟨x, H1, I1, r1, ty, q1⟩ => ?_)
  obtain ⟨a, xs, rfl, ob, hH, hc, hd⟩ := ty
  cases r1
  obtain ⟨hg, _⟩ := I1.hok a _ hH
  refine ⟨"tuple", id, PySem.F.plainAttrs_tuple, slot, hty, ⟨ob, hg, hc⟩, fun b e => ?_, ?_⟩
  · cases e
    exact ⟨ob, hg, hd⟩
  · have hA := ha.run cpos pins s1 σ H1 _ I1 q1
    rw [hs] at hA ⊢
    refine Calls.callWith_builtin (by show (false || (backTo cpos (starEach es X.env)).any (·.1)) = false; rw [hplain] <;> rfl) (Calls.evalArgs_plain ?_)
    exact thn hA fun us s2 ⟨vs, H2, I2, r2, q2⟩ => hm pins s2 σ H2 (.ref a) vs _ us Q I2 rfl r2 q2
end
end XB
set_option Elab.async false
set_option linter.all false
set_option maxRecDepth 100000
set_option maxHeartbeats 4000000
namespace XB
open PySem PySem.Spec PyProof.Rows L2
def NL : List Str := ["a", "b", "c", "dd", "e", "f"]
def nmN (i : Nat) : Str := (NL[i]?).getD ""
def fP (n i : Nat) : List (Str × Str) := ((NL.take n).drop (i + 1)).map fun o => (nmN i, o)
def PP (n k : Nat) : List (Str × Str) := (List.range k).flatMap (fP n)
def ltP (p q : Str × Str) : Bool := if p.1 == q.1 then (if p.2 == q.2 then false else sLt p.2 q.2) else sLt p.1 q.1
def pwB {α : Type} (r : α → α → Bool) : List α → Bool
  | [] => true
  | x :: l => l.all (r x) && pwB r l
theorem pw_of {α : Type} {r : α → α → Bool} : ∀ {l : List α}, pwB r l = true → l.Pairwise fun a b => r a b = true
  | [], _ => .nil
  | x :: l, h => by
    unfold pwB at h
    rw [Bool.and_eq_true, List.all_eq_true] at h
    exact .cons h.1 (pw_of h.2)
def goodB (n : Str) : Bool := decide (1 ≤ n.length) && decide (n.length ≤ 6) && n.cps.toList.all fun c => decide (97 ≤ c) && decide (c ≤ 122)
theorem good_of {n : Str} (h : goodB n = true) : GoodName n := by
  unfold goodB at h
  simp only [Bool.and_eq_true, decide_eq_true_eq, List.all_eq_true] at h
  exact ⟨h.1.1, h.1.2, h.2⟩
def okB (n : Nat) : Bool := (PP n n).all (fun p => sLt p.1 p.2 && (NL.take n).contains p.1 && (NL.take n).contains p.2) && pwB ltP (PP n n) && pwB sLt (NL.take n) && (NL.take n).all goodB && decide ((PP n n).length ≤ 100) && decide ((NL.take n).length = n)
theorem okB_all : okB 1 = true ∧ okB 2 = true ∧ okB 3 = true ∧ okB 4 = true ∧ okB 5 = true ∧ okB 6 = true := by decide +kernel
theorem okB_of {n : Nat} (h0 : 1 ≤ n) (h6 : n ≤ 6) : okB n = true := by
  obtain ⟨a, b, c, d, e, f⟩ := okB_all
  rcases n with _ | _ | _ | _ | _ | _ | _ | n
  · omega
  · exact a
  · exact b
  · exact c
  · exact d
  · exact e
  · exact f
  · omega
theorem fld_ok {n : Nat} {ps : List (Str × Str)} (h0 : 1 ≤ n) (h6 : n ≤ 6) (hs : ps.Sublist (PP n n)) : (Fld.mk (NL.take n) ps).Ok := by
  have h := okB_of h0 h6
  unfold okB at h
  simp only [Bool.and_eq_true, decide_eq_true_eq, List.all_eq_true] at h
  obtain ⟨⟨⟨⟨⟨a, b⟩, c⟩, d⟩, e⟩, f⟩ := h
  refine ⟨by show 0 < (NL.take n).length; omega, by show (NL.take n).length ≤ 6; omega, fun p hp => (a p (hs.subset hp)).1.1, fun p hp => ⟨?_, ?_⟩, fun x hx => good_of (d x hx), pw_of c, (pw_of b).sublist hs, Nat.le_trans hs.length_le e⟩
  · have := (a p (hs.subset hp)).1.2
    simpa using this
  · have := (a p (hs.subset hp)).2
    simpa using this
theorem Dr.tk {H H' : Hp} {m c g : Addr} {s : Int} (D : Dr H m c g s) (k : Kp m g H H') : Tk H H' := by
  obtain ⟨⟨cs, gs, em, ec, eg, _⟩, _⟩ := D
  exact ⟨fun b xs e => k b _ (ne_of e em fun q => nomatch q) (ne_of e eg fun q => nomatch q) e, fun b o u e => k b _ (ne_of e em fun q => nomatch q) (ne_of e eg fun q => nomatch q) e⟩
theorem Dr.nm {H : Hp} {m c g : Addr} {s : Int} (D : Dr H m c g s) {p : Addr} (h : H p = none) : p ≠ m ∧ p ≠ c ∧ p ≠ g := by
  obtain ⟨⟨cs, gs, em, ec, eg, _⟩, _⟩ := D
  exact ⟨fun e => (by rw [e, em] at h; cases h), fun e => (by rw [e, ec] at h; cases h), fun e => (by rw [e, eg] at h; cases h)⟩
theorem Dr.same {H H' : Hp} {m c g : Addr} {s : Int} (D : Dr H m c g s) (t : Same H H') : Dr H' m c g s := by
  obtain ⟨⟨cs, gs, em, ec, eg, r⟩, a, b⟩ := D
  exact ⟨⟨cs, gs, t _ _ em, t _ _ ec, t _ _ eg, r⟩, a, b⟩
theorem Dr.put {H : Hp} {m c g D : Addr} {s : Int} {o : HO} (R : Dr H m c g s) (h : D ≠ m ∧ D ≠ c ∧ D ≠ g) : Dr (upd H D o) m c g s := by
  obtain ⟨⟨cs, gs, em, ec, eg, r⟩, a, b⟩ := R
  exact ⟨⟨cs, gs, by rw [upd_ne h.1.symm]; exact em, by rw [upd_ne h.2.1.symm]; exact ec, by rw [upd_ne h.2.2.symm]; exact eg, r⟩, a, b⟩
theorem Kp.put {m g D : Addr} {H H1 : Hp} {o : HO} (k : Kp m g H H1) (h : H D = none) : Kp m g H (upd H1 D o) := fun b u h1 h2 e => by
  rw [upd_ne (ne_of_none e h)]
  exact k b u h1 h2 e
theorem sl_pre {K : PySem.W.Frag} {H : Hp} {a : Addr} {xs : List V} {k : Nat} {Q : VK} (h : SqT K H a xs) (q : ∀ H' p, Same H H' → SqT K H' p (xs.take k) → Q (.ref p) H') : rSlA K (.ref a) none (some (k : Int)) H Q := by
  refine ⟨a, xs, rfl, h, fun hw => q H a (Same.refl _) ?_, fun _ p hp => q _ p (same_upd hp) ?_⟩
  · rw [← cut_init, cut_whole hw]
    exact h
  · rw [← cut_init]
    exact SqT.of upd_same
theorem sl_suf {K : PySem.W.Frag} {H : Hp} {a : Addr} {xs : List V} {k : Nat} {Q : VK} (h : SqT K H a xs) (q : ∀ H' p, Same H H' → SqT K H' p (xs.drop k) → Q (.ref p) H') : rSlA K (.ref a) (some (k : Int)) none H Q := by
  refine ⟨a, xs, rfl, h, fun hw => q H a (Same.refl _) ?_, fun _ p hp => q _ p (same_upd hp) ?_⟩
  · rw [← cut_from, cut_whole hw]
    exact h
  · rw [← cut_from]
    exact SqT.of upd_same
theorem PP_succ (n k : Nat) : PP n (k + 1) = PP n k ++ fP n k := by
  unfold PP
  rw [List.range_succ, List.flatMap_append]
  simp
theorem nl_at {n k : Nat} (h6 : n ≤ 6) (h : k < n) : ((NL.take n).map V.str)[k]? = some (.str (nmN k)) := by
  have hl : k < NL.length := by show k < 6; omega
  rw [List.getElem?_map, List.getElem?_take, if_pos h, List.getElem?_eq_getElem hl]
  unfold nmN
  rw [List.getElem?_eq_getElem hl]
  rfl
theorem nl_len {n : Nat} (h6 : n ≤ 6) : (NL.take n).length = n := by
  rw [List.length_take]
  show min n 6 = n
  omega
/-- pairs in a list of their own -/
def RowP (K : PySem.W.Frag) (H : Hp) (D : Addr) (ps : List (Str × Str)) : Prop := ∃ xs, H D = some (.lst xs) ∧ DpAll K H xs (ps.map dPair)
theorem flat_pairs (ps : List (Str × Str)) : flatAll (ps.map dPair) = true := flatAll_of fun d hd => by
  obtain ⟨y, _, rfl⟩ := List.mem_map.mp hd
  rfl
def FieldInv (K : PySem.W.Frag) (H : Hp) (m c g tn D : Addr) (most ch s : Int) (n : Nat) (all : List (Str × Str)) (b : Nat) (y5 : Option V) : L2.St → Hp → Prop := fun σ H2 => ∃ (y6 : Option V) (s2 : Int) (ps : List (Str × Str)), σ = [some (.ref m), some (.int most), some (.ref tn), some (.ref D), some (.int ch), y5, y6] ∧
  Kp m g H H2 ∧ Dr H2 m c g s2 ∧ s2 ≤ s + 2 + (b : Int) ∧ SqF H2 tn ((NL.take n).map V.str) ∧ RowP K H2 D ps ∧ ps.Sublist all ∧ ps.length ≤ b
section
variable {P : Program} {w : World} {K : PySem.W.Frag} {mg : Str → Option Value} {base : Heap}
def spLawField (K : PySem.W.Frag) : Sp := fun vs H Q _ => ∃ (m c g : Addr) (s most : Int), vs = [.ref m, .int most] ∧ Dr H m c g s ∧ 1 ≤ most ∧ most ≤ 6 ∧ s < 1000000000 ∧
  ∀ H' f F s', Dr H' m c g s' → s' ≤ s + 40 → Kp m g H H' → Dp K H' (.ref f) (dField F) → F.Ok → FNm K H' f F → Q (.ref f) H'
end
end XB
set_option Elab.async false
set_option linter.all false
set_option maxRecDepth 100000
set_option maxHeartbeats 4000000
/-! list.extend of a tuple -/
namespace PySem.AutoSeq1
theorem list_extend_tupleW (l : Addr) (items : Array Value) (n : Nat) (b : Addr) (items2 : Array Value) (n2 : Nat) (od : Option Addr) (slo : Array (Option Value)) (hs0 : ¬(!items.isEmpty && Builtin.List.listTooLong (items.size + items2.size)) = true) (hs1 : items.size ≤ sizeLine) (hs2 : items.size + items2.size ≤ sizeLine + 1) :
    Meets (Builtin.«list.extend» ⟨[.ref l, .ref b], []⟩) (fun _ R s => s.heap.get? l = some { cls := .type "list", dict := none, data := .seq items n, slots := #[] } ∧ s.heap.get? b = some { cls := .type "tuple", dict := od, data := .seq items2 n2, slots := slo } ∧ R (.ok (.ret Value.none)) { s with heap := s.heap.update l (Obj.mapSeq fun x => x ++ items2), toks := s.toks }) :=
  .of_wp fun prog w A R s h => by
    obtain ⟨hp, g, d, tk, os⟩ := s; obtain ⟨hl, hb, h⟩ := h; have f1 := idx_int; have f2 := sub_tuple_tuple; have f3 := sub_list_list; have f4 := sub_tuple_list; have f5 := sub_list_tuple;
    have hz' : (items ++ items2).size ≤ sizeLine + 1 := by rw [Array.size_append]; exact hs2
    wp_walk using (wpAny_updateSeq hl rfl (hz := hs1) (_hz' := hz')), wpAny_loadPart' hl, wpAny_loadPart' hb; exact ⟨_, rfl, h⟩
end PySem.AutoSeq1
namespace XB
open PySem PySem.Spec PyProof.Rows L2
section
variable {X : Cx}
def rExtendT (K : PySem.W.Frag) : V → List V → Hp → VK → Prop := fun x vs H Q => ∃ l b xs zs, x = .ref l ∧ vs = [.ref b] ∧ H l = some (.lst xs) ∧ SqT K H b zs ∧ xs.length + zs.length ≤ sizeLine ∧ Q .non (upd H l (.lst (xs ++ zs)))
theorem mt_extendT {K : PySem.W.Frag} (hK : X.K = K) : MtM X "list.extend" (rExtendT K) := by
  subst hK
  intro pins s σ H x vs v us Q I rx rv h
  obtain ⟨l, b, xs, zs, rfl, rfl, hH, hB, hz, q⟩ := h
  cases rx
  obtain ⟨u, rfl, ru⟩ := rv.one
  cases ru
  obtain ⟨z, its, n, r, hl, e⟩ := I.lstM hH
  obtain ⟨its2, r2, ⟨⟨oc, od, dat, slo⟩, hob, ecl, nn, eda⟩, hsz⟩ := I.tuple hB
  simp only at ecl eda
  subst ecl eda
  have hl2 := r2.length
  have hsz : its.toArray.size + its2.toArray.size ≤ sizeLine := by rw [List.size_toArray, List.size_toArray]; omega
  have hlong : ¬ (!its.toArray.isEmpty && Builtin.List.listTooLong (its.toArray.size + its2.toArray.size)) = true := by
    rw [notLongL hsz, Bool.and_false]
    exact Bool.false_ne_true
  refine call_meets PySem.F.slot_list_extend ⟨_, e, rfl⟩ PySem.F.entry_list_extend (PySem.F.args_list_extend_2 _ _)
    (PySem.AutoSeq1.list_extend_tupleW l its.toArray n b its2.toArray nn od slo hlong (by rw [List.size_toArray]; omega) (by omega)) ⟨e, hob, ?_⟩
  refine ⟨.non, _, I.lset (its' := its ++ its2) hH e (by simp) (r.append r2) ?_, rfl, q⟩
  rw [List.length_append]
  omega
end
section
variable {X : Cx} {K : PySem.W.Frag}
theorem op_notInDTk (hk : X.K = K) (hu : X.A.units + 65 < cLine) : OpR X (compareOp .NotIn) (fun x y H Q => ∃ d ds, Dp K H x d ∧ Dp K H y (.tuple ds) ∧ SeqAt.shaped d = true ∧ SeqAt.shaped (.tuple ds) = true ∧ Q (.bl (!ds.any fun z => PyData.eqv z d)) H) := by
  subst hk
  intro pins s σ H x y v u Q I rx ry h
  obtain ⟨d, ds, hd, he, sd, se, q⟩ := h
  obtain ⟨as, r1⟩ := Dp.reads I d x v hd rx
  obtain ⟨bs, r2⟩ := Dp.reads I (.tuple ds) y u he ry
  exact SeqAt.notIn_tuple_reads r2 r1 (SeqAt.canLay_of_shaped se) (SeqAt.canLay_of_shaped sd) (room_in_shaped sd hu) ⟨.bl _, H, I, rfl, q⟩
theorem op_inDk (hk : X.K = K) (hu : X.A.units + 65 < cLine) : OpR X (compareOp .In) (rInD K) := by
  subst hk
  exact op_inD hu
theorem op_notInDk (hk : X.K = K) (hu : X.A.units + 65 < cLine) : OpR X (compareOp .NotIn) (rNotInD K) := by
  subst hk
  exact op_notInD hu
end
end XB
set_option Elab.async false
set_option linter.all false
set_option maxRecDepth 100000
set_option maxHeartbeats 4000000
namespace XB
open PySem PySem.Spec PyProof.Rows L2
/-! holders, need_place -/
theorem touch_any {F : Fld} (ok : F.Ok) {x : Str} (hx : x ∈ F.names) : ∀ hs : List Str, (hs.flatMap (touchL F)).contains x = hs.any fun y => (OF F).tc y x
  | [] => rfl
  | y :: hs => by
    have ih := touch_any ok hx hs
    rw [List.flatMap_cons, List.any_cons, ← ih, (OF F).symm, ← mem_touch ok hx]
    simp
theorem touch_len {F : Fld} (ok : F.Ok) : ∀ hs : List Str, (hs.flatMap (touchL F)).length ≤ 6 * hs.length
  | [] => Nat.le_refl _
  | y :: hs => by
    have ih := touch_len ok hs
    have h1 : (touchL F y).length ≤ F.names.length := List.length_filter_le _ _
    have := ok.n6
    rw [List.flatMap_cons, List.length_append, List.length_cons]
    omega
theorem holdN_le {F : Fld} : ∀ (r : List Itm) (ns : List Str), (holdN F ns r).length ≤ r.length
  | [], _ => Nat.le_refl _
  | p :: r, ns => by
    unfold holdN
    split
    · exact Nat.succ_le_succ (holdN_le r _)
    · exact Nat.le_succ_of_le (holdN_le r _)
section
variable {P : Program} {w : World} {K : PySem.W.Frag} {mg : Str → Option Value} {base : Heap}
/-- numbers as they stand in rows -/
def nums (l : List Nat) : List V := l.map fun n : Nat => V.int (n : Int)
def spHolders (K : PySem.W.Frag) : Sp := fun vs H Q _ => ∃ (F : Fld) (t r : Addr) (row : List Itm) (i : Nat), vs = [.ref t, .ref r, .int (i : Int)] ∧ TouchAt K H t F ∧ F.Ok ∧ Dp K H (.ref r) (dRow row) ∧ (∀ p ∈ row, p.2.1 ∈ F.names) ∧ row.length ≤ 60 ∧ i < row.length ∧
  ∀ H' q, Same H H' → SqT K H' q (nums (holdAt F row i)) → Q (.ref q) H'
theorem c_holders (T : Tx K mg) : Cl P w K mg base CX0 1 "holders" (spHolders K) := by
  refine cl0 T.d_holders (ps := ["touch", "row", "at"]) (fun _ _ _ _ _ _ us hl => match us, hl with | [_, _, _], _ => rfl) sc_holders (fun vs H Q E h => ?_) (fun fa cdv A outer st H vs Q E hr h => ?_)
  · obtain ⟨F, t, r, row, i, rfl, _⟩ := h
    rfl
  · obtain ⟨F, t, r, row, i, rfl, hT, ok, hR, hN, hl, hi, q⟩ := h
    have nd := sc_holders.nd
    have hu := hu_of hr
    refine ⟨_, (pss_cons (ps_set (i := 3) nd rfl (.inl rfl) (pe_lst pa_nil))
    (pss_cons (ps_asg (pe_ix (ixk_tup (K := K) rfl) (pv 1) (pv 2) (fun _ _ => rfl)) (pg_tup rfl (pgs_cons (pg_name (i := 4) nd rfl (.inl rfl)) (pgs_cons (pg_tup rfl (pgs_cons (pg_name (i := 5) nd rfl (.inl rfl)) (pgs_cons (pg_name (i := 4) nd rfl (.inl rfl)) pgs_nil))) pgs_nil))))
    (pss_cons (ps_set (i := 6) nd rfl (.inl rfl) (pe_callTy call_list_of (by rfl) T.b_list (by decide +kernel) (pa_cons (pe_dget hu (pv 0) (pv 5) (fun _ _ => rfl)) pa_nil)))
    (pss_cons (ps_for PassesOwn.never rfl (pi_tup (pe_slice sl_tupA (pv 1) (po_some (pe_op op_add (pv 2) pe_int)) po_none)) (pg_tup rfl (pgs_cons (pg_name (i := 7) nd rfl (.inl rfl)) (pgs_cons (pg_tup rfl (pgs_cons (pg_name (i := 8) nd rfl (.inl rfl)) (pgs_cons (pg_name (i := 4) nd rfl (.inl rfl)) pgs_nil))) pgs_nil)))
    (pss_one (ps_if (pt_cmpR (opk_in_seq (K := K) rfl) (pv 8) (pv 6) (by rfl)) (pss_cons (ps_expr (pe_bm PySem.F.plainAttrs_list PySem.F.slot_list_append PySem.F.type_list_append mt_append (pv 3) (pa_cons (pv 7) pa_nil)))
    (pss_one (ps_expr (pe_bm PySem.F.plainAttrs_list PySem.F.slot_list_extend PySem.F.type_list_extend (mt_extendT (K := K) rfl) (pv 6) (pa_cons (pe_dget hu (pv 0) (pv 8) (fun _ _ => rfl)) pa_nil))))) pss_nil)))
    (pss_one (ps_ret (pe_tupleOf (by rfl) T.b_tuple (pv 3)))))))), ?_⟩
    --@
    obtain ⟨_, xs, e, hX, hV⟩ := hR.row
    cases e
    have lx := hV.len
    rw [List.length_map] at lx
    have hp0 : row[i]? = some row[i] := List.getElem?_eq_getElem hi
    generalize row[i] = p0 at hp0
    have m0 := hN p0 (List.mem_of_getElem? hp0)
    obtain ⟨x0, gx0, px0⟩ : ∃ x, xs[i]? = some x ∧ Dp K H x (dItm p0) := by
      have hx : xs[i]? = some xs[i] := List.getElem?_eq_getElem (by omega)
      obtain ⟨d, g1, p1⟩ := hV.get hx
      rw [List.getElem?_map, hp0] at g1
      cases g1
      exact ⟨_, hx, p1⟩
    obtain ⟨a0, b0, rfl, k1, k2⟩ := px0.itm
    refine ⟨Nat.zero_le _, fun L hL => upd_gen hL fun H1 s1 e1 => ?_⟩
    refine ⟨_, rfl, _, rfl, _, _, i, _, rfl, rfl, (Tk.of s1).sqT hX, at_of (j := i) rfl gx0, ?_⟩
    refine ⟨_, _, rfl, (Tk.of s1).sqT k1, rfl, _, _, rfl, _, _, rfl, _, _, rfl, (Tk.of s1).sqT k2, rfl, _, _, rfl, _, _, rfl, rfl, rfl, ?_⟩
    obtain ⟨kvs, et, gt⟩ := id hT
    obtain ⟨bt, eb, sbt⟩ := gt _ m0
    refine ⟨_, rfl, _, rfl, t, .ref bt, rfl, by rw [← eb]; exact DGet.k (k := .inr p0.2.1) (s1 _ _ et), bt, _, rfl, .inr ((Tk.of s1).sqT sbt), fun L6 hL6 => upd_gen hL6 fun H2 s2 e2 => ?_⟩
    have e1b := s2 _ _ e1
    have s12 := s1.trans s2
    have n6 : L6 ≠ L := fun z => by
      rw [z, e1] at hL6
      cases hL6
    have hL0 := hL
    have h60 : H L6 = none := fresh_of s1 hL6
    refine ⟨_, rfl, _, rfl, _, _, rfl, rfl, ((i + 1 : Nat) : Int), rfl, noPart (sl_suf ((Tk.of s12).sqT hX) fun H3 u s3 hU => ⟨u, rfl, ⟨_, hU⟩, ?_⟩)⟩
    have s13 := s12.trans s3
    obtain ⟨rest, hrest⟩ : ∃ rest, rest = row.drop (i + 1) := ⟨_, rfl⟩
    have hVr : DpAll K H3 (xs.drop (i + 1)) (rest.map dItm) := by
      rw [hrest, List.map_drop]
      exact (DpAll.sm s13 _ hV).drop (i + 1)
    have lrest : rest.length ≤ 60 := by
      rw [hrest, List.length_drop]
      omega
    have lxr := hVr.len
    rw [List.length_map] at lxr
    have hNr : ∀ p ∈ rest, p.2.1 ∈ F.names := fun p hp => hN p (by rw [hrest] at hp; exact List.mem_of_mem_drop hp)
    have eAt : holdAt F row i = holdN F [p0.2.1] rest := by
      unfold holdAt
      rw [hp0, hrest]
    refine for_it (walk_tup (xs := xs.drop (i + 1))) (fun j σ H' => ∃ (y4 y7 y8 : Option V) (hs : List Str) (found : List Nat), σ = [some (.ref t), some (.ref r), some (.int (i : Int)), some (.ref L), y4, some (.str p0.2.1), some (.ref L6), y7, y8] ∧
        H' L = some (.lst (nums found)) ∧ H' L6 = some (.lst ((hs.flatMap (touchL F)).map V.str)) ∧ Same H H' ∧ Tk H3 H' ∧ holdN F [p0.2.1] rest = found ++ holdN F hs (rest.drop j) ∧ hs.length ≤ j + 1 ∧ found.length ≤ j ∧ ∀ y ∈ hs, y ∈ F.names)
      ⟨_, none, none, [p0.2.1], [], rfl, s3 _ _ e1b, ?_, s13, Tk.refl, rfl, Nat.le_refl _, Nat.le_refl _, fun y hy => by rw [List.mem_singleton.mp hy]; exact m0⟩ (fun j σ H4 hj ⟨y4, y7, y8, hs, found, eσ, eL, e6, s4, t4, eh, lh, lf, hh⟩ => t4.sqT hU) (fun j x σ H4 H5 hj ⟨y4, y7, y8, hs, found, eσ, eL, e6, s4, t4, eh, lh, lf, hh⟩ hy => ?_) (fun σ H4 ⟨y4, y7, y8, hs, found, eσ, eL, e6, s4, t4, eh, lh, lf, hh⟩ => ?_)
    · have e2 : H2 L6 = some (.lst ((touchL F p0.2.1).map V.str)) := e2
      rw [List.flatMap_cons, List.flatMap_nil, List.append_nil]
      exact s3 _ _ e2
    · obtain ⟨rfl, hx⟩ := hy
      subst eσ
      obtain ⟨d, g1, p1⟩ := hVr.get hx
      rw [List.getElem?_map] at g1
      obtain ⟨p, k1, rfl⟩ := Option.map_eq_some_iff.mp g1
      obtain ⟨ta, tb, rfl, h1, h2⟩ := (Dp.tk t4 _ (flat_itm p) p1).itm
      have mp := hNr p (List.mem_of_getElem? k1)
      have hd : rest.drop j = p :: rest.drop (j + 1) := by
        have hjl : j < rest.length := (List.getElem?_eq_some_iff.mp k1).1
        rw [List.drop_eq_getElem_cons hjl, (List.getElem?_eq_some_iff.mp k1).2]
      have lj : j < 60 := by
        have := (List.getElem?_eq_some_iff.mp k1).1
        omega
      refine ⟨_, _, rfl, h1, rfl, _, _, rfl, _, _, rfl, _, _, rfl, h2, rfl, _, _, rfl, _, _, rfl, rfl, rfl, ?_⟩
      have lt := touch_len ok hs
      refine ⟨_, rfl, _, rfl, L6, _, rfl, .inl (SqL.of e6), rfl, ?_, ?_⟩
      · rw [List.all_eq_true]
        intro z hz
        obtain ⟨y, _, rfl⟩ := List.mem_map.mp hz
        rfl
      rw [if_neg Bool.false_ne_true, inV_strs, touch_any ok mp hs]
      have e0 : holdN F hs (p :: rest.drop (j + 1)) = if hs.any (fun x => (OF F).tc x p.2.1) then p.1 :: holdN F (hs ++ [p.2.1]) (rest.drop (j + 1)) else holdN F hs (rest.drop (j + 1)) := rfl
      rw [hd, e0] at eh
      by_cases hc : (hs.any fun y => (OF F).tc y p.2.1) = true
      · rw [if_pos hc] at eh
        rw [hc]
        refine ⟨_, rfl, iteT ⟨_, rfl, .inl ⟨rfl, _, SqL.of eL⟩, _, rfl, L, _, _, rfl, rfl, eL, small1000 (by unfold nums; rw [List.length_map]; omega), ?_⟩⟩
        have tL : Tk H5 (upd H5 L (.lst (nums found ++ [.int (p.1 : Int)]))) := Tk.refl.lst eL
        have sL : Same H (upd H5 L (.lst (nums found ++ [.int (p.1 : Int)]))) := same_put s4 hL0
        have eL' : upd H5 L (.lst (nums found ++ [.int (p.1 : Int)])) L = some (.lst (nums (found ++ [p.1]))) := by
          rw [upd_same]
          unfold nums
          rw [List.map_append]
          rfl
        have e6' : upd H5 L (.lst (nums found ++ [.int (p.1 : Int)])) L6 = some (.lst ((hs.flatMap (touchL F)).map V.str)) := by
          rw [upd_ne n6]
          exact e6
        generalize upd H5 L (.lst (nums found ++ [.int (p.1 : Int)])) = H6 at tL sL eL' e6' ⊢
        obtain ⟨kvs2, et2, gt2⟩ := hT.same sL
        obtain ⟨bt2, eb2, sbt2⟩ := gt2 _ mp
        have ltl : (touchL F p.2.1).length ≤ 6 := Nat.le_trans (List.length_filter_le _ _) ok.n6
        refine ⟨_, rfl, .inl ⟨rfl, _, SqL.of e6'⟩, _, rfl, _, rfl, t, .ref bt2, rfl, by rw [← eb2]; exact DGet.k (k := .inr p.2.1) et2, L6, bt2, _, _, rfl, rfl, e6', sbt2, Nat.le_of_lt (small1000 (by rw [List.length_map, List.length_map]; omega)), ?_⟩
        refine ⟨_, _, _, hs ++ [p.2.1], found ++ [p.1], rfl, ?_, ?_, same_put sL h60, (t4.trans tL).lst e6', ?_, by rw [List.length_append, List.length_singleton]; omega, by rw [List.length_append, List.length_singleton]; omega, fun y hy => ?_⟩
        · rw [upd_ne n6.symm]
          exact eL'
        · rw [upd_same, List.flatMap_append, List.map_append, List.flatMap_cons, List.flatMap_nil, List.append_nil]
        · rw [eh, List.append_assoc]
          rfl
        · rcases List.mem_append.mp hy with h | h
          · exact hh y h
          · rw [List.mem_singleton.mp h]
            exact mp
      · rw [if_neg hc] at eh
        rw [Bool.eq_false_iff.mpr hc]
        exact ⟨_, rfl, iteF ⟨_, _, _, hs, found, rfl, eL, e6, s4, t4, eh, by omega, by omega, hh⟩⟩
    · subst eσ
      have e0 : holdN F hs [] = [] := rfl
      rw [List.drop_of_length_le (by omega), e0, List.append_nil] at eh
      refine ⟨_, rfl, .inl ⟨L, _, rfl, SqL.of eL, fun v nv => upd_gen nv fun H5 s5 e5 => q H5 v (s4.trans s5) ?_⟩⟩
      rw [eAt, eh]
      exact SqT.of e5
end
end XB
set_option Elab.async false
set_option linter.all false
set_option maxRecDepth 100000
set_option maxHeartbeats 4000000
/-! rules of texts, rows, tuples with K taken apart (for comprehension blocks) -/
namespace XB
open PySem PySem.Spec PyProof.Rows L2
section
variable {X : Cx} {K : PySem.W.Frag}
theorem slk_list (hk : X.K = K) : SlR X (rSlL K) := by
  subst hk
  exact sl_list
theorem slk_tupA (hk : X.K = K) : SlR X (rSlA K) := by
  subst hk
  exact sl_tupA
def rJoin (K : PySem.W.Frag) : V → List V → Hp → VK → Prop := fun x xs H Q => ∃ a p, ∃ ys : List Str, x = .str a ∧ xs = [.ref p] ∧ (SqL K H p (ys.map V.str) ∨ SqT K H p (ys.map V.str)) ∧ (ys.map (·.length)).sum + ys.length * a.length ≤ 16777216 ∧ Q (.str (Txt.join a ys)) H
theorem pe_joink {o e : Expr} {to te : TE} {apos pos : Pos} (hk : X.K = K) (ho : PE X o to) (he : PE X e te) (hs : starEach [e] X.env = [(false, eval e X.env)] := by rfl) (hbase : attributeBase o "join" X.env (eval o X.env) = eval o X.env := by rfl) (hline : (apos.endLine == pos.line) = true := by rfl) :
    PE X (.Call (.Attribute o "join" apos) [e] [] pos) (tM1 (rJoin K) to te) := by
  subst hk
  exact pe_join ho he hs hbase hline
theorem pe_tupleOfk {a : Expr} {ta : TE} {p pos : Pos} (hk : X.K = K) (hg : Gl X "tuple") (hm : X.mg "tuple" = none) (ha : PE X a ta) (na : starEach [a] X.env = (false, eval a X.env) :: starEach [] X.env := by rfl) :
    PE X (.Call (.Name "tuple" p) [a] [] pos) (tThen ta (kTup K)) := by
  subst hk
  exact pe_tupleOf hg hm ha na
theorem op_neDk (hk : X.K = K) (hu : X.A.units + 64 < cLine) : OpR X (compareOp .NotEq) (rNeD K) := by
  subst hk
  exact op_neD hu
theorem op_eqDk (hk : X.K = K) (hu : X.A.units + 64 < cLine) : OpR X (compareOp .Eq) (rEqD K) := by
  subst hk
  exact op_eqD hu
end
end XB
set_option Elab.async false
set_option linter.all false
set_option maxRecDepth 100000
set_option maxHeartbeats 4000000
namespace XB
open PySem PySem.Spec PyProof.Rows L2
/-! need_place, ahead_of, free, least -/
section
variable {P : Program} {w : World} {K : PySem.W.Frag} {mg : Str → Option Value} {base : Heap}
theorem c_BadNumber (T : Tx K mg) : MkE P w K mg base 1 "BadNumber" "value" := by
  refine mke0 T.e_BadNumber (ps := ["self", "value"]) rfl (fun _ _ _ _ _ _ us hl => match us, hl with | [_, _], _ => rfl) (fun _ _ _ _ _ _ _ _ => rfl) sc_BadNumber___init__ (fun C fI cdv A outer st H vs Q E hC hm hr h => ?_)
  obtain ⟨a, y, rfl, e, q⟩ := h
  exact ⟨_, pss_one (ps_osG (pv 0) (pv 1)), _, rfl, _, rfl, a, C, rfl, hC, T.n_BadNumber_value C hm, e, q⟩
theorem NoWhole.same {H H' : Hp} {v : V} (h : NoWhole K H v) (s : Same H H') : NoWhole K H' v := by
  rcases h with ⟨d, a, b⟩ | ⟨a, e, k⟩
  · exact .inl ⟨d, Dp.sm s _ a, b⟩
  · exact .inr ⟨a, e, s _ _ k⟩
/-- a number that stands in a row at a place, or does not stand in it -/
def PlaceOf (K : PySem.W.Frag) (mg : Str → Option Value) (H : Hp) (E : XK) (row : List Itm) (v : V) (R : Nat → Itm → Prop) : Prop :=
  (NoWhole K H v ∧ RefE K mg H E "BadNumber" "value" v) ∨ (∃ z, v = .int z ∧ hasN row z = false ∧ RefE K mg H E "BadNumber" "value" v) ∨
  ∃ i p, row[i]? = some p ∧ v = .int (p.1 : Int) ∧ (∀ j q, j < i → row[j]? = some q → q.1 ≠ p.1) ∧ R i p
def spNeedPlace (K : PySem.W.Frag) (mg : Str → Option Value) : Sp := fun vs H Q E => ∃ (r : Addr) (v : V) (row : List Itm), vs = [.ref r, v] ∧ Dp K H (.ref r) (dRow row) ∧ row.length ≤ 60 ∧ PlaceOf K mg H E row v fun i _ => ∀ H', Same H H' → Q (.int (i : Int)) H'
theorem c_need_place (T : Tx K mg) : Cl P w K mg base (L2.CX P w) 3 "need_place" (spNeedPlace K mg) := by
  refine clX T.d_need_place (ps := ["row", "number"]) (fun _ _ _ _ _ _ us hl => match us, hl with | [_, _], _ => rfl) sc_need_place (fun vs H Q E h => ?_) (fun f cdv A outer st H vs Q E hr h => ?_)
  · obtain ⟨r, v, row, rfl, _⟩ := h
    rfl
  · obtain ⟨r, v, row, rfl, hR, hl, q⟩ := h
    have nd := sc_need_place.nd
    have hu := hu_of hr
    have tk : Takes (cxOf (L2.CX P w) P w K mg base ["row", "number", "numbers", "other", "_"] "need_place" (defScope s_need_place) f cdv A outer st H E) fun cls d _ H => E cls d H := takes_of rfl rfl rfl rfl
    refine ⟨_, (pss_cons (ps_setLc (i := 2) (own := [("other", 3), ("_", 4)]) (g := (gTup K 2 (gCons (gName 3) (gCons (gName 4) gNil)))) (tt := tYes) rfl nd rfl rfl (sw_true rfl rfl rfl (by decide +kernel)) (pi_tup (pv 0)) (blkOk_by (own := [("other", 3), ("_", 4)]) (N := ["row", "number", "numbers", "other", "_"]) (sc := defScope s_need_place) (by decide +kernel)) (fun _ _ _ _ _ => (pg_tup rfl (pgs_cons (pg_name (i := 3) nd rfl (by first | exact Or.inl rfl | exact Or.inr rfl)) (pgs_cons (pg_name (i := 4) nd rfl (by first | exact Or.inl rfl | exact Or.inr rfl)) pgs_nil)))) (fun _ _ _ _ _ => pts_nil) (fun _ _ _ _ _ => (pv 3)))
    (pss_cons (ps_if (PW.pt (pw_or (pt_not (pt_val (pe_k (c_is_wholeN T) hr (by decide) (by rfl) (pa_cons (pv 1) pa_nil)))) (pw_or1 (pt_cmpR (op_notInD (u65 hr)) (pv 1) (pv 2) (by rfl))))) (pss_one (ps_rs (K := K) (mg := mg) rfl rfl rfl tk (c_BadNumber T) hr (by decide) (by rfl) (pv 1))) pss_nil)
    (pss_one (ps_ret (pe_bm PySem.F.plainAttrs_list PySem.F.slot_list_index PySem.F.type_list_index (mt_indexD (u65 hr)) (pv 2) (pa_cons (pv 1) pa_nil)))))), ?_⟩
    --@
    obtain ⟨_, xs, e, hX, hV⟩ := hR.row
    cases e
    have lx := hV.len
    rw [List.length_map] at lx
    refine ⟨_, rfl, _, rfl, ⟨_, hX⟩, fun D hD => ?_⟩
    refine lc_it (walk_tup (xs := xs)) (fun i H' => H' D = some (.lst ((row.take i).map fun p => V.int (p.1 : Int))) ∧ Same H H') ⟨upd_same, same_upd hD⟩ (fun _ _ _ ⟨_, s'⟩ => (Tk.of s').sqT hX) (fun i x H2 H3 hi ⟨eD, s'⟩ hy => ?_) (fun H2 ⟨eD, s'⟩ => ?_)
    · obtain ⟨rfl, hx⟩ := hy
      obtain ⟨d, g1, p1⟩ := hV.get hx
      rw [List.getElem?_map] at g1
      obtain ⟨p, k1, rfl⟩ := Option.map_eq_some_iff.mp g1
      obtain ⟨t, b, rfl, h1, h2⟩ := p1.itm
      refine ⟨_, _, rfl, (Tk.of s').sqT h1, rfl, _, _, rfl, _, _, rfl, rfl, rfl, yes_ ⟨_, rfl, _, eD, ?_, ?_, same_put s' hD⟩⟩
      · rw [List.length_map, List.length_take]
        exact small1000 (by omega)
      · rw [upd_same, take_snoc k1, List.map_append]
        rfl
    · rw [List.take_of_length_le (by omega)] at eD
      have e1 : (row.map fun p => V.int (p.1 : Int)) = (row.map fun p => (p.1 : Int)).map V.int := by rw [List.map_map]; rfl
      rw [e1] at eD
      have e2 : ∀ z, (((row.map fun p => (p.1 : Int)).map PyData.int).any fun y => PyData.eqv y (.int z)) = hasN row z := fun z => by
        rw [List.any_map, List.any_map]
        rfl
      have hd2 : Dp K H2 (.ref D) (.list ((row.map fun p => (p.1 : Int)).map PyData.int)) := .lst (SqL.of eD) (dpInts _)
      have rz : RefE K mg H E "BadNumber" "value" v → ∀ H4, Same H H4 → rMk K mg "BadNumber" "value" [some (.ref r), some v, some (.ref D), none, none] v H4 fun cls d H' => E cls d H' := fun rf H4 s4 => mk_at fun C H5 dx hC hT s5 ed => rf C H5 dx hC hT (s4.trans s5) ed
      have s2 := s'
      rcases q with ⟨nw, rf⟩ | ⟨z, rfl, hz, rf⟩ | ⟨i, p, hp, rfl, hb, q⟩
      · exact ⟨_, rfl, v, rfl, .inl ⟨nw.same s2, _, rfl, iteT ⟨_, rfl, rz rf H2 s2⟩⟩⟩
      · refine ⟨_, rfl, _, rfl, .inr ⟨z, rfl, _, rfl, iteF ⟨_, rfl, _, rfl, .int z, _, .int _, hd2, rfl, shInts _, _, rfl, ?_⟩⟩⟩
        rw [e2, hz]
        exact iteT ⟨_, rfl, rz rf H2 s2⟩
      · refine ⟨_, rfl, _, rfl, .inr ⟨_, rfl, _, rfl, iteF ⟨_, rfl, _, rfl, .int (p.1 : Int), _, .int _, hd2, rfl, shInts _, _, rfl, ?_⟩⟩⟩
        have hh : hasN row (p.1 : Int) = true := List.any_eq_true.mpr ⟨p, List.mem_of_getElem? hp, by simp⟩
        rw [e2, hh]
        refine iteF ⟨_, rfl, .inl ⟨rfl, _, SqL.of eD⟩, _, rfl, D, .int (p.1 : Int), .int (p.1 : Int), _, i, .int (p.1 : Int), rfl, rfl, hd2, .int _, shInts _, rfl, ?_, ?_, fun m z hm hz => ?_, q H2 s2⟩
        · rw [List.getElem?_map, List.getElem?_map, hp]
          rfl
        · show ((p.1 : Int) == (p.1 : Int)) = true
          simp
        · rw [List.getElem?_map, List.getElem?_map] at hz
          cases hm2 : row[m]? with
          | none =>
            rw [hm2] at hz
            cases hz
          | some y =>
            rw [hm2] at hz
            cases hz
            have := hb m y hm hm2
            show ((y.1 : Int) == (p.1 : Int)) = false
            rw [beq_eq_false_iff_ne]
            omega
def spAheadOf (K : PySem.W.Frag) (mg : Str → Option Value) : Sp := fun vs H Q E => ∃ (a : Addr) (v : V) (F : Fld) (h : Sh), vs = [.ref a, v] ∧ SheetAt K mg H a F h ∧ F.Ok ∧ SOk F h.now ∧ PlaceOf K mg H E h.now.row v fun i _ => ∀ H' r, Same H H' → SqT K H' r (nums (holdAt F h.now.row i)) → Q (.ref r) H'
theorem c_Sheet_ahead_of (T : Tx K mg) : MCl P w K mg base (L2.CX P w) 4 "Sheet" "ahead_of" (spAheadOf K mg) := by
  refine mclX T.m_Sheet_ahead_of (ps := ["self", "number"]) (fun _ _ _ _ _ _ us hl => match us, hl with | [_, _], _ => rfl) sc_Sheet_ahead_of (fun vs H Q E h => ?_) (fun f cdv A outer st H vs Q E hr h => ?_)
  · obtain ⟨a, v, F, h, rfl, _⟩ := h
    rfl
  · obtain ⟨a, v, F, h, rfl, hA, ok, so, q⟩ := h
    have nd := sc_Sheet_ahead_of.nd
    obtain ⟨f1, s1, hi, hF, hS⟩ := id hA
    obtain ⟨C, dx, hC, hi2⟩ := id hi
    have tk : Takes (cxOf (L2.CX P w) P w K mg base ["self", "number", "row"] "Sheet.ahead_of" (defScope s_Sheet_ahead_of) f cdv A outer st H E) fun cls d _ H => E cls d H := takes_of rfl rfl rfl rfl
    refine ⟨_, (pss_cons (ps_set (i := 2) nd rfl (.inl rfl) (pe_ptO T.o_Sheet (c_Sheet_row T) (pv 0) hr (by decide) (E := E0) passL rfl))
    (pss_one (ps_ret (pe_k (c_holders T) hr (by decide) (by rfl) (pa_cons (pe_k (c_touch_table T) hr (by decide) (by rfl) (pa_cons (pe_fld (pv 0) rfl) pa_nil)) (pa_cons (pv 2) (pa_cons (pe_kX (c_need_place T) hr (by decide) tk (by rfl) (pa_cons (pv 2) (pa_cons (pv 1) pa_nil))) pa_nil))))))), ?_⟩
    --@
    refine ⟨_, rfl, a, _, rfl, hi, a, F, h, rfl, hA, fun r hR => ?_⟩
    refine ⟨_, rfl, a, C, dx, _, .ref f1, rfl, hi2, oc_cls T.o_Sheet hC, T.n_Sheet__field C hC, rfl, f1, F, rfl, hF, ok, fun H1 t s1 n1 hT => ?_⟩
    refine ⟨_, rfl, _, rfl, _, rfl, r, v, h.now.row, rfl, Dp.sm s1 _ hR, so.len, ?_⟩
    rcases q with ⟨nw, rf⟩ | ⟨z, e, hz, rf⟩ | ⟨i, p, hp, e, hb, q⟩
    · exact .inl ⟨nw.same s1, rf.from s1⟩
    · exact .inr (.inl ⟨z, e, hz, rf.from s1⟩)
    · refine .inr (.inr ⟨i, p, hp, e, hb, fun H2 s2 => ⟨F, t, r, h.now.row, i, rfl, hT.same s2, ok, Dp.sm (s1.trans s2) _ hR, fun p hp => (so.good p hp).1, so.len, (List.getElem?_eq_some_iff.mp hp).1, fun H3 u s3 hU => q H3 u ((s1.trans s2).trans s3) hU⟩⟩)
theorem dp_nums {K : PySem.W.Frag} {H : Hp} : ∀ l : List Nat, DpAll K H (nums l) (l.map fun n : Nat => PyData.int (n : Int))
  | [] => .nil
  | n :: l => .cons (.int _) (dp_nums l)
theorem sh_nums (l : List Nat) : SeqAt.shaped (.tuple (l.map fun n : Nat => PyData.int (n : Int))) = true := by
  have e : (l.map fun n : Nat => PyData.int (n : Int)) = (l.map fun n : Nat => (n : Int)).map PyData.int := by rw [List.map_map]; rfl
  rw [e]
  exact shInts _
/-- the numbers of the steps that are not held, of the first so many -/
def freeN (F : Fld) (row : List Itm) (k : Nat) : List Nat := ((row.take k).zipIdx.filter fun x => (holdAt F row x.2).isEmpty).map fun x => x.1.1
theorem free_snoc {F : Fld} {row : List Itm} {k : Nat} {p : Itm} (h : row[k]? = some p) : freeN F row (k + 1) = freeN F row k ++ if (holdAt F row k).isEmpty then [p.1] else [] := by
  have hl : (row.take k).length = k := by
    rw [List.length_take]
    have := (List.getElem?_eq_some_iff.mp h).1
    omega
  unfold freeN
  rw [take_snoc h, List.zipIdx_append, List.filter_append, List.map_append, hl]
  congr 1
  show ((([p].zipIdx (0 + k)).filter fun x => (holdAt F row x.2).isEmpty).map fun x => x.1.1) = _
  rw [Nat.zero_add]
  show (([(p, k)].filter fun x => (holdAt F row x.2).isEmpty).map fun x => x.1.1) = _
  rw [List.filter_cons, List.filter_nil]
  split <;> rfl
theorem free_len {F : Fld} {row : List Itm} {k : Nat} : (freeN F row k).length ≤ k := by
  unfold freeN
  rw [List.length_map]
  refine Nat.le_trans (List.length_filter_le _ _) ?_
  rw [List.length_zipIdx, List.length_take]
  omega
def spFree (K : PySem.W.Frag) (mg : Str → Option Value) : Sp := fun vs H Q _ => ∃ (a : Addr) (F : Fld) (h : Sh), vs = [.ref a] ∧ SheetAt K mg H a F h ∧ F.Ok ∧ SOk F h.now ∧ ∀ H' r, Same H H' → SqT K H' r (nums (freeN F h.now.row h.now.row.length)) → Q (.ref r) H'
theorem c_Sheet_free (T : Tx K mg) : MCl P w K mg base (L2.CX P w) 4 "Sheet" "free" (spFree K mg) := by
  refine mclX T.m_Sheet_free (ps := ["self"]) (fun _ _ _ _ _ _ us hl => match us, hl with | [_], _ => rfl) sc_Sheet_free (fun vs H Q E h => ?_) (fun f cdv A outer st H vs Q E hr h => ?_)
  · obtain ⟨a, F, h, rfl, _⟩ := h
    rfl
  · obtain ⟨a, F, h, rfl, hA, ok, so, q⟩ := h
    have nd := sc_Sheet_free.nd
    obtain ⟨f1, s1, hi, hF, hS⟩ := id hA
    obtain ⟨C, dx, hC, hi2⟩ := id hi
    refine ⟨_, (pss_cons (ps_set (i := 1) nd rfl (.inr rfl) (pe_ptO T.o_Sheet (c_Sheet_row T) (pv 0) hr (by decide) (E := E0) passL rfl))
    (pss_cons (ps_set (i := 2) nd rfl (.inr rfl) (pe_k (c_touch_table T) hr (by decide) (by rfl) (pa_cons (pe_fld (pv 0) rfl) pa_nil)))
    (pss_one (ps_ret (pe_tupleOf (by rfl) T.b_tuple (pe_lc (own := [("at", 3), ("number", 4), ("_", 5)]) (g := (gTup K 2 (gCons (gName 3) (gCons (gTup K 2 (gCons (gName 4) (gCons (gName 5) gNil))) gNil)))) (tt := _) (by rfl) nd (pi_enumT (by rfl) T.b_enumerate (pa_cons (pv 1) pa_nil)) (blkOk_by (own := [("at", 3), ("number", 4), ("_", 5)]) (N := ["self", "row", "touch", "at", "number", "_"]) (sc := defScope s_Sheet_free) (by decide +kernel)) (fun _ _ _ _ _ => (pg_tup rfl (pgs_cons (pg_name (i := 3) nd rfl (by first | exact Or.inl rfl | exact Or.inr rfl)) (pgs_cons (pg_tup rfl (pgs_cons (pg_name (i := 4) nd rfl (by first | exact Or.inl rfl | exact Or.inr rfl)) (pgs_cons (pg_name (i := 5) nd rfl (by first | exact Or.inl rfl | exact Or.inr rfl)) pgs_nil))) pgs_nil)))) (fun _ _ _ _ _ => pts_one (pt_cmpR (op_eqDk (K := K) rfl hr.units) (pe_k (c_holders T) hr (by decide) (by rfl) (pa_cons (pv 2) (pa_cons (pv 1) (pa_cons (pv 3) pa_nil)))) (pe_tup pa_nil) (nomark _))) (fun _ _ _ _ _ => (pv 4)))))))), ?_⟩
    --@
    refine ⟨_, rfl, a, _, rfl, hi, a, F, h, rfl, hA, fun r hR => ⟨_, rfl, a, C, dx, _, .ref f1, rfl, hi2, oc_cls T.o_Sheet hC, T.n_Sheet__field C hC, rfl, f1, F, rfl, hF, ok, fun H1 t s1 n1 hT => ?_⟩⟩
    have hR1 := Dp.sm s1 _ hR
    obtain ⟨_, xs, e, hX, hV⟩ := hR1.row
    cases e
    have lx := hV.len
    rw [List.length_map] at lx
    have ls := so.len
    generalize hrow : h.now.row = row at hR1 hV lx ls q
    have sog := so.good
    rw [hrow] at sog
    refine ⟨_, rfl, r, xs, rfl, hX, fun D hD => ?_⟩
    refine lc_it (walk_IeT (xs := xs)) (fun i H' => H' D = some (.lst (nums (freeN F row i))) ∧ Same H1 H') ⟨upd_same, same_upd hD⟩ (fun _ _ _ ⟨_, s'⟩ => (Tk.of s').sqT hX) (fun i x H2 H3 hi ⟨eD, s'⟩ hy => ?_) (fun H2 ⟨eD, s'⟩ => ?_)
    · obtain ⟨Tt, x1, x2, rfl, nT, rfl, g1, g2⟩ := hy
      cases g1
      obtain ⟨d, k0, p1⟩ := hV.get g2
      rw [List.getElem?_map] at k0
      obtain ⟨p, k1, rfl⟩ := Option.map_eq_some_iff.mp k0
      have s3 := same_new (o := .tup [.int (i : Int), x2]) s' nT
      obtain ⟨ta, tb, rfl, h1, h2⟩ := (Dp.sm s3 _ p1).itm
      have nDT : D ≠ Tt := ne_of_none eD nT
      have eD3 : upd H2 Tt (.tup [.int (i : Int), .ref ta]) D = some (.lst (nums (freeN F row i))) := by
        rw [upd_ne nDT]
        exact eD
      have hil := (List.getElem?_eq_some_iff.mp k1).1
      refine ⟨Tt, _, rfl, SqT.of upd_same, rfl, _, _, rfl, _, _, rfl, _, _, rfl, h1, rfl, _, _, rfl, _, _, rfl, rfl, rfl, rfl, ?_⟩
      refine ⟨_, rfl, _, rfl, _, rfl, F, t, r, row, i, rfl, hT.same s3, ok, Dp.sm s3 _ hR1, fun p hp => (sog p hp).1, ls, hil, fun H4 u s4 hU => ⟨Nat.zero_le _, fun z nz => upd_gen nz fun H5 s5 e5 => ?_⟩⟩
      have hl := holdN_le (F := F) (row.drop (i + 1)) [p.2.1]
      have lh : (holdAt F row i).length ≤ 60 := by
        unfold holdAt
        rw [k1]
        rw [List.length_drop] at hl
        show (holdN F [p.2.1] (row.drop (i + 1))).length ≤ 60
        omega
      have s35 := s4.trans s5
      have s15 := s3.trans s35
      have dU : Dp K H5 (.ref u) (.tuple ((holdAt F row i).map fun n : Nat => PyData.int (n : Int))) := .tup ((Tk.of s5).sqT hU) (dp_nums _)
      refine ⟨_, _, dU, .tup (SqT.of e5) .nil, sh_nums _, rfl, ?_⟩
      have eE : PyData.eqv (.tuple ((holdAt F row i).map fun n : Nat => PyData.int (n : Int))) (.tuple []) = (holdAt F row i).isEmpty := by
        cases holdAt F row i <;> rfl
      rw [eE, free_snoc k1]
      have eD5 := s35 _ _ eD3
      have lf := free_len (F := F) (row := row) (k := i)
      cases hc : (holdAt F row i).isEmpty
      · refine ⟨_, rfl, iteF ⟨?_, s15⟩⟩
        rw [if_neg Bool.false_ne_true, List.append_nil]
        exact eD5
      · refine ⟨_, rfl, iteT ⟨_, rfl, _, eD5, small1000 (by unfold nums; rw [List.length_map]; omega), ?_, same_put s15 hD⟩⟩
        rw [if_pos rfl, upd_same]
        unfold nums
        rw [List.map_append]
        rfl
    · rw [lx] at eD
      exact .inl ⟨D, _, rfl, SqL.of eD, fun v nv => upd_gen nv fun H3 s3 e3 => q H3 v ((s1.trans s').trans s3) (SqT.of e3)⟩
end
end XB
set_option Elab.async false
set_option linter.all false
set_option maxRecDepth 100000
set_option maxHeartbeats 4000000
namespace XB
open PySem PySem.Spec PyProof.Rows L2
/-! what changes a sheet -/
section
variable {P : Program} {w : World} {K : PySem.W.Frag} {mg : Str → Option Value} {base : Heap}
def spLeastSh (K : PySem.W.Frag) (mg : Str → Option Value) : Sp := fun vs H Q _ => ∃ (a : Addr) (F : Fld) (h : Sh), vs = [.ref a] ∧ SheetAt K mg H a F h ∧ F.Ok ∧ SOk F h.now ∧ ∀ H' r, Same H H' → Dp K H' (.ref r) (dSteps (XM.act (OF F) (h.now.row.map Prod.snd) []).reverse) → Q (.ref r) H'
theorem c_Sheet_least (T : Tx K mg) : MCl P w K mg base (L2.CX P w) 5 "Sheet" "least" (spLeastSh K mg) := by
  refine mclX T.m_Sheet_least (ps := ["self"]) (fun _ _ _ _ _ _ us hl => match us, hl with | [_], _ => rfl) sc_Sheet_least (fun vs H Q E h => ?_) (fun f cdv A outer st H vs Q E hr h => ?_)
  · obtain ⟨a, F, h, rfl, _⟩ := h
    rfl
  · obtain ⟨a, F, h, rfl, hA, ok, so, q⟩ := h
    have nd := sc_Sheet_least.nd
    obtain ⟨f1, s1, hi, hF, hS⟩ := id hA
    obtain ⟨C, dx, hC, hi2⟩ := id hi
    refine ⟨_, (pss_one (ps_ret (pe_k (c_piled T F) hr (by decide) (by rfl) (pa_cons (pe_k (c_touch_table T) hr (by decide) (by rfl) (pa_cons (pe_fld (pv 0) rfl) pa_nil)) (pa_cons (pe_ptO T.o_Sheet (c_Sheet_steps T) (pv 0) hr (by decide) (E := E0) passL rfl) pa_nil))))), ?_⟩
    --@
    refine ⟨_, rfl, a, C, dx, _, .ref f1, rfl, hi2, oc_cls T.o_Sheet hC, T.n_Sheet__field C hC, rfl, f1, F, rfl, hF, ok, fun H1 t s1' n1 hT => ?_⟩
    have hA1 : SheetAt K mg H1 a F h := ⟨f1, s1, ⟨C, dx, hC, s1' _ _ hi2⟩, Dp.sm s1' _ hF, Dp.sm s1' _ hS⟩
    have ls := so.len
    refine ⟨_, rfl, a, _, rfl, ⟨C, dx, hC, s1' _ _ hi2⟩, a, F, h, rfl, hA1, by omega, fun H2 r s2 hd => ?_⟩
    obtain ⟨_, xs, e, hX, hV⟩ := hd.steps
    cases e
    exact ⟨t, r, xs, _, rfl, hT.same s2, ok, hX, hV, by rw [List.length_map]; omega, fun x hx => by obtain ⟨p, hp, rfl⟩ := List.mem_map.mp hx; exact (so.good p hp).1, fun H3 u s3 h3 => q H3 u ((s1'.trans s2).trans s3) h3⟩
theorem same_mut {a : Addr} {H H1 : Hp} {C dx : Addr} {fs gs : List (Str × V)} (s : Same H H1) (h1 : H1 a = some (.ins C dx fs)) : Sb [a] H (upd H1 a (.ins C dx gs)) ∧ Tk H (upd H1 a (.ins C dx gs)) :=
  ⟨(Sb.of s).put List.mem_cons_self, (Tk.of s).mut h1 (fun _ q => nomatch q) (fun _ _ q => nomatch q)⟩
def spGoOn (K : PySem.W.Frag) (mg : Str → Option Value) : Sp := fun vs H Q _ => ∃ (a r : Addr) (F : Fld) (h : Sh) (row : List Itm) (n : Nat), vs = [.ref a, .ref r, .int (n : Int)] ∧ SheetAt K mg H a F h ∧ Dp K H (.ref r) (dRow row) ∧ h.past.length ≤ 900 ∧ ∀ H', Sb [a] H H' → Tk H H' → SheetAt K mg H' a F ⟨⟨row, n⟩, h.past ++ [h.now], []⟩ → Q .non H'
theorem c_Sheet__go_on (T : Tx K mg) : MCl P w K mg base (L2.CX P w) 1 "Sheet" "_go_on" (spGoOn K mg) := by
  refine mclX T.m_Sheet__go_on (ps := ["self", "row", "count"]) (fun _ _ _ _ _ _ us hl => match us, hl with | [_, _, _], _ => rfl) sc_Sheet__go_on (fun vs H Q E h => ?_) (fun f cdv A outer st H vs Q E hr h => ?_)
  · obtain ⟨a, r, F, h, row, n, rfl, _⟩ := h
    rfl
  · obtain ⟨a, r, F, h, row, n, rfl, hA, hR, hl, q⟩ := h
    have nd := sc_Sheet__go_on.nd
    obtain ⟨f1, s1, ⟨C, dx, hC, hi⟩, hF, hS⟩ := id hA
    refine ⟨_, (pss_cons (ps_asg (pe_fld (pv 0) rfl) (pg_tup rfl (pgs_cons (pg_name (i := 3) nd rfl (.inl rfl)) (pgs_cons (pg_name (i := 4) nd rfl (.inl rfl)) (pgs_cons (pg_name (i := 5) nd rfl (.inl rfl)) pgs_nil)))))
    (pss_one (ps_fld (pv 0) (pe_tup (pa_cons (pe_tup (pa_cons (pv 1) (pa_cons (pv 2) pa_nil))) (pa_cons (pe_op (op_catAk (K := K) rfl) (pv 4) (pe_tup (pa_cons (pv 3) pa_nil))) (pa_cons (pe_tup pa_nil) pa_nil)))) rfl))), ?_⟩
    --@
    obtain ⟨_, nw, p, fu, ps, fs, e, h1, h2, h3, h4, h5, h6⟩ := hS.sh
    cases e
    have lp := h4.len
    rw [List.length_map] at lp
    refine ⟨_, rfl, a, C, dx, _, .ref s1, rfl, hi, oc_cls T.o_Sheet hC, T.n_Sheet__state C hC, rfl, ?_⟩
    refine ⟨_, _, rfl, h1, rfl, _, _, rfl, _, _, rfl, _, _, rfl, rfl, ?_⟩
    refine ⟨_, rfl, _, rfl, two_sz, fun u1 m1 => upd_gen m1 fun H1 t1 e1 => ⟨_, rfl, _, rfl, one_sz, fun u2 m2 => upd_gen m2 fun H2 t2 e2 => catA ((Tk.of (t1.trans t2)).sqT h3) (SqT.of e2) (Nat.le_of_lt (small1000 (by rw [List.length_singleton]; omega))) fun H3 u3 t3 h7 => ⟨Nat.zero_le _, fun u4 m4 => upd_gen m4 fun H4 t4 e4 => ⟨three_sz, fun u5 m5 => upd_gen m5 fun H5 t5 e5 => ?_⟩⟩⟩⟩
    have t35 := t3.trans (t4.trans t5)
    have t25 := t2.trans t35
    have t15 := t1.trans t25
    have hi5 := t15 _ _ hi
    refine ⟨_, rfl, a, C, dx, _, rfl, hi5, oc_cls T.o_Sheet hC, T.n_Sheet__state C hC, (show 2 < 1000 by decide), ?_⟩
    obtain ⟨sb, tk⟩ := same_mut (gs := putF "_state" (.ref u5) [("_field", .ref f1), ("_state", .ref s1)]) t15 hi5
    refine q _ sb tk ⟨f1, u5, ⟨C, dx, hC, upd_same⟩, Dp.tk tk _ (flat_field F) hF, ?_⟩
    have tm : Tk H5 (upd H5 a (.ins C dx (putF "_state" (.ref u5) [("_field", .ref f1), ("_state", .ref s1)]))) := Tk.refl.mut hi5 (fun _ q => nomatch q) (fun _ _ q => nomatch q)
    refine .tup (tm.sqT (SqT.of e5)) (.cons ?_ (.cons ?_ (.cons ?_ .nil)))
    · exact .tup (tm.sqT ((Tk.of t25).sqT (SqT.of e1))) (.cons (Dp.tk tk _ (flat_row row) hR) (.cons (.int _) .nil))
    · refine .tup (tm.sqT ((Tk.of (t4.trans t5)).sqT h7)) ?_
      rw [List.map_append]
      exact (DpAll.tk tk _ (flat_sss _) h4).app (.cons (Dp.tk tk _ (flat_ss _) h2) .nil)
    · exact .tup (tm.sqT ((Tk.of t5).sqT (SqT.of e4))) .nil
end
end XB
set_option Elab.async false
set_option linter.all false
set_option maxRecDepth 100000
set_option maxHeartbeats 4000000
namespace XB
open PySem PySem.Spec PyProof.Rows L2
/-! steps done, left out, taken back -/
/-- a row without some numbers -/
def without (row : List Itm) (ns : List Nat) : List Itm := row.filter fun p => !ns.contains p.1
theorem any_nums (ns : List Nat) (n : Nat) : ((ns.map fun k : Nat => PyData.int (k : Int)).any fun y => PyData.eqv y (.int (n : Int))) = ns.contains n := by
  induction ns with
  | nil => rfl
  | cons k ns ih =>
    rw [List.map_cons, List.any_cons, ih, List.contains_cons]
    congr 1
    show ((k : Int) == (n : Int)) = (n == k)
    by_cases h : n = k
    · simp [h]
    · rw [beq_eq_false_iff_ne.mpr h, beq_eq_false_iff_ne]
      omega
section
variable {P : Program} {w : World} {K : PySem.W.Frag} {mg : Str → Option Value} {base : Heap}
def spLeaveOut (K : PySem.W.Frag) (mg : Str → Option Value) : Sp := fun vs H Q _ => ∃ (a r : Addr) (F : Fld) (h : Sh) (ns : List Nat), vs = [.ref a, .ref r] ∧ SheetAt K mg H a F h ∧ SqT K H r (nums ns) ∧ h.past.length ≤ 900 ∧ h.now.row.length ≤ 60 ∧ ∀ H', Sb [a] H H' → Tk H H' → SheetAt K mg H' a F ⟨⟨without h.now.row ns, h.now.cnt⟩, h.past ++ [h.now], []⟩ → Q .non H'
theorem c_Sheet__leave_out (T : Tx K mg) : MCl P w K mg base (L2.CX P w) 3 "Sheet" "_leave_out" (spLeaveOut K mg) := by
  refine mclX T.m_Sheet__leave_out (ps := ["self", "numbers"]) (fun _ _ _ _ _ _ us hl => match us, hl with | [_, _], _ => rfl) sc_Sheet__leave_out (fun vs H Q E h => ?_) (fun f cdv A outer st H vs Q E hr h => ?_)
  · obtain ⟨a, r, F, h, ns, rfl, _⟩ := h
    rfl
  · obtain ⟨a, r, F, h, ns, rfl, hA, hR, hl, hw, q⟩ := h
    have nd := sc_Sheet__leave_out.nd
    obtain ⟨f1, s1, ⟨C, dx, hC, hi⟩, hF, hS⟩ := id hA
    refine ⟨_, (pss_cons (ps_asg (pe_fld (pv 0) rfl) (pg_tup rfl (pgs_cons (pg_tup rfl (pgs_cons (pg_name (i := 2) nd rfl (.inl rfl)) (pgs_cons (pg_name (i := 3) nd rfl (.inl rfl)) pgs_nil))) (pgs_cons (pg_name (i := 4) nd rfl (.inl rfl)) (pgs_cons (pg_name (i := 4) nd rfl (.inl rfl)) pgs_nil)))))
    (pss_one (ps_expr (pe_mtO T.o_Sheet (c_Sheet__go_on T) (pv 0) hr (by decide) (E := E0) passL (pa_cons (pe_tupleOf (by rfl) T.b_tuple (pe_lc (own := [("item", 5)]) (g := (gName 5)) (tt := _) (by rfl) nd (pi_tup (pv 2)) (blkOk_by (own := [("item", 5)]) (N := ["self", "numbers", "row", "count", "_", "item"]) (sc := defScope s_Sheet__leave_out) (by decide +kernel)) (fun _ _ _ _ _ => (pg_name (i := 5) nd rfl (by first | exact Or.inl rfl | exact Or.inr rfl))) (fun _ _ _ _ _ => pts_one (pt_cmpR (op_notInDTk (K := K) rfl (u65 hr)) (pe_ix (ixk_tup (K := K) rfl) (pv 5) pe_int (fun _ _ => rfl)) (pv 1) (by rfl))) (fun _ _ _ _ _ => (pv 5)))) (pa_cons (pv 3) pa_nil)))))), ?_⟩
    --@
    obtain ⟨_, nw, p, fu, ps, fs, e, h1, h2, h3, h4, h5, h6⟩ := hS.sh
    cases e
    obtain ⟨_, ra, e, h7, h8⟩ := h2.ss
    cases e
    obtain ⟨_, xs, e, hX, hV⟩ := h8.row
    cases e
    have lx := hV.len
    rw [List.length_map] at lx
    refine ⟨_, rfl, a, C, dx, _, .ref s1, rfl, hi, oc_cls T.o_Sheet hC, T.n_Sheet__state C hC, rfl, ?_⟩
    refine ⟨_, _, rfl, h1, rfl, _, _, rfl, _, _, rfl, h7, rfl, _, _, rfl, _, _, rfl, rfl, _, _, rfl, _, _, rfl, rfl, ?_⟩
    refine ⟨_, rfl, a, _, rfl, ⟨C, dx, hC, hi⟩, rfl, _, rfl, _, rfl, ⟨_, hX⟩, fun D hD => ?_⟩
    refine lc_it (walk_tup (xs := xs)) (fun i H' => ∃ ys, H' D = some (.lst ys) ∧ DpAll K H' ys ((without (h.now.row.take i) ns).map dItm) ∧ Same H H') ⟨[], upd_same, .nil, same_upd hD⟩ (fun _ _ _ ⟨_, _, _, s'⟩ => (Tk.of s').sqT hX) (fun i x H2 H3 hi ⟨ys, eD, hY, s'⟩ hy => ?_) (fun H2 ⟨ys, eD, hY, s'⟩ => ?_)
    · obtain ⟨rfl, hx⟩ := hy
      obtain ⟨d, g1, p1⟩ := hV.get hx
      rw [List.getElem?_map] at g1
      obtain ⟨p, k1, rfl⟩ := Option.map_eq_some_iff.mp g1
      have p1 := Dp.sm s' _ p1
      obtain ⟨t, b, rfl, g1, g2⟩ := id p1.itm
      have et : without (h.now.row.take (i + 1)) ns = without (h.now.row.take i) ns ++ if !ns.contains p.1 then [p] else [] := by
        unfold without
        rw [take_snoc k1, List.filter_append]
        congr 1
        rw [List.filter_cons, List.filter_nil]
      have ly := hY.len
      have lw : (without (h.now.row.take i) ns).length ≤ 60 := by
        unfold without
        have := List.length_filter_le (fun p => !ns.contains p.1) (h.now.row.take i)
        rw [List.length_take] at this
        omega
      rw [List.length_map] at ly
      refine ⟨rfl, _, rfl, ix0 g1 ⟨_, rfl, .int (p.1 : Int), _, .int _, .tup ((Tk.of s').sqT hR) (dp_nums ns), rfl, sh_nums ns, _, rfl, ?_⟩⟩
      rw [any_nums]
      rw [et]
      cases hc : (!ns.contains p.1)
      · refine iteF ⟨ys, eD, ?_, s'⟩
        rw [if_neg Bool.false_ne_true, List.append_nil]
        exact hY
      · refine iteT ⟨_, rfl, _, eD, small1000 (by omega), _, upd_same, ?_, same_put s' hD⟩
        rw [if_pos rfl, List.map_append]
        have tt : Tk H3 (upd H3 D (.lst (ys ++ [.ref t]))) := Tk.refl.lst eD
        exact (DpAll.tk tt _ (flat_items _) hY).app (.cons (Dp.tk tt _ (flat_itm p) p1) .nil)
    · rw [List.take_of_length_le (by omega)] at hY
      refine .inl ⟨D, ys, rfl, SqL.of eD, fun u nu => upd_gen nu fun H3 s3 e3 => ⟨_, rfl, a, u, F, h, without h.now.row ns, h.now.cnt, rfl, ?_, .tup (SqT.of e3) (DpAll.sm s3 _ hY), hl, fun H4 sb tk hA4 => q H4 ((Sb.of (s'.trans s3)).trans sb) ((Tk.of (s'.trans s3)).trans tk) hA4⟩⟩
      have s03 := s'.trans s3
      exact ⟨f1, s1, ⟨C, dx, hC, s03 _ _ hi⟩, Dp.sm s03 _ hF, Dp.sm s03 _ hS⟩
end
end XB
set_option Elab.async false
set_option linter.all false
set_option maxRecDepth 100000
set_option maxHeartbeats 4000000
namespace XB
open PySem PySem.Spec PyProof.Rows L2
def SL : List Int := [1, -1, 1, -1, 2, -2, 3, -3, 1, -1, 6, 10 ^ 30, -(10 ^ 30), 10 ^ 30 - 1]
theorem sl_good {i : Nat} {z : Int} (h : SL[i]? = some z) : GoodTimes z := by
  have : ∀ z ∈ SL, z ≠ 0 ∧ -(10 ^ 30) ≤ z ∧ z ≤ 10 ^ 30 := by decide +kernel
  exact this z (List.mem_of_getElem? h)
section
variable {P : Program} {w : World} {K : PySem.W.Frag} {mg : Str → Option Value} {base : Heap}
def spLawScript (K : PySem.W.Frag) : Sp := fun vs H Q _ => ∃ (m c g f : Addr) (s most : Int) (F : Fld), vs = [.ref m, .ref f, .int most] ∧ Dr H m c g s ∧ Dp K H (.ref f) (dField F) ∧ F.Ok ∧ 0 ≤ most ∧ most ≤ 60 ∧ s < 1000000000 ∧
  ∀ H' r l s', Dr H' m c g s' → s' ≤ s + 2 + 2 * most → Kp m g H H' → Dp K H' (.ref r) (dSteps l) → GoodScript F l → (l.length : Int) ≤ most → Q (.ref r) H'
def ScriptInv (K : PySem.W.Frag) (F : Fld) (H : Hp) (m c g f D S : Addr) (most many s : Int) (b : Nat) : L2.St → Hp → Prop := fun σ H2 => ∃ (y6 : Option V) (s2 : Int) (l : List (Str × Int)), σ = [some (.ref m), some (.ref f), some (.int most), some (.ref D), some (.ref S), some (.int many), y6] ∧
  Kp m g H H2 ∧ Dr H2 m c g s2 ∧ s2 ≤ s + 2 + 2 * (b : Int) ∧ Dp K H2 (.ref f) (dField F) ∧ H2 S = some (.lst (SL.map V.int)) ∧ Row1 K H2 D l ∧ (∀ x ∈ l, x.1 ∈ F.names ∧ GoodTimes x.2) ∧ l.length = b
end
end XB
set_option Elab.async false
set_option linter.all false
set_option maxRecDepth 100000
set_option maxHeartbeats 4000000
namespace XB
open PySem PySem.Spec PyProof.Rows L2
/-- what can be shown: how great it is -/
structure Sz (d : PyData) (n : Nat) : Prop where
  sh : d.showable = true
  nd : d.hasDict = false
  dp : d.depth ≤ 20
  lv : d.leavesShort 60 = true
  bk : d.bulk ≤ n
structure SzA (ds : List PyData) (n : Nat) : Prop where
  sh : PyData.showableAll ds = true
  nd : PyData.hasDictAll ds = false
  dp : PyData.depthAll ds ≤ 19
  lv : PyData.leavesShortAll 60 ds = true
  bk : PyData.bulkAll ds ≤ n
theorem Sz.fits {d : PyData} {n : Nat} (h : Sz d n) (hn : n ≤ 250000) : d.shown.length ≤ sizeLine := by
  have q := PyData.shown_le_bulk 60 (by decide) d h.lv
  have := h.bk
  rw [sizeLine_eq]
  omega
theorem SzA.nil : SzA [] 0 := ⟨rfl, rfl, by decide, rfl, Nat.le_refl _⟩
theorem SzA.cons {d : PyData} {ds : List PyData} {n k : Nat} (h : Sz d n) (hd : d.depth ≤ 19) (t : SzA ds k) : SzA (d :: ds) (n + 1 + k) := by
  refine ⟨?_, ?_, ?_, ?_, ?_⟩
  · rw [PyData.showableAll, h.sh, t.sh]
    rfl
  · rw [PyData.hasDictAll, h.nd, t.nd]
    rfl
  · rw [PyData.depthAll]
    have := t.dp
    omega
  · rw [PyData.leavesShortAll, h.lv, t.lv]
    rfl
  · rw [PyData.bulkAll]
    have := h.bk
    have := t.bk
    omega
theorem SzA.tup {ds : List PyData} {n : Nat} (h : SzA ds n) : Sz (.tuple ds) n := ⟨by rw [PyData.showable]; exact h.sh, by rw [PyData.hasDict]; exact h.nd, by rw [PyData.depth]; have := h.dp; omega, by rw [PyData.leavesShort]; exact h.lv, by rw [PyData.bulk]; exact h.bk⟩
theorem SzA.lst {ds : List PyData} {n : Nat} (h : SzA ds n) : Sz (.list ds) n := ⟨by rw [PyData.showable]; exact h.sh, by rw [PyData.hasDict]; exact h.nd, by rw [PyData.depth]; have := h.dp; omega, by rw [PyData.leavesShort]; exact h.lv, by rw [PyData.bulk]; exact h.bk⟩
theorem Sz.mono {d : PyData} {n k : Nat} (h : Sz d n) (e : n ≤ k) : Sz d k := ⟨h.sh, h.nd, h.dp, h.lv, Nat.le_trans h.bk e⟩
theorem sz_bool (b : Bool) : Sz (.bool b) 0 := ⟨rfl, rfl, by simp [PyData.depth], rfl, Nat.le_refl _⟩
theorem sz_int {z : Int} (h : z.natAbs < 10 ^ 50) : Sz (.int z) 0 := by
  refine ⟨decide_eq_true ?_, rfl, by simp [PyData.depth], decide_eq_true ?_, Nat.le_refl _⟩
  · by_cases h0 : z.natAbs = 0
    · rw [h0]
      decide
    · have : z.natAbs.log2 < 200 := (Nat.log2_lt h0).mpr (Nat.lt_of_lt_of_le h (by decide))
      omega
  · have e := int_text_length_le10 (k := 50) (by decide) h
    show (Str.ofString (toString z)).length ≤ 60
    rw [PySem.ofString_length]
    omega
theorem sz_str {n : Str} (h : GoodName n) : Sz (.str n) 6 := by
  refine ⟨rfl, rfl, by simp [PyData.depth], ?_, h.2.1⟩
  show (n.cps.toList.all fun c => decide (c < 16 ^ 8)) = true
  rw [List.all_eq_true]
  intro c hc
  have := h.2.2 c hc
  exact decide_eq_true (by omega)
theorem sz_step {s : Str × Int} (h : GoodName s.1) (g : s.2.natAbs < 10 ^ 50) : Sz (dStep s) 8 := (SzA.cons (sz_str h) (by simp [PyData.depth]) (SzA.cons (sz_int g) (by simp [PyData.depth]) SzA.nil)).tup.mono (by omega)
theorem sz_stepsA : ∀ {l : List (Str × Int)}, (∀ s ∈ l, GoodName s.1 ∧ s.2.natAbs < 10 ^ 50) → SzA (l.map dStep) (9 * l.length)
  | [], _ => SzA.nil
  | s :: l, h => by
    have t := sz_stepsA fun x hx => h x (List.mem_cons_of_mem _ hx)
    have hs := h s List.mem_cons_self
    have e : (dStep s).depth ≤ 19 := by
      show PyData.depth (.tuple [.str s.1, .int s.2]) ≤ 19
      simp [PyData.depth, PyData.depthAll]
    have q := SzA.cons (sz_step hs.1 hs.2) e t
    exact ⟨q.sh, q.nd, q.dp, q.lv, Nat.le_trans q.bk (by rw [List.length_cons]; omega)⟩
theorem sz_strsA : ∀ {l : List Str}, (∀ s ∈ l, GoodName s) → SzA (l.map .str) (7 * l.length)
  | [], _ => SzA.nil
  | s :: l, h => by
    have t := sz_strsA fun x hx => h x (List.mem_cons_of_mem _ hx)
    have q := SzA.cons (sz_str (h s List.mem_cons_self)) (by simp [PyData.depth]) t
    exact ⟨q.sh, q.nd, q.dp, q.lv, Nat.le_trans q.bk (by rw [List.length_cons]; omega)⟩
section
variable {P : Program} {w : World} {K : PySem.W.Frag} {mg : Str → Option Value} {base : Heap}
def spLike (K : PySem.W.Frag) : Sp := fun vs H Q _ => ∃ (u v : V) (d : PyData), vs = [u, v] ∧ Dp K H u d ∧ Dp K H v d ∧ Sz d 250000 ∧ Q (.bl true) H
theorem g__law_like (T : Tx K mg) : Cg P w K mg base CX0 1 "_law_like" (spLike K) := by
  refine cg0 T.d__law_like (ps := ["answer", "due"]) (fun _ _ _ _ _ _ us hl => match us, hl with | [_, _], _ => rfl) sc__law_like (fun vs H Q E h => ?_) (fun f cdv A outer st H vs Q E hgu hr h => ?_)
  · obtain ⟨u, v, d, rfl, _⟩ := h
    rfl
  · obtain ⟨u, v, d, rfl, h1, h2, z, q⟩ := h
    have hu : (A.deeper (envOfC "_law_like" (defScope s__law_like) st.heap.objs.size f cdv)).units + 70 < cLine := by
      have := hr.un
      omega
    refine ⟨_, pss_one (ps_ret (pe_cmpR op_eq (pe_callB (call_reprD hgu hu) (by rfl) T.b_repr (by decide +kernel) (pa_cons (pv 0) pa_nil)) (pe_callB (call_reprD hgu hu) (by rfl) T.b_repr (by decide +kernel) (pa_cons (pv 1) pa_nil)) (nomark _))), ?_⟩
    have dd := z.dp
    refine ⟨_, rfl, u, d, rfl, h1, z.sh, z.nd, by omega, z.fits (by decide), _, rfl, v, d, rfl, h2, z.sh, z.nd, by omega, z.fits (by decide), rfl, ?_⟩
    show Q (.bl (decide (V.str d.shown = V.str d.shown))) H
    rw [decide_eq_true rfl]
    exact q
end
end XB
set_option Elab.async false
set_option linter.all false
set_option maxRecDepth 100000
set_option maxHeartbeats 4000000
namespace XB
open PySem PySem.Spec PyProof.Rows L2
/-- data that can be laid and shown, so deep, so great -/
structure Okd (j n : Nat) (d : PyData) : Prop where
  lay : PyData.canLay0 d = true
  sh : d.showable = true
  nd : d.hasDict = false
  dp : d.depth ≤ j
  lv : d.leavesShort 60 = true
  bk : d.bulk ≤ n
theorem Okd.mono {j n j' n' : Nat} {d : PyData} (h : Okd j n d) (hj : j ≤ j') (hn : n ≤ n') : Okd j' n' d := ⟨h.lay, h.sh, h.nd, Nat.le_trans h.dp hj, h.lv, Nat.le_trans h.bk hn⟩
theorem Okd.sz {j n : Nat} {d : PyData} (h : Okd j n d) (hj : j ≤ 20) : Sz d n := ⟨h.sh, h.nd, Nat.le_trans h.dp hj, h.lv, h.bk⟩
theorem Okd.shaped {j n : Nat} {d : PyData} (h : Okd j n d) (hj : j ≤ 64) : SeqAt.shaped d = true := by
  have := h.dp
  show (PyData.canLay0 d && decide (PyData.depth d ≤ 64)) = true
  rw [h.lay, Bool.true_and]
  exact decide_eq_true (by omega)
theorem okd_dec {j n : Nat} {d : PyData} (h : (PyData.canLay0 d && (d.showable && !d.hasDict && decide (d.depth ≤ j) && d.leavesShort 60 && decide (d.bulk ≤ n))) = true) : Okd j n d := by
  simp only [Bool.and_eq_true, decide_eq_true_eq, Bool.not_eq_true'] at h
  exact ⟨h.1, h.2.1.1.1.1, h.2.1.1.1.2, h.2.1.1.2, h.2.1.2, h.2.2⟩
theorem okd_int {z : Int} (h : z.natAbs < 10 ^ 50) : Okd 0 0 (.int z) := by
  have s := sz_int h
  refine ⟨by rw [PyData.canLay0], s.sh, s.nd, by simp [PyData.depth], s.lv, s.bk⟩
theorem okd_all {j n : Nat} : ∀ {ds : List PyData}, (∀ d ∈ ds, Okd j n d) → PyData.canLayAll0 ds = true ∧ PyData.showableAll ds = true ∧ PyData.hasDictAll ds = false ∧ PyData.depthAll ds ≤ j ∧ PyData.leavesShortAll 60 ds = true ∧ PyData.bulkAll ds ≤ (n + 1) * ds.length
  | [], _ => ⟨rfl, rfl, rfl, Nat.zero_le _, rfl, Nat.le_refl _⟩
  | d :: ds, h => by
    obtain ⟨a, b, c, e, f, k⟩ := okd_all fun x hx => h x (List.mem_cons_of_mem _ hx)
    have hd := h d List.mem_cons_self
    refine ⟨?_, ?_, ?_, ?_, ?_, ?_⟩
    · rw [PyData.canLayAll0, hd.lay, a]
      rfl
    · rw [PyData.showableAll, hd.sh, b]
      rfl
    · rw [PyData.hasDictAll, hd.nd, c]
      rfl
    · rw [PyData.depthAll]
      have := hd.dp
      omega
    · rw [PyData.leavesShortAll, hd.lv, f]
      rfl
    · rw [PyData.bulkAll, List.length_cons, Nat.mul_add]
      have := hd.bk
      omega
theorem okd_tup {j n k : Nat} {ds : List PyData} (h : ∀ d ∈ ds, Okd j n d) (hl : ds.length ≤ k) : Okd (j + 1) ((n + 1) * k) (.tuple ds) := by
  obtain ⟨a, b, c, e, f, g⟩ := okd_all h
  have := Nat.mul_le_mul_left (n + 1) hl
  exact ⟨by rw [PyData.canLay0]; exact a, by rw [PyData.showable]; exact b, by rw [PyData.hasDict]; exact c, by rw [PyData.depth]; omega, by rw [PyData.leavesShort]; exact f, by rw [PyData.bulk]; omega⟩
theorem okd_lst {j n k : Nat} {ds : List PyData} (h : ∀ d ∈ ds, Okd j n d) (hl : ds.length ≤ k) : Okd (j + 1) ((n + 1) * k) (.list ds) := by
  obtain ⟨a, b, c, e, f, g⟩ := okd_all h
  have := Nat.mul_le_mul_left (n + 1) hl
  exact ⟨by rw [PyData.canLay0]; exact a, by rw [PyData.showable]; exact b, by rw [PyData.hasDict]; exact c, by rw [PyData.depth]; omega, by rw [PyData.leavesShort]; exact f, by rw [PyData.bulk]; omega⟩
section
variable {K : PySem.W.Frag}
def DV (K : PySem.W.Frag) (H : Hp) (j n : Nat) (v : V) : Prop := ∃ d, Dp K H v d ∧ Okd j n d
def DA (K : PySem.W.Frag) (H : Hp) (j n : Nat) (xs : List V) : Prop := ∃ ds, DpAll K H xs ds ∧ ∀ d ∈ ds, Okd j n d
theorem DV.mono {H : Hp} {j n j' n' : Nat} {v : V} (h : DV K H j n v) (hj : j ≤ j') (hn : n ≤ n') : DV K H j' n' v := by
  obtain ⟨d, a, b⟩ := h
  exact ⟨d, a, b.mono hj hn⟩
theorem DA.one {H : Hp} {j n : Nat} {v : V} (h : DV K H j n v) : DA K H j n [v] := by
  obtain ⟨d, a, b⟩ := h
  exact ⟨[d], .cons a .nil, fun x hx => by rw [List.mem_singleton.mp hx]; exact b⟩
theorem DA.app {H : Hp} {j n : Nat} {xs ys : List V} (h : DA K H j n xs) (g : DA K H j n ys) : DA K H j n (xs ++ ys) := by
  obtain ⟨ds, a, b⟩ := h
  obtain ⟨es, c, d⟩ := g
  exact ⟨ds ++ es, a.app c, fun x hx => (List.mem_append.mp hx).elim (b x) (d x)⟩
theorem DA.take {H : Hp} {j n : Nat} {xs : List V} (h : DA K H j n xs) (k : Nat) : DA K H j n (xs.take k) := by
  obtain ⟨ds, a, b⟩ := h
  exact ⟨ds.take k, a.take k, fun x hx => b x (List.mem_of_mem_take hx)⟩
theorem DA.drop {H : Hp} {j n : Nat} {xs : List V} (h : DA K H j n xs) (k : Nat) : DA K H j n (xs.drop k) := by
  obtain ⟨ds, a, b⟩ := h
  exact ⟨ds.drop k, a.drop k, fun x hx => b x (List.mem_of_mem_drop hx)⟩
theorem DA.tup {H : Hp} {j n k : Nat} {xs : List V} {p : Addr} (h : DA K H j n xs) (hS : SqT K H p xs) (hl : xs.length ≤ k) : DV K H (j + 1) ((n + 1) * k) (.ref p) := by
  obtain ⟨ds, a, b⟩ := h
  exact ⟨.tuple ds, .tup hS a, okd_tup b (by rw [← a.len]; exact hl)⟩
theorem DA.lst {H : Hp} {j n k : Nat} {xs : List V} {p : Addr} (h : DA K H j n xs) (hS : H p = some (.lst xs)) (hl : xs.length ≤ k) : DV K H (j + 1) ((n + 1) * k) (.ref p) := by
  obtain ⟨ds, a, b⟩ := h
  exact ⟨.list ds, .lst (SqL.of hS) a, okd_lst b (by rw [← a.len]; exact hl)⟩
theorem DA.at {H : Hp} {j n : Nat} {xs : List V} {i : Nat} {v : V} (h : DA K H j n xs) (e : xs[i]? = some v) : DV K H j n v := by
  obtain ⟨ds, a, b⟩ := h
  obtain ⟨d, k, p⟩ := a.get e
  exact ⟨d, p, b d (List.mem_of_getElem? k)⟩
theorem dpAll_rev {H : Hp} : ∀ {xs : List V} {ds : List PyData}, DpAll K H xs ds → DpAll K H xs.reverse ds.reverse
  | _, _, .nil => .nil
  | _, _, .cons h t => by
    rw [List.reverse_cons, List.reverse_cons]
    exact (dpAll_rev t).app (.cons h .nil)
theorem DA.rev {H : Hp} {j n : Nat} {xs : List V} (h : DA K H j n xs) : DA K H j n xs.reverse := by
  obtain ⟨ds, a, b⟩ := h
  exact ⟨ds.reverse, dpAll_rev a, fun x hx => b x (List.mem_reverse.mp hx)⟩
end
end XB
set_option Elab.async false
set_option linter.all false
set_option maxRecDepth 100000
set_option maxHeartbeats 4000000
namespace XB
open PySem PySem.Spec PyProof.Rows L2
/-! fields and steps as bounded data -/
theorem okd_str {n : Str} (h : GoodName n) : Okd 0 6 (.str n) := by
  have s := sz_str h
  exact ⟨by simp [PyData.canLay0, strOk_of h], s.sh, s.nd, by simp [PyData.depth], s.lv, s.bk⟩
theorem okd_strs {l : List Str} (h : ∀ x ∈ l, GoodName x) : ∀ d ∈ l.map PyData.str, Okd 0 6 d := fun d hd => by
  obtain ⟨x, hx, rfl⟩ := List.mem_map.mp hd
  exact okd_str (h x hx)
theorem okd_two {j n k : Nat} {a b : PyData} (ha : Okd j n a) (hb : Okd j k b) : Okd (j + 1) (n + k + 2) (.tuple [a, b]) := by
  refine ⟨?_, ?_, ?_, ?_, ?_, ?_⟩
  · show (PyData.canLay0 a && (PyData.canLay0 b && true)) = true
    rw [ha.lay, hb.lay]
    rfl
  · show (PyData.showable a && (PyData.showable b && true)) = true
    rw [ha.sh, hb.sh]
    rfl
  · show (PyData.hasDict a || (PyData.hasDict b || false)) = false
    rw [ha.nd, hb.nd]
    rfl
  · rw [PyData.depth, PyData.depthAll, PyData.depthAll, PyData.depthAll]
    have := ha.dp
    have := hb.dp
    omega
  · show (PyData.leavesShort 60 a && (PyData.leavesShort 60 b && true)) = true
    rw [ha.lv, hb.lv]
    rfl
  · rw [PyData.bulk, PyData.bulkAll, PyData.bulkAll, PyData.bulkAll]
    have := ha.bk
    have := hb.bk
    omega
theorem okd_step {s : Str × Int} (h : GoodName s.1) (hz : s.2.natAbs < 10 ^ 31) : Okd 1 8 (dStep s) :=
  okd_two (okd_str h) (okd_int (Nat.lt_trans hz (by decide +kernel)))
theorem okd_steps {l : List (Str × Int)} {k : Nat} (hl : l.length ≤ k) (h : ∀ s ∈ l, GoodName s.1 ∧ s.2.natAbs < 10 ^ 31) : Okd 2 (9 * k) (dSteps l) :=
  okd_tup (j := 1) (n := 8) (k := k) (ds := l.map dStep) (fun d hd => by
    obtain ⟨s, hs, rfl⟩ := List.mem_map.mp hd
    exact okd_step (h s hs).1 (h s hs).2) (by rw [List.length_map]; exact hl)
theorem good_abs {z : Int} (h : GoodTimes z) : z ≠ 0 ∧ z.natAbs < 10 ^ 31 := by
  obtain ⟨h0, h1, h2⟩ := h
  refine ⟨h0, ?_⟩
  have : z.natAbs ≤ 10 ^ 30 := by omega
  exact Nat.lt_of_le_of_lt this (by decide +kernel)
theorem script_good {ns : List Str} {l : List (Str × Int)} (hl : l.length ≤ 60) (h : ∀ s ∈ l, s.1 ∈ ns ∧ GoodTimes s.2) : scriptD ns (dSteps l) = none := by
  have e : scriptD ns (dSteps l) = if (l.map dStep).length ≤ 60 then (fstBad (stepD ns) (l.map dStep) 0).map some else some none := rfl
  rw [e, List.length_map, if_pos hl, fst_none]
  · rfl
  · intro y hy
    obtain ⟨s, hs, rfl⟩ := List.mem_map.mp hy
    obtain ⟨h1, h0, h2, h3⟩ := h s hs
    show (ns.contains s.1 && (decide (s.2 ≠ 0) && decide ((if s.2 < 0 then -s.2 else s.2) ≤ 10 ^ 30))) = true
    rw [List.contains_iff_mem.mpr h1, decide_eq_true h0, Bool.true_and, Bool.true_and]
    refine decide_eq_true ?_
    split <;> omega
theorem names_okd {F : Fld} (ok : F.Ok) : Okd 1 42 (dNames F.names) := (okd_tup (k := 6) (okd_strs ok.sgn) (by rw [List.length_map]; exact ok.n6)).mono (Nat.le_refl 1) (by decide)
theorem fld_okd {F : Fld} (ok : F.Ok) : Okd 3 1546 (dField F) := by
  have p := okd_tup (j := 1) (n := 14) (k := 100) (ds := F.pairs.map dPair) (fun d hd => by
    obtain ⟨x, hx, rfl⟩ := List.mem_map.mp hd
    exact okd_two (okd_str (ok.sgn _ (ok.inN x hx).1)) (okd_str (ok.sgn _ (ok.inN x hx).2))) (by rw [List.length_map]; exact ok.len)
  exact (okd_two ((names_okd ok).mono (show 1 ≤ 2 by decide) (Nat.le_refl _)) p).mono (Nat.le_refl _) (by decide)
theorem fld_fok {F : Fld} (ok : F.Ok) : FOk (dField F) := by
  refine ⟨(fld_okd ok).shaped (by decide), fun x y e => ?_⟩
  unfold dField at e
  injection e with e
  injection e with e1 e
  injection e with e2 _
  subst e1
  subst e2
  refine ⟨fun ds ed z hz => ?_, fun ds ed => ?_, fun ds ed => ?_⟩
  · have ed : PyData.tuple (F.names.map PyData.str) = .tuple ds := ed
    cases ed
    obtain ⟨s, hs, rfl⟩ := List.mem_map.mp hz
    intro s' es
    cases es
    exact Nat.le_trans (ok.sgn s hs).2.1 (by decide)
  · have ed : PyData.tuple (F.names.map PyData.str) = .tuple ds := ed
    cases ed
    rw [List.length_map]
    exact Nat.le_trans ok.n6 (by decide)
  · cases ed
    rw [List.length_map]
    exact Nat.le_trans ok.len (by decide)
theorem fld_names {F : Fld} : fldNames (dField F) = F.names := by
  show (F.names.map PyData.str).map strOf = F.names
  rw [List.map_map]
  exact List.map_id' _
theorem nameD_good {s : Str} (h : GoodName s) : nameD (.str s) = true := by
  show (decide (1 ≤ s.length) && decide (s.length ≤ 6) && s.cps.toList.all okLetter) = true
  rw [decide_eq_true h.1, decide_eq_true h.2.1, Bool.true_and, Bool.true_and, List.all_eq_true]
  intro c hc
  have := h.2.2 c hc
  unfold okLetter
  rw [decide_eq_true this.1, decide_eq_true this.2]
  rfl
theorem zip_all {α : Type} {r : α → α → Bool} : ∀ {l : List α}, l.Pairwise (fun a b => r a b = true) → ((l.zip (l.drop 1)).map fun p => r p.1 p.2).all id = true
  | [], _ => rfl
  | [_], _ => rfl
  | a :: b :: l, h => by
    have ih := zip_all (l := b :: l) (List.pairwise_cons.mp h).2
    have hab := (List.pairwise_cons.mp h).1 b List.mem_cons_self
    show (r a b && (((b :: l).zip l).map fun p => r p.1 p.2).all id) = true
    rw [hab, Bool.true_and]
    exact ih
theorem field_right {F : Fld} (ok : F.Ok) : fieldRef (dField F) = none := by
  have e1 : (F.names.map PyData.str).map strOf = F.names := by
    rw [List.map_map]
    exact List.map_id' _
  have e2 : (F.pairs.map dPair).map prOf = F.pairs := by
    rw [List.map_map]
    exact List.map_id' _
  have hn : namesD (dNames F.names) = true := by
    show (decide (1 ≤ (F.names.map PyData.str).length) && decide ((F.names.map PyData.str).length ≤ 6) && ((F.names.map PyData.str).all nameD && ascS ((F.names.map PyData.str).map strOf))) = true
    rw [e1, List.length_map, decide_eq_true ok.n6, decide_eq_true (show 1 ≤ F.names.length from ok.n0)]
    have h1 : (F.names.map PyData.str).all nameD = true := by
      rw [List.all_eq_true]
      intro d hd
      obtain ⟨x, hx, rfl⟩ := List.mem_map.mp hd
      exact nameD_good (ok.sgn x hx)
    have h2 : ascS F.names = true := zip_all ok.asN
    rw [h1, h2]
    rfl
  have hp : pairsD (strsOf (dNames F.names)) (.tuple (F.pairs.map dPair)) = true := by
    show ((F.pairs.map dPair).all (pairOfD ((F.names.map PyData.str).map strOf)) && ascP ((F.pairs.map dPair).map prOf)) = true
    rw [e1, e2]
    have h1 : (F.pairs.map dPair).all (pairOfD F.names) = true := by
      rw [List.all_eq_true]
      intro d hd
      obtain ⟨x, hx, rfl⟩ := List.mem_map.mp hd
      show (F.names.contains x.1 && (F.names.contains x.2 && sLt x.1 x.2)) = true
      rw [List.contains_iff_mem.mpr (ok.inN x hx).1, List.contains_iff_mem.mpr (ok.inN x hx).2, ok.asc x hx]
      rfl
    have h2 : ascP F.pairs = true := zip_all (r := ltQ) ok.asP
    rw [h1, h2]
    rfl
  show (if namesD (dNames F.names) then (if pairsD (strsOf (dNames F.names)) (.tuple (F.pairs.map dPair)) then none else some ("pairs" : Str)) else some ("names" : Str)) = none
  rw [if_pos hn, if_pos hp]
theorem script_okS {K : PySem.W.Frag} {H : Hp} {v : V} {F : Fld} {l : List (Str × Int)} (ok : F.Ok) (hd : Dp K H v (dSteps l)) (g : GoodScript F l) : OkS K H v (fldNames (dField F)) none := by
  refine .inl ⟨dSteps l, hd, (okd_steps g.1 fun s hs => ⟨ok.sgn _ (g.2 s hs).1, (good_abs (g.2 s hs).2).2⟩).shaped (by decide), fun ds e => ?_, ?_⟩
  · have e : PyData.tuple (l.map dStep) = .tuple ds := e
    cases e
    rw [List.length_map]
    have := g.1
    omega
  · rw [fld_names]
    exact script_good g.1 g.2
end XB
set_option Elab.async false
set_option linter.all false
set_option maxRecDepth 100000
set_option maxHeartbeats 4000000
namespace XB
open PySem PySem.Spec PyProof.Rows L2
/-! steps taken back, done; undone, done again -/
section
variable {P : Program} {w : World} {K : PySem.W.Frag} {mg : Str → Option Value} {base : Heap}
theorem c_Held (T : Tx K mg) : MkE P w K mg base 1 "Held" "value" := by
  refine mke0 T.e_Held (ps := ["self", "value"]) rfl (fun _ _ _ _ _ _ us hl => match us, hl with | [_, _], _ => rfl) (fun _ _ _ _ _ _ _ _ => rfl) sc_Held___init__ (fun C fI cdv A outer st H vs Q E hC hm hr h => ?_)
  obtain ⟨a, y, rfl, e, q⟩ := h
  exact ⟨_, pss_one (ps_osG (pv 0) (pv 1)), _, rfl, _, rfl, a, C, rfl, hC, T.n_Held_value C hm, e, q⟩
theorem PlaceOf.imp {H H' : Hp} {E : XK} {row : List Itm} {v : V} {R R' : Nat → Itm → Prop} (h : PlaceOf K mg H E row v R) (s : Same H H') (i : ∀ n p, row[n]? = some p → v = .int (p.1 : Int) → R n p → R' n p) : PlaceOf K mg H' E row v R' := by
  rcases h with ⟨nw, rf⟩ | ⟨z, e, hz, rf⟩ | ⟨n, p, hp, e, hb, r⟩
  · exact .inl ⟨nw.same s, rf.from s⟩
  · exact .inr (.inl ⟨z, e, hz, rf.from s⟩)
  · exact .inr (.inr ⟨n, p, hp, e, hb, i n p hp e r⟩)
theorem SheetAt.same {H H' : Hp} {a : Addr} {F : Fld} {h : Sh} (hA : SheetAt K mg H a F h) (s : Same H H') : SheetAt K mg H' a F h := by
  obtain ⟨f, t, ⟨C, dx, hC, e⟩, hF, hS⟩ := hA
  exact ⟨f, t, ⟨C, dx, hC, s _ _ e⟩, Dp.sm s _ hF, Dp.sm s _ hS⟩
theorem Ins.same {x : Str} {H H' : Hp} {a : Addr} {fs : List (Str × V)} (h : Ins mg x H a fs) (s : Same H H') : Ins mg x H' a fs := by
  obtain ⟨C, dx, hm, e⟩ := h
  exact ⟨C, dx, hm, s _ _ e⟩
def spTakeBack (K : PySem.W.Frag) (mg : Str → Option Value) : Sp := fun vs H Q E => ∃ (a : Addr) (v : V) (F : Fld) (h : Sh), vs = [.ref a, v] ∧ SheetAt K mg H a F h ∧ F.Ok ∧ SOk F h.now ∧ h.past.length ≤ 900 ∧ PlaceOf K mg H E h.now.row v fun i p =>
  (∃ n rest, holdAt F h.now.row i = n :: rest ∧ RefE K mg H E "Held" "value" (.int (n : Int))) ∨ (holdAt F h.now.row i = [] ∧ ∀ H', Sb [a] H H' → Tk H H' → SheetAt K mg H' a F ⟨⟨without h.now.row [p.1], h.now.cnt⟩, h.past ++ [h.now], []⟩ → Q .non H')
theorem c_Sheet_take_back (T : Tx K mg) : MCl P w K mg base (L2.CX P w) 5 "Sheet" "take_back" (spTakeBack K mg) := by
  refine mclX T.m_Sheet_take_back (ps := ["self", "number"]) (fun _ _ _ _ _ _ us hl => match us, hl with | [_, _], _ => rfl) sc_Sheet_take_back (fun vs H Q E h => ?_) (fun f cdv A outer st H vs Q E hr h => ?_)
  · obtain ⟨a, v, F, h, rfl, _⟩ := h
    rfl
  · obtain ⟨a, v, F, h, rfl, hA, ok, so, hl, q⟩ := h
    have nd := sc_Sheet_take_back.nd
    obtain ⟨f1, s1, hi, hF, hS⟩ := id hA
    have tk : Takes (cxOf (L2.CX P w) P w K mg base ["self", "number", "numbers"] "Sheet.take_back" (defScope s_Sheet_take_back) f cdv A outer st H E) fun cls d _ H => E cls d H := takes_of rfl rfl rfl rfl
    refine ⟨_, (pss_cons (ps_set (i := 2) nd rfl (.inl rfl) (pe_mtO T.o_Sheet (c_Sheet_ahead_of T) (pv 0) hr (by decide) (passes_call tk fun _ _ _ _ h => h) (pa_cons (pv 1) pa_nil)))
    (pss_cons (ps_if (pt_cmpR (op_neD hr.units) (pv 2) (pe_tup pa_nil) (nomark _)) (pss_one (ps_rs (K := K) (mg := mg) rfl rfl rfl tk (c_Held T) hr (by decide) (by rfl) (pe_ix (ixk_tup (K := K) rfl) (pv 2) pe_int (fun _ _ => rfl)))) pss_nil)
    (pss_one (ps_expr (pe_mtO T.o_Sheet (c_Sheet__leave_out T) (pv 0) hr (by decide) (E := E0) passL (pa_cons (pe_tup (pa_cons (pv 1) pa_nil)) pa_nil)))))), ?_⟩
    --@
    refine ⟨_, rfl, a, _, rfl, hi, rfl, _, rfl, a, v, F, h, rfl, hA, ok, so, PlaceOf.imp q (Same.refl H) fun i p hp ev q2 H1 r s1 hU => ?_⟩
    subst ev
    clear q
    have dU : Dp K H1 (.ref r) (.tuple ((holdAt F h.now.row i).map fun n : Nat => PyData.int (n : Int))) := .tup hU (dp_nums _)
    refine ⟨_, rfl, Nat.zero_le _, fun u nu => upd_gen nu fun H2 s2 e2 => ?_⟩
    have s12 := s1.trans s2
    refine ⟨_, _, Dp.sm s2 _ dU, .tup (SqT.of e2) .nil, sh_nums _, rfl, _, rfl, ?_⟩
    rcases q2 with ⟨n, rest, e, rf⟩ | ⟨e, q⟩
    · rw [e] at hU ⊢
      refine iteT ⟨_, rfl, ix0 ((Tk.of s2).sqT hU) ?_⟩
      exact mk_at fun C H5 dx hC hT s5 ed => rf C H5 dx hC hT (s12.trans s5) ed
    · rw [e]
      refine iteF ⟨_, rfl, a, _, rfl, Ins.same hi s12, rfl, _, rfl, one_sz, fun t nt => upd_gen nt fun H3 s3 e3 => ?_⟩
      have s13 := s12.trans s3
      exact ⟨a, t, F, h, [p.1], rfl, hA.same s13, SqT.of e3, hl, so.len, fun H4 sb tk hA4 => q H4 ((Sb.of s13).trans sb) ((Tk.of s13).trans tk) hA4⟩
def spTakeAll (K : PySem.W.Frag) (mg : Str → Option Value) : Sp := fun vs H Q E => ∃ (a : Addr) (v : V) (F : Fld) (h : Sh), vs = [.ref a, v] ∧ SheetAt K mg H a F h ∧ F.Ok ∧ SOk F h.now ∧ h.past.length ≤ 900 ∧ PlaceOf K mg H E h.now.row v fun i p =>
  ∀ H' r, Sb [a] H H' → Tk H H' → SheetAt K mg H' a F ⟨⟨without h.now.row ((holdAt F h.now.row i).reverse ++ [p.1]), h.now.cnt⟩, h.past ++ [h.now], []⟩ → SqT K H' r (nums ((holdAt F h.now.row i).reverse ++ [p.1])) → Q (.ref r) H'
theorem hold_len {F : Fld} {row : List Itm} {i : Nat} (h : row.length ≤ 60) : (holdAt F row i).length ≤ 60 := by
  unfold holdAt
  split
  · rename_i p _
    have := holdN_le (F := F) (row.drop (i + 1)) [p.2.1]
    rw [List.length_drop] at this
    omega
  · exact Nat.zero_le _
theorem c_Sheet_take_all (T : Tx K mg) : MCl P w K mg base (L2.CX P w) 5 "Sheet" "take_all" (spTakeAll K mg) := by
  refine mclX T.m_Sheet_take_all (ps := ["self", "number"]) (fun _ _ _ _ _ _ us hl => match us, hl with | [_, _], _ => rfl) sc_Sheet_take_all (fun vs H Q E h => ?_) (fun f cdv A outer st H vs Q E hr h => ?_)
  · obtain ⟨a, v, F, h, rfl, _⟩ := h
    rfl
  · obtain ⟨a, v, F, h, rfl, hA, ok, so, hl, q⟩ := h
    have nd := sc_Sheet_take_all.nd
    obtain ⟨f1, s1, hi, hF, hS⟩ := id hA
    have tk : Takes (cxOf (L2.CX P w) P w K mg base ["self", "number", "numbers"] "Sheet.take_all" (defScope s_Sheet_take_all) f cdv A outer st H E) fun cls d _ H => E cls d H := takes_of rfl rfl rfl rfl
    refine ⟨_, (pss_cons (ps_set (i := 2) nd rfl (.inl rfl) (pe_op (op_catAk (K := K) rfl) (pe_revT (pe_mtO T.o_Sheet (c_Sheet_ahead_of T) (pv 0) hr (by decide) (passes_call tk fun _ _ _ _ h => h) (pa_cons (pv 1) pa_nil))) (pe_tup (pa_cons (pv 1) pa_nil))))
    (pss_cons (ps_expr (pe_mtO T.o_Sheet (c_Sheet__leave_out T) (pv 0) hr (by decide) (E := E0) passL (pa_cons (pv 2) pa_nil)))
    (pss_one (ps_ret (pv 2))))), ?_⟩
    --@
    refine ⟨_, rfl, a, _, rfl, hi, rfl, _, rfl, a, v, F, h, rfl, hA, ok, so, PlaceOf.imp q (Same.refl H) fun i p hp ev q2 H1 r s1 hU => ?_⟩
    subst ev
    clear q
    have lh := hold_len (F := F) (i := i) so.len
    refine ⟨_, _, rfl, hU, fun u nu => upd_gen nu fun H2 s2 e2 => ⟨_, rfl, one_sz, fun t nt => upd_gen nt fun H3 s3 e3 => catA ((Tk.of s3).sqT (SqT.of e2)) (SqT.of e3) ?_ fun H4 w s4 hW => ?_⟩⟩
    · rw [List.length_reverse, List.length_singleton]
      unfold nums
      rw [List.length_map]
      exact Nat.le_of_lt (small1000 (by omega))
    have s14 := s1.trans (s2.trans (s3.trans s4))
    have hW2 : SqT K H4 w (nums ((holdAt F h.now.row i).reverse ++ [p.1])) := by
      have e : nums ((holdAt F h.now.row i).reverse ++ [p.1]) = (nums (holdAt F h.now.row i)).reverse ++ [V.int (p.1 : Int)] := by
        unfold nums
        rw [List.map_append, List.map_reverse]
        rfl
      rw [e]
      exact hW
    refine ⟨_, rfl, a, _, rfl, Ins.same hi s14, rfl, _, rfl, a, w, F, h, _, rfl, hA.same s14, hW2, hl, so.len, fun H5 sb tk5 hA5 => ⟨_, rfl, ?_⟩⟩
    exact q2 H5 w ((Sb.of s14).trans sb) ((Tk.of s14).trans tk5) hA5 (tk5.sqT hW2)
def spDo (K : PySem.W.Frag) (mg : Str → Option Value) : Sp := fun vs H Q E => ∃ (a : Addr) (v : V) (F : Fld) (h : Sh) (d : PyData), vs = [.ref a, v] ∧ SheetAt K mg H a F h ∧ F.Ok ∧ h.now.row.length ≤ 60 ∧ h.past.length ≤ 900 ∧ Dp K H v d ∧ SeqAt.shaped d = true ∧
  ((stepD F.names d = false ∧ RefE K mg H E "BadScript" "place" (.int 0)) ∨ (∃ s, d = dStep s ∧ stepD F.names d = true ∧ ((h.now.row.length = 60 ∧ RefE K mg H E "TooGreat" "most" (.int 60)) ∨ (h.now.row.length < 60 ∧ ∀ H', Sb [a] H H' → Tk H H' → SheetAt K mg H' a F ⟨⟨h.now.row ++ [(h.now.cnt, s)], h.now.cnt + 1⟩, h.past ++ [h.now], []⟩ → Q (.int (h.now.cnt : Int)) H'))))
theorem c_TooGreat (T : Tx K mg) : MkE P w K mg base 1 "TooGreat" "most" := by
  refine mke0 T.e_TooGreat (ps := ["self", "most"]) rfl (fun _ _ _ _ _ _ us hl => match us, hl with | [_, _], _ => rfl) (fun _ _ _ _ _ _ _ _ => rfl) sc_TooGreat___init__ (fun C fI cdv A outer st H vs Q E hC hm hr h => ?_)
  obtain ⟨a, y, rfl, e, q⟩ := h
  exact ⟨_, pss_one (ps_osG (pv 0) (pv 1)), _, rfl, _, rfl, a, C, rfl, hC, T.n_TooGreat_most C hm, e, q⟩
theorem shaped_names {F : Fld} (ok : F.Ok) : SeqAt.shaped (.tuple (F.names.map PyData.str)) = true := (names_okd ok).shaped (by decide)
theorem c_Sheet_do (T : Tx K mg) : MCl P w K mg base (L2.CX P w) 4 "Sheet" "do" (spDo K mg) := by
  refine mclX T.m_Sheet_do (ps := ["self", "step"]) (fun _ _ _ _ _ _ us hl => match us, hl with | [_, _], _ => rfl) sc_Sheet_do (fun vs H Q E h => ?_) (fun f cdv A outer st H vs Q E hr h => ?_)
  · obtain ⟨a, v, F, h, d, rfl, _⟩ := h
    rfl
  · obtain ⟨a, v, F, h, d, rfl, hA, ok, hl, hp, hd, sd, q⟩ := h
    have nd := sc_Sheet_do.nd
    obtain ⟨f1, s1, ⟨C, dx, hC, hi⟩, hF, hS⟩ := id hA
    obtain ⟨t60, h_MOST_STEPS⟩ := T.g_MOST_STEPS
    have tk : Takes (cxOf (L2.CX P w) P w K mg base ["self", "step", "names", "_", "row", "count"] "Sheet.do" (defScope s_Sheet_do) f cdv A outer st H E) fun cls d _ H => E cls d H := takes_of rfl rfl rfl rfl
    refine ⟨_, (pss_cons (ps_asg (pe_fld (pv 0) rfl) (pg_tup rfl (pgs_cons (pg_name (i := 2) nd rfl (.inl rfl)) (pgs_cons (pg_name (i := 3) nd rfl (.inl rfl)) pgs_nil))))
    (pss_cons (ps_if (pt_not (pt_val (pe_k (c_is_stepD T) hr (by decide) (by rfl) (pa_cons (pv 2) (pa_cons (pv 1) pa_nil))))) (pss_one (ps_rs (K := K) (mg := mg) rfl rfl rfl tk (c_BadScript T) hr (by decide) (by rfl) pe_int)) pss_nil)
    (pss_cons (ps_asg (pe_fld (pv 0) rfl) (pg_tup rfl (pgs_cons (pg_tup rfl (pgs_cons (pg_name (i := 4) nd rfl (.inl rfl)) (pgs_cons (pg_name (i := 5) nd rfl (.inl rfl)) pgs_nil))) (pgs_cons (pg_name (i := 3) nd rfl (.inl rfl)) (pgs_cons (pg_name (i := 3) nd rfl (.inl rfl)) pgs_nil)))))
    (pss_cons (ps_if (pt_cmpR op_ge (pe_lenS (by rfl) T.b_len (pv 4)) (pe_glob (v := .int 60) (by rfl) h_MOST_STEPS ⟨_, rfl⟩) (nomark _)) (pss_one (ps_rs (K := K) (mg := mg) rfl rfl rfl tk (c_TooGreat T) hr (by decide) (by rfl) (pe_glob (v := .int 60) (by rfl) h_MOST_STEPS ⟨_, rfl⟩))) pss_nil)
    (pss_cons (ps_expr (pe_mtO T.o_Sheet (c_Sheet__go_on T) (pv 0) hr (by decide) (E := E0) passL (pa_cons (pe_op (op_catAk (K := K) rfl) (pv 4) (pe_tup (pa_cons (pe_tup (pa_cons (pv 5) (pa_cons (pv 1) pa_nil))) pa_nil))) (pa_cons (pe_op op_add (pv 5) pe_int) pa_nil))))
    (pss_one (ps_ret (pv 5)))))))), ?_⟩
    --@
    obtain ⟨_, n, pp, ps0, e, hA0, hN, hP, hDp⟩ := id hF.field
    cases e
    obtain ⟨_, nw, p, fu, ps, fs, e, h1, h2, h3, h4, h5, h6⟩ := hS.sh
    cases e
    obtain ⟨_, ra, e, h7, h8⟩ := h2.ss
    cases e
    obtain ⟨_, xs, e, hX, hV⟩ := h8.row
    cases e
    have lx := hV.len
    rw [List.length_map] at lx
    refine ⟨_, rfl, a, C, dx, _, .ref f1, rfl, hi, oc_cls T.o_Sheet hC, T.n_Sheet__field C hC, rfl, ?_⟩
    refine ⟨_, _, rfl, hA0, rfl, _, _, rfl, _, _, rfl, rfl, ?_⟩
    refine ⟨_, rfl, _, rfl, n, v, F.names, d, rfl, hN, shaped_names ok, hd, sd, _, rfl, ?_⟩
    rcases q with ⟨hb, rf⟩ | ⟨s, rfl, hb, q⟩
    · rw [hb]
      exact iteT (mk_at fun C H5 dx hC hT s5 ed => rf C H5 dx hC hT s5 ed)
    rw [hb]
    refine iteF ⟨_, rfl, a, C, dx, _, .ref s1, rfl, hi, oc_cls T.o_Sheet hC, T.n_Sheet__state C hC, rfl, ?_⟩
    refine ⟨_, _, rfl, h1, rfl, _, _, rfl, _, _, rfl, h7, rfl, _, _, rfl, _, _, rfl, rfl, _, _, rfl, _, _, rfl, rfl, ?_⟩
    refine ⟨_, rfl, _, _, rfl, .inr hX, _, _, rfl, rfl, _, rfl, ?_⟩
    rw [lx]
    rcases q with ⟨h60, rf⟩ | ⟨h60, q⟩
    · rw [show decide ((60 : Int) ≤ (h.now.row.length : Int)) = true from decide_eq_true (by omega)]
      exact iteT (mk_at fun C H5 dx hC hT s5 ed => rf C H5 dx hC hT s5 ed)
    rw [show decide ((60 : Int) ≤ (h.now.row.length : Int)) = false from decide_eq_false (by omega)]
    obtain ⟨sa, rfl, hsa⟩ := Dp.step (s := s) hd
    refine iteF ⟨_, rfl, a, _, rfl, ⟨C, dx, hC, hi⟩, rfl, _, rfl, _, rfl, _, rfl, two_sz, fun u1 m1 => upd_gen m1 fun H1 t1 e1 => ⟨one_sz, fun u2 m2 => upd_gen m2 fun H2 t2 e2 => catA ((Tk.of (t1.trans t2)).sqT hX) (SqT.of e2) (Nat.le_of_lt (small1000 (by rw [List.length_singleton]; omega))) fun H3 u3 t3 h9 => ?_⟩⟩
    have t13 := t1.trans (t2.trans t3)
    refine ⟨_, rfl, _, _, rfl, rfl, a, u3, F, h, h.now.row ++ [(h.now.cnt, s)], h.now.cnt + 1, rfl, SheetAt.same hA t13, ?_, hp, fun H4 sb tk4 hA4 => ⟨_, rfl, q H4 ((Sb.of t13).trans sb) ((Tk.of t13).trans tk4) hA4⟩⟩
    refine .tup h9 ?_
    rw [List.map_append]
    exact (DpAll.sm t13 _ hV).app (.cons (Dp.of_itm (p := (h.now.cnt, s)) ((Tk.of (t2.trans t3)).sqT (SqT.of e1)) ((Tk.of t13).sqT hsa)) .nil)
end
end XB
set_option Elab.async false
set_option linter.all false
set_option maxRecDepth 100000
set_option maxHeartbeats 4000000
namespace XB
open PySem PySem.Spec PyProof.Rows L2
/-! undo, redo, a new sheet; bounds -/
theorem okd_itm {F : Fld} (ok : F.Ok) {p : Itm} (h : p.2.1 ∈ F.names ∧ GoodTimes p.2.2) (hn : p.1 ≤ 900) : Okd 2 20 (dItm p) := by
  have h1 : Okd 1 10 (.int (p.1 : Int)) := (okd_int (by
    have : ((p.1 : Int)).natAbs ≤ 900 := by omega
    exact Nat.lt_of_le_of_lt this (by decide +kernel))).mono (by decide) (by decide)
  exact (okd_two h1 (okd_step (ok.sgn _ h.1) (good_abs h.2).2)).mono (Nat.le_refl 2) (by decide)
theorem okd_row {F : Fld} (ok : F.Ok) {s : SS} (so : SOk F s) : Okd 3 1260 (dRow s.row) :=
  (okd_tup (j := 2) (n := 20) (k := 60) (fun d hd => by
    obtain ⟨p, hp, rfl⟩ := List.mem_map.mp hd
    exact okd_itm ok (so.good p hp) (by have := so.lt p hp; have := so.cn; omega)) (by rw [List.length_map]; exact so.len)).mono (Nat.le_refl _) (by decide)
theorem okd_ss {F : Fld} (ok : F.Ok) {s : SS} (so : SOk F s) : Okd 4 1300 (dSS s) := by
  have h1 : Okd 3 10 (.int (s.cnt : Int)) := (okd_int (by
    have : ((s.cnt : Int)).natAbs ≤ 900 := by have := so.cn; omega
    exact Nat.lt_of_le_of_lt this (by decide +kernel))).mono (by decide) (by decide)
  exact (okd_two (okd_row ok so) h1).mono (Nat.le_refl 4) (by decide)
theorem sh_sss {F : Fld} (ok : F.Ok) {l : List SS} (h : ∀ s ∈ l, SOk F s) : SeqAt.shaped (.tuple (l.map dSS)) = true :=
  (okd_tup (j := 4) (n := 1300) (k := l.length) (fun d hd => by
    obtain ⟨s, hs, rfl⟩ := List.mem_map.mp hd
    exact okd_ss ok (h s hs)) (by rw [List.length_map]; exact Nat.le_refl _)).shaped (by decide)
theorem eqv_nilT (l : List SS) : PyData.eqv (.tuple (l.map dSS)) (.tuple []) = l.isEmpty := by cases l <;> rfl
theorem sl_lastOff {K : PySem.W.Frag} {H : Hp} {a : Addr} {xs : List V} {x : V} {Q : VK} (h : SqT K H a (xs ++ [x])) (q : ∀ H' p, Same H H' → SqT K H' p xs → Q (.ref p) H') : rSlA K (.ref a) none (some (-1)) H Q := by
  have e2 : HT.sIx (xs ++ [x]).length (xs ++ [x]).length (some (-1)) = xs.length := by
    show (if (-1 : Int) < 0 then ((-1 : Int) + ((xs ++ [x]).length : Int)).toNat else min (-1 : Int).toNat (xs ++ [x]).length) = xs.length
    rw [if_pos (show (-1 : Int) < 0 by decide), List.length_append, List.length_singleton]
    omega
  have e1 : HT.sIx (xs ++ [x]).length 0 none = 0 := rfl
  have e3 : cutV (xs ++ [x]) none (some (-1)) = xs := by
    unfold cutV
    rw [e1, e2]
    simp
  refine ⟨a, _, rfl, h, fun hw => ?_, fun _ p hp => q _ p (same_upd hp) ?_⟩
  · rw [e2, List.length_append, List.length_singleton] at hw
    omega
  · rw [e3]
    exact SqT.of upd_same
theorem dpAll_snoc {K : PySem.W.Frag} {H : Hp} {d : PyData} : ∀ {ds : List PyData} {xs : List V}, DpAll K H xs (ds ++ [d]) → ∃ ys y, xs = ys ++ [y] ∧ DpAll K H ys ds ∧ Dp K H y d
  | [], xs, h => by
    cases h with
    | cons h1 h2 =>
      cases h2
      exact ⟨[], _, rfl, .nil, h1⟩
  | e :: ds, xs, h => by
    cases h with
    | cons h1 h2 =>
      obtain ⟨ys, y, rfl, g1, g2⟩ := dpAll_snoc h2
      exact ⟨_ :: ys, y, rfl, .cons h1 g1, g2⟩
section
variable {P : Program} {w : World} {K : PySem.W.Frag} {mg : Str → Option Value} {base : Heap}
def spUndo (K : PySem.W.Frag) (mg : Str → Option Value) : Sp := fun vs H Q _ => ∃ (a : Addr) (F : Fld) (h : Sh), vs = [.ref a] ∧ SheetAt K mg H a F h ∧ F.Ok ∧ ShOk F h ∧ h.past.length ≤ 900 ∧ h.fut.length ≤ 900 ∧
  ((h.past = [] ∧ ∀ H', Same H H' → Q (.bl false) H') ∨ ∃ ps s, h.past = ps ++ [s] ∧ ∀ H', Sb [a] H H' → Tk H H' → SheetAt K mg H' a F ⟨s, ps, h.now :: h.fut⟩ → Q (.bl true) H')
theorem c_Sheet_undo (T : Tx K mg) : MCl P w K mg base (L2.CX P w) 1 "Sheet" "undo" (spUndo K mg) := by
  refine mclX T.m_Sheet_undo (ps := ["self"]) (fun _ _ _ _ _ _ us hl => match us, hl with | [_], _ => rfl) sc_Sheet_undo (fun vs H Q E h => ?_) (fun f cdv A outer st H vs Q E hr h => ?_)
  · obtain ⟨a, F, h, rfl, _⟩ := h
    rfl
  · obtain ⟨a, F, h, rfl, hA, ok, so, hp, hf, q⟩ := h
    have nd := sc_Sheet_undo.nd
    obtain ⟨f1, s1, ⟨C, dx, hC, hi⟩, hF, hS⟩ := id hA
    refine ⟨_, (pss_cons (ps_asg (pe_fld (pv 0) rfl) (pg_tup rfl (pgs_cons (pg_name (i := 1) nd rfl (.inl rfl)) (pgs_cons (pg_name (i := 2) nd rfl (.inl rfl)) (pgs_cons (pg_name (i := 3) nd rfl (.inl rfl)) pgs_nil)))))
    (pss_cons (ps_if (pt_cmpR (op_eqD hr.units) (pv 2) (pe_tup pa_nil) (nomark _)) (pss_one (ps_ret pe_bl)) pss_nil)
    (pss_cons (ps_fld (pv 0) (pe_tup (pa_cons (pe_ix (ixk_tup (K := K) rfl) (pv 2) (pe_un un_neg pe_int) (fun _ _ => rfl)) (pa_cons (pe_slice sl_tupA (pv 2) po_none (po_some (pe_un un_neg pe_int))) (pa_cons (pe_op (op_catAk (K := K) rfl) (pe_tup (pa_cons (pv 1) pa_nil)) (pv 3)) pa_nil)))) rfl)
    (pss_one (ps_ret pe_bl))))), ?_⟩
    --@
    obtain ⟨_, nw, p, fu, ps, fs, e, h1, h2, h3, h4, h5, h6⟩ := hS.sh
    cases e
    have lp := h4.len
    have lf := h6.len
    rw [List.length_map] at lp lf
    refine ⟨_, rfl, a, C, dx, _, .ref s1, rfl, hi, oc_cls T.o_Sheet hC, T.n_Sheet__state C hC, rfl, ?_⟩
    refine ⟨_, _, rfl, h1, rfl, _, _, rfl, _, _, rfl, _, _, rfl, rfl, ?_⟩
    refine ⟨_, rfl, Nat.zero_le _, fun u nu => upd_gen nu fun H1 t1 e1 => ?_⟩
    refine ⟨_, _, .tup ((Tk.of t1).sqT h3) (DpAll.sm t1 _ h4), .tup (SqT.of e1) .nil, sh_sss ok so.past, rfl, ?_⟩
    rw [eqv_nilT]
    rcases q with ⟨e, q⟩ | ⟨qs, s, e, q⟩
    · rw [e]
      exact ⟨_, rfl, iteT (q _ t1)⟩
    rw [e] at h4 hp ⊢
    rw [List.map_append] at h4
    obtain ⟨ys, y, rfl, g4, gy⟩ := dpAll_snoc h4
    obtain ⟨yr, _, rfl, _⟩ := id gy.ss
    have ee : (qs ++ [s]).isEmpty = false := by simp
    rw [ee]
    have h3a := (Tk.of t1).sqT h3
    refine ⟨_, rfl, iteF ⟨_, rfl, _, rfl, _, _, _, _, rfl, rfl, h3a, atI_last ys (.ref yr), _, rfl, noPart ⟨_, rfl, _, rfl, sl_lastOff h3a fun H2 u2 t2 hU2 => ⟨_, rfl, one_sz, fun u3 m3 => upd_gen m3 fun H3 t3 e3 => ⟨_, rfl, catA (SqT.of e3) ((Tk.of (t1.trans (t2.trans t3))).sqT h5) (Nat.le_of_lt (small1000 (by rw [List.length_singleton]; omega))) fun H4 u4 t4 hU4 => ⟨three_sz, fun u5 m5 => upd_gen m5 fun H5 t5 e5 => ?_⟩⟩⟩⟩⟩⟩
    have t15 := t1.trans (t2.trans (t3.trans (t4.trans t5)))
    have hi5 := t15 _ _ hi
    refine ⟨_, rfl, a, C, dx, _, rfl, hi5, oc_cls T.o_Sheet hC, T.n_Sheet__state C hC, (show 2 < 1000 by decide), ?_⟩
    obtain ⟨sb, tk⟩ := same_mut (gs := putF "_state" (.ref u5) [("_field", .ref f1), ("_state", .ref s1)]) t15 hi5
    have tm : Tk H5 (upd H5 a (.ins C dx (putF "_state" (.ref u5) [("_field", .ref f1), ("_state", .ref s1)]))) := Tk.refl.mut hi5 (fun _ q => nomatch q) (fun _ _ q => nomatch q)
    refine q _ sb tk ⟨f1, u5, ⟨C, dx, hC, upd_same⟩, Dp.tk tk _ (flat_field F) hF, ?_⟩
    refine .tup (tm.sqT (SqT.of e5)) (.cons (Dp.tk tk _ (flat_ss _) gy) (.cons (.tup (tm.sqT ((Tk.of (t3.trans (t4.trans t5))).sqT hU2)) (DpAll.tk tk _ (flat_sss _) g4)) (.cons (.tup (tm.sqT ((Tk.of t5).sqT hU4)) (.cons (Dp.tk tk _ (flat_ss _) h2) (DpAll.tk tk _ (flat_sss _) h6))) .nil)))
def spRedo (K : PySem.W.Frag) (mg : Str → Option Value) : Sp := fun vs H Q _ => ∃ (a : Addr) (F : Fld) (h : Sh), vs = [.ref a] ∧ SheetAt K mg H a F h ∧ F.Ok ∧ ShOk F h ∧ h.past.length ≤ 900 ∧ h.fut.length ≤ 900 ∧
  ((h.fut = [] ∧ ∀ H', Same H H' → Q (.bl false) H') ∨ ∃ fs s, h.fut = s :: fs ∧ ∀ H', Sb [a] H H' → Tk H H' → SheetAt K mg H' a F ⟨s, h.past ++ [h.now], fs⟩ → Q (.bl true) H')
theorem c_Sheet_redo (T : Tx K mg) : MCl P w K mg base (L2.CX P w) 1 "Sheet" "redo" (spRedo K mg) := by
  refine mclX T.m_Sheet_redo (ps := ["self"]) (fun _ _ _ _ _ _ us hl => match us, hl with | [_], _ => rfl) sc_Sheet_redo (fun vs H Q E h => ?_) (fun f cdv A outer st H vs Q E hr h => ?_)
  · obtain ⟨a, F, h, rfl, _⟩ := h
    rfl
  · obtain ⟨a, F, h, rfl, hA, ok, so, hp, hf, q⟩ := h
    have nd := sc_Sheet_redo.nd
    obtain ⟨f1, s1, ⟨C, dx, hC, hi⟩, hF, hS⟩ := id hA
    refine ⟨_, (pss_cons (ps_asg (pe_fld (pv 0) rfl) (pg_tup rfl (pgs_cons (pg_name (i := 1) nd rfl (.inl rfl)) (pgs_cons (pg_name (i := 2) nd rfl (.inl rfl)) (pgs_cons (pg_name (i := 3) nd rfl (.inl rfl)) pgs_nil)))))
    (pss_cons (ps_if (pt_cmpR (op_eqD hr.units) (pv 3) (pe_tup pa_nil) (nomark _)) (pss_one (ps_ret pe_bl)) pss_nil)
    (pss_cons (ps_fld (pv 0) (pe_tup (pa_cons (pe_ix (ixk_tup (K := K) rfl) (pv 3) pe_int (fun _ _ => rfl)) (pa_cons (pe_op (op_catAk (K := K) rfl) (pv 2) (pe_tup (pa_cons (pv 1) pa_nil))) (pa_cons (pe_slice sl_tupA (pv 3) (po_some pe_int) po_none) pa_nil)))) rfl)
    (pss_one (ps_ret pe_bl))))), ?_⟩
    --@
    obtain ⟨_, nw, p, fu, ps, fs, e, h1, h2, h3, h4, h5, h6⟩ := hS.sh
    cases e
    have lp := h4.len
    have lf := h6.len
    rw [List.length_map] at lp lf
    refine ⟨_, rfl, a, C, dx, _, .ref s1, rfl, hi, oc_cls T.o_Sheet hC, T.n_Sheet__state C hC, rfl, ?_⟩
    refine ⟨_, _, rfl, h1, rfl, _, _, rfl, _, _, rfl, _, _, rfl, rfl, ?_⟩
    refine ⟨_, rfl, Nat.zero_le _, fun u nu => upd_gen nu fun H1 t1 e1 => ?_⟩
    refine ⟨_, _, .tup ((Tk.of t1).sqT h5) (DpAll.sm t1 _ h6), .tup (SqT.of e1) .nil, sh_sss ok so.fut, rfl, ?_⟩
    rw [eqv_nilT]
    rcases q with ⟨e, q⟩ | ⟨qs, s, e, q⟩
    · rw [e]
      exact ⟨_, rfl, iteT (q _ t1)⟩
    rw [e] at h6 hf ⊢
    cases h6 with
    | @cons y _ _ ys gy g6 =>
    obtain ⟨yr, _, rfl, _⟩ := id (Dp.ss (s := s) gy)
    have ee : (s :: qs).isEmpty = false := rfl
    rw [ee]
    have h5a := (Tk.of t1).sqT h5
    refine ⟨_, rfl, iteF ⟨_, rfl, ix0 h5a ⟨_, rfl, _, rfl, one_sz, fun u3 m3 => upd_gen m3 fun H3 t3 e3 => catA ((Tk.of (t1.trans t3)).sqT h3) (SqT.of e3) (Nat.le_of_lt (small1000 (by rw [List.length_singleton]; omega))) fun H4 u4 t4 hU4 => ⟨_, rfl, 1, rfl, noPart (sl_suf (k := 1) ((Tk.of (t3.trans t4)).sqT h5a) fun H2 u2 t2 hU2 => ⟨three_sz, fun u5 m5 => upd_gen m5 fun H5 t5 e5 => ?_⟩)⟩⟩⟩⟩
    have t15 := t1.trans (t3.trans (t4.trans (t2.trans t5)))
    have hi5 := t15 _ _ hi
    refine ⟨_, rfl, a, C, dx, _, rfl, hi5, oc_cls T.o_Sheet hC, T.n_Sheet__state C hC, (show 2 < 1000 by decide), ?_⟩
    obtain ⟨sb, tk⟩ := same_mut (gs := putF "_state" (.ref u5) [("_field", .ref f1), ("_state", .ref s1)]) t15 hi5
    have tm : Tk H5 (upd H5 a (.ins C dx (putF "_state" (.ref u5) [("_field", .ref f1), ("_state", .ref s1)]))) := Tk.refl.mut hi5 (fun _ q => nomatch q) (fun _ _ q => nomatch q)
    refine q _ sb tk ⟨f1, u5, ⟨C, dx, hC, upd_same⟩, Dp.tk tk _ (flat_field F) hF, ?_⟩
    refine .tup (tm.sqT (SqT.of e5)) (.cons (Dp.tk tk _ (flat_ss s) gy) (.cons (.tup (tm.sqT ((Tk.of (t2.trans t5)).sqT hU4)) ?_) (.cons (.tup (tm.sqT ((Tk.of t5).sqT hU2)) (DpAll.tk tk _ (flat_sss _) g6)) .nil)))
    rw [List.map_append]
    exact (DpAll.tk tk _ (flat_sss _) h4).app (.cons (Dp.tk tk _ (flat_ss _) h2) .nil)
def spShInit (K : PySem.W.Frag) (mg : Str → Option Value) : Sp := fun vs H Q E => ∃ (a dx C : Addr) (f : V) (df : PyData), vs = [.ref a, f] ∧ mg "Sheet" = some (.ref C) ∧ H a = some (.ins C dx []) ∧ Dp K H f df ∧ FOk df ∧
  ((∃ x, fieldRef df = some x ∧ RefE K mg H E "BadField" "part" (.str x)) ∨ ∃ F fa, f = .ref fa ∧ df = dField F ∧ F.Ok ∧ ∀ H', Same (fun b => if b = a then none else H b) H' → SheetAt K mg H' a F ⟨⟨[], 0⟩, [], []⟩ → Q .non H')
theorem c_Sheet_init (T : Tx K mg) : MCl P w K mg base (L2.CX P w) 5 "Sheet" "__init__" (spShInit K mg) := by
  refine mclX T.m_Sheet___init__ (ps := ["self", "field"]) (fun _ _ _ _ _ _ us hl => match us, hl with | [_, _], _ => rfl) sc_Sheet___init__ (fun vs H Q E h => ?_) (fun f cdv A outer st H vs Q E hr h => ?_)
  · obtain ⟨a, dx, C, f, df, rfl, _⟩ := h
    rfl
  · obtain ⟨a, dx, C, fv, df, rfl, hC, hi, hd, fk, q⟩ := h
    have nd := sc_Sheet___init__.nd
    have tk : Takes (cxOf (L2.CX P w) P w K mg base ["self", "field"] "Sheet.__init__" (defScope s_Sheet___init__) f cdv A outer st H E) fun cls d _ H => E cls d H := takes_of rfl rfl rfl rfl
    refine ⟨_, (pss_cons (ps_fld (pv 0) (pe_kX (c_need_fieldD T) hr (by decide) tk (by rfl) (pa_cons (pv 1) pa_nil)) rfl)
    (pss_one (ps_fld (pv 0) (pe_tup (pa_cons (pe_tup (pa_cons (pe_tup pa_nil) (pa_cons pe_int pa_nil))) (pa_cons (pe_tup pa_nil) (pa_cons (pe_tup pa_nil) pa_nil)))) rfl))), ?_⟩
    --@
    refine ⟨_, rfl, fv, df, rfl, hd, fk, ?_⟩
    rcases q with ⟨x, e, rf⟩ | ⟨F, fa, rfl, rfl, ok, q⟩
    · exact .inl ⟨x, e, rf⟩
    refine .inr ⟨field_right ok, fun H1 s1 => ?_⟩
    have hi1 := s1 _ _ hi
    refine ⟨_, rfl, a, C, dx, [], rfl, hi1, oc_cls T.o_Sheet hC, T.n_Sheet__field C hC, (by decide), ?_⟩
    have hi2 : upd H1 a (.ins C dx (putF "_field" (.ref fa) [])) a = some (.ins C dx [("_field", .ref fa)]) := upd_same
    have t1 : Tk H1 (upd H1 a (.ins C dx (putF "_field" (.ref fa) []))) := Tk.refl.mut hi1 (fun _ q => nomatch q) (fun _ _ q => nomatch q)
    have w1 : ∀ b o, b ≠ a → H b = some o → upd H1 a (.ins C dx (putF "_field" (.ref fa) [])) b = some o := fun b o nb e => by
      rw [upd_ne nb]
      exact s1 b o e
    generalize upd H1 a (.ins C dx (putF "_field" (.ref fa) [])) = H2 at hi2 t1 w1 ⊢
    refine ⟨Nat.zero_le _, fun u1 m1 => upd_gen m1 fun G1 g1 e1 => ⟨two_sz, fun u2 m2 => upd_gen m2 fun G2 g2 e2 => ⟨Nat.zero_le _, fun u3 m3 => upd_gen m3 fun G3 g3 e3 => ⟨Nat.zero_le _, fun u4 m4 => upd_gen m4 fun G4 g4 e4 => ⟨three_sz, fun u5 m5 => upd_gen m5 fun G5 g5 e5 => ?_⟩⟩⟩⟩⟩
    have g35 := g3.trans (g4.trans g5)
    have g25 := g2.trans g35
    have g15 := g1.trans g25
    have hi5 := g15 _ _ hi2
    refine ⟨_, rfl, a, C, dx, _, rfl, hi5, oc_cls T.o_Sheet hC, T.n_Sheet__state C hC, (show 1 < 1000 by decide), ?_⟩
    have tm : Tk G5 (upd G5 a (.ins C dx (putF "_state" (.ref u5) [("_field", .ref fa)]))) := Tk.refl.mut hi5 (fun _ q => nomatch q) (fun _ _ q => nomatch q)
    refine q _ (fun b o e => ?_) ⟨fa, u5, ⟨C, dx, hC, upd_same⟩, Dp.tk (((Tk.of s1).trans t1).trans ((Tk.of g15).trans tm)) _ (flat_field F) hd, ?_⟩
    · have e : (if b = a then none else H b) = some o := e
      by_cases hb : b = a
      · rw [if_pos hb] at e
        cases e
      · rw [if_neg hb] at e
        rw [upd_ne hb]
        exact g15 _ _ (w1 b o hb e)
    · exact .tup (tm.sqT (SqT.of e5)) (.cons (.tup (tm.sqT ((Tk.of g35).sqT (SqT.of e2))) (.cons (.tup (tm.sqT ((Tk.of g25).sqT (SqT.of e1))) .nil) (.cons (.int _) .nil))) (.cons (.tup (tm.sqT ((Tk.of (g4.trans g5)).sqT (SqT.of e3))) .nil) (.cons (.tup (tm.sqT ((Tk.of g5).sqT (SqT.of e4))) .nil) .nil)))
theorem mk_sheet {H : Hp} {f : Addr} {F : Fld} {R : Addr → Hp → Prop} {E : XK} (hF : Dp K H (.ref f) (dField F)) (ok : F.Ok)
    (q : ∀ H' a, Same H H' → H a = none → SheetAt K mg H' a F ⟨⟨[], 0⟩, [], []⟩ → R a H') :
    ∀ C, mg "Sheet" = some (.ref C) → ∀ a dx, H a = none → H dx = none → dx ≠ a → spShInit K mg [.ref a, .ref f] (upd (upd H dx (.own a)) a (.ins C dx [])) (fun v H2 => v = .non ∧ R a H2) E := fun C hC a dx na nd ne => by
  have n2 : (upd H dx (.own a)) a = none := by
    rw [upd_ne ne.symm]
    exact na
  have s : Same H (upd (upd H dx (.own a)) a (.ins C dx [])) := (same_upd nd).trans (same_upd n2)
  refine ⟨a, dx, C, .ref f, dField F, rfl, hC, upd_same, Dp.sm s _ hF, fld_fok ok, .inr ⟨F, f, rfl, rfl, ok, fun H' sm hA => ⟨rfl, q H' a (fun b o e => sm b o ?_) na hA⟩⟩⟩
  have nb : b ≠ a := ne_of_none e na
  show (if b = a then none else _) = some o
  rw [if_neg nb]
  exact s b o e
end
end XB
set_option Elab.async false
set_option linter.all false
set_option maxRecDepth 100000
set_option maxHeartbeats 4000000
namespace XB
open PySem PySem.Spec PyProof.Rows L2
/-! the law's own sheet -/
def ownD (f n p q : Addr) : List (Key × V) := [(.inr "field", .ref f), (.inr "now", .ref n), (.inr "past", .ref p), (.inr "later", .ref q)]
section
variable {K : PySem.W.Frag}
/-- the law's own sheet; its lists keep to N -/
def OwnAt (K : PySem.W.Frag) (H : Hp) (o : Addr) (F : Fld) (h : Sh) (N : Addr → Prop) : Prop := ∃ f n p q ps qs, H o = some (.dK (ownD f n p q)) ∧ Dp K H (.ref f) (dField F) ∧ Dp K H (.ref n) (dSS h.now) ∧
  H p = some (.lst ps) ∧ DpAll K H ps (h.past.map dSS) ∧ H q = some (.lst qs) ∧ DpAll K H qs (h.fut.reverse.map dSS) ∧ N p ∧ N q
theorem OwnAt.same {H H' : Hp} {o : Addr} {F : Fld} {h : Sh} {N : Addr → Prop} (w : OwnAt K H o F h N) (s : Same H H') : OwnAt K H' o F h N := by
  obtain ⟨f, n, p, q, ps, qs, e, h1, h2, h3, h4, h5, h6, h7⟩ := w
  exact ⟨f, n, p, q, ps, qs, s _ _ e, Dp.sm s _ h1, Dp.sm s _ h2, s _ _ h3, DpAll.sm s _ h4, s _ _ h5, DpAll.sm s _ h6, h7⟩
theorem sub_fresh {N : Addr → Prop} {H H' : Hp} (n : ∀ x, H x = none → N x) (s : Same H H') : ∀ x, H' x = none → N x := fun x e => n x (fresh_of s e)
end
section
variable {P : Program} {w : World} {K : PySem.W.Frag} {mg : Str → Option Value} {base : Heap}
def spOwn (K : PySem.W.Frag) : Sp := fun vs H Q _ => ∃ (f : Addr) (F : Fld) (N : Addr → Prop), vs = [.ref f] ∧ Dp K H (.ref f) (dField F) ∧ (∀ x, H x = none → N x) ∧ ∀ H' o, Same H H' → H o = none → OwnAt K H' o F ⟨⟨[], 0⟩, [], []⟩ N → Q (.ref o) H'
theorem c__law_own (T : Tx K mg) : Cl P w K mg base CX0 1 "_law_own" (spOwn K) := by
  refine cl0 T.d__law_own (ps := ["field"]) (fun _ _ _ _ _ _ us hl => match us, hl with | [_], _ => rfl) sc__law_own (fun vs H Q E h => ?_) (fun fa cdv A outer st H vs Q E hr h => ?_)
  · obtain ⟨f, F, N, rfl, _⟩ := h
    rfl
  · obtain ⟨f, F, N, rfl, hF, hN, q⟩ := h
    have nd := sc__law_own.nd
    refine ⟨_, pss_one (ps_ret (pe_disp (pps_cons pe_str (pv 0) (pps_cons pe_str (pe_tup (pa_cons (pe_tup pa_nil) (pa_cons pe_int pa_nil))) (pps_cons pe_str (pe_lst pa_nil) (pps_cons pe_str (pe_lst pa_nil) pps_nil)))) (by rfl) (by rfl) (fun z => by cases z) (by decide))), ?_⟩
    refine fun m hm => ?_
    have s1 : Same H (upd H m (.dK [])) := same_upd hm
    have em1 : upd H m (.dK []) m = some (.dK []) := upd_same
    generalize upd H m (.dK []) = H1 at s1 em1 ⊢
    refine ⟨_, rfl, Nat.zero_le _, fun u1 m1 => upd_gen m1 fun H2 t2 e2 => ⟨two_sz, fun u2 m2 => upd_gen m2 fun H3 t3 e3 => ⟨Nat.zero_le _, fun u3 m3 => upd_gen m3 fun H4 t4 e4 => ⟨Nat.zero_le _, fun u4 m4 => upd_gen m4 fun H5 t5 e5 => ?_⟩⟩⟩⟩
    have t45 := t4.trans t5
    have t35 := t3.trans t45
    have t25 := t2.trans t35
    have em5 := t25 _ _ em1
    refine ⟨em5, [(.inr "field", .ref f), (.inr "now", .ref u2), (.inr "past", .ref u3), (.inr "later", .ref u4)], rfl, by show 4 ≤ 15; decide, ?_⟩
    have em6 : upd H5 m (.dK (mergeK [] [(.inr "field", .ref f), (.inr "now", .ref u2), (.inr "past", .ref u3), (.inr "later", .ref u4)])) m = some (.dK (ownD f u2 u3 u4)) := by
      rw [upd_same]
      rfl
    have s6 : Same H (upd H5 m (.dK (mergeK [] [(.inr "field", .ref f), (.inr "now", .ref u2), (.inr "past", .ref u3), (.inr "later", .ref u4)]))) := same_put (s1.trans t25) hm
    have k6 : Tk H5 (upd H5 m (.dK (mergeK [] [(.inr "field", .ref f), (.inr "now", .ref u2), (.inr "past", .ref u3), (.inr "later", .ref u4)]))) := Tk.refl.mut em5 (fun _ q => nomatch q) (fun _ _ q => nomatch q)
    have e4' := t5 _ _ e4
    have n3 : u3 ≠ m := fun z => by
      rw [z, em5] at e4'
      cases e4'
    have n4 : u4 ≠ m := fun z => by
      rw [z, em5] at e5
      cases e5
    have e4'' : upd H5 m (.dK (mergeK [] [(.inr "field", .ref f), (.inr "now", .ref u2), (.inr "past", .ref u3), (.inr "later", .ref u4)])) u3 = some (.lst []) := by
      rw [upd_ne n3]
      exact e4'
    have e5'' : upd H5 m (.dK (mergeK [] [(.inr "field", .ref f), (.inr "now", .ref u2), (.inr "past", .ref u3), (.inr "later", .ref u4)])) u4 = some (.lst []) := by
      rw [upd_ne n4]
      exact e5
    generalize upd H5 m (.dK (mergeK [] [(.inr "field", .ref f), (.inr "now", .ref u2), (.inr "past", .ref u3), (.inr "later", .ref u4)])) = H6 at em6 s6 k6 e4'' e5'' ⊢
    refine q H6 m s6 hm ⟨f, u2, u3, u4, [], [], em6, Dp.sm s6 _ hF, ?_, e4'', .nil, e5'', .nil, hN _ (fresh_of (s1.trans (t2.trans t3)) m3), hN _ (fresh_of (s1.trans (t2.trans (t3.trans t4))) m4)⟩
    exact .tup (k6.sqT ((Tk.of t45).sqT (SqT.of e3))) (.cons (.tup (k6.sqT ((Tk.of t35).sqT (SqT.of e2))) .nil) (.cons (.int _) .nil))
end
end XB
set_option Elab.async false
set_option linter.all false
set_option maxRecDepth 100000
set_option maxHeartbeats 4000000
namespace XB
open PySem PySem.Spec PyProof.Rows L2
/-! the law's own sheet: another row, undone, done again -/
section
variable {P : Program} {w : World} {K : PySem.W.Frag} {mg : Str → Option Value} {base : Heap}
/-- another entry of a dict -/
theorem dk_mut {H H1 : Hp} {o : Addr} {kvs kvs' : List (Key × V)} (s : Sb [o] H H1) (k : Tk H H1) (e : H1 o = some (.dK kvs)) : Sb [o] H (upd H1 o (.dK kvs')) ∧ Tk H (upd H1 o (.dK kvs')) ∧ ∀ b xs, H1 b = some (.lst xs) → upd H1 o (.dK kvs') b = some (.lst xs) :=
  ⟨s.put List.mem_cons_self, k.mut e (fun _ q => nomatch q) (fun _ _ q => nomatch q), fun b xs h => by
    have nb : b ≠ o := fun z => by
      rw [z, e] at h
      cases h
    rw [upd_ne nb]
    exact h⟩
def spKept (K : PySem.W.Frag) : Sp := fun vs H Q _ => ∃ (o n2 : Addr) (F : Fld) (h : Sh) (s : SS) (N : Addr → Prop), vs = [.ref o, .ref n2] ∧ OwnAt K H o F h N ∧ Dp K H (.ref n2) (dSS s) ∧ h.past.length ≤ 900 ∧ (∀ x, H x = none → N x) ∧ ∀ H', Sb [o] H H' → Tk H H' → OwnAt K H' o F ⟨s, h.past ++ [h.now], []⟩ N → Q .non H'
theorem c__law_kept (T : Tx K mg) : Cl P w K mg base CX0 1 "_law_kept" (spKept K) := by
  refine cl0 T.d__law_kept (ps := ["own", "now"]) (fun _ _ _ _ _ _ us hl => match us, hl with | [_, _], _ => rfl) sc__law_kept (fun vs H Q E h => ?_) (fun fa cdv A outer st H vs Q E hr h => ?_)
  · obtain ⟨o, n2, F, h, s, N, rfl, _⟩ := h
    rfl
  · obtain ⟨o, n2, F, h, s, N, rfl, ⟨f, n, p, q, ps, qs, e, h1, h2, h3, h4, h5, h6, h7, h8⟩, hs, hl, hN, q_⟩ := h
    have nd := sc__law_kept.nd
    have hu := hu_of hr
    refine ⟨_, (pss_cons (ps_dput hu (pv 0) pe_str (pe_op op_cat (pe_dget hu (pv 0) pe_str (fun _ _ => rfl)) (pe_lst (pa_cons (pe_dget hu (pv 0) pe_str (fun _ _ => rfl)) pa_nil))) rfl)
    (pss_one (ps_asg (pe_tup (pa_cons (pv 1) (pa_cons (pe_lst pa_nil) pa_nil))) (pg_tup rfl (pgs_cons (pg_sub (pv 0) pe_str (set_dict hu)) (pgs_cons (pg_sub (pv 0) pe_str (set_dict hu)) pgs_nil)))))), ?_⟩
    --@
    have lp := h4.len
    rw [List.length_map] at lp
    refine ⟨_, rfl, o, .ref p, rfl, DGet.k (k := .inr "past") e, _, rfl, o, .ref n, rfl, DGet.k (k := .inr "now") e, one_sz, fun u1 m1 => upd_gen m1 fun H1 t1 e1 => catL (t1 _ _ h3) e1 (Nat.le_of_lt (small1000 (by rw [List.length_singleton]; omega))) fun H2 u2 t2 m2 e2 => ?_⟩
    have t12 := t1.trans t2
    have eo2 := t12 _ _ e
    obtain ⟨sb, tk, ls⟩ := dk_mut (kvs' := putK (ownD f n p q) (.inr "past") (.ref u2)) (Sb.of t12) (Tk.of t12) eo2
    have n2N : N u2 := hN _ (by
      cases h : H u2 with
      | none => rfl
      | some x =>
        have := t1 _ _ h
        rw [this] at m2
        cases m2)
    refine ⟨_, rfl, o, _, rfl, DPut.k (k := .inr "past") eo2 (by show 4 < sizeLine; decide), ?_⟩
    have eo3 : upd H2 o (.dK (putK (ownD f n p q) (.inr "past") (.ref u2))) o = some (.dK (ownD f n u2 q)) := by
      rw [upd_same]
      rfl
    have e23 := ls _ _ e2
    generalize upd H2 o (.dK (putK (ownD f n p q) (.inr "past") (.ref u2))) = H3 at sb tk eo3 e23 ⊢
    refine ⟨_, rfl, Nat.zero_le _, fun u3 m3 => upd_gen m3 fun H4 t4 e4 => ⟨two_sz, fun u4 m4 => upd_gen m4 fun H5 t5 e5 => ⟨u4, _, rfl, SqT.of e5, rfl, _, _, rfl, _, rfl, o, _, rfl, DPut.k (k := .inr "now") ((t4.trans t5) _ _ eo3) (by show 4 < sizeLine; decide), ?_⟩⟩⟩
    have t45 := t4.trans t5
    have hH3 : ∀ x, H x = none → N x := hN
    have n3N : N u3 := hN _ (by
      cases h : H u3 with
      | none => rfl
      | some x =>
        have hno : u3 ≠ o := fun z => by
          rw [z, eo3] at m3
          cases m3
        have := sb u3 x (by simpa using hno) h
        rw [this] at m3
        cases m3)
    obtain ⟨sb2, tk2, ls2⟩ := dk_mut (kvs' := putK (ownD f n u2 q) (.inr "now") (.ref n2)) (sb.trans (Sb.of t45)) (tk.trans (Tk.of t45)) (t45 _ _ eo3)
    have eo6 : upd H5 o (.dK (putK (ownD f n u2 q) (.inr "now") (.ref n2))) o = some (.dK (ownD f n2 u2 q)) := by
      rw [upd_same]
      rfl
    have e26 := ls2 _ _ (t45 _ _ e23)
    have e46 := ls2 _ _ (t5 _ _ e4)
    generalize upd H5 o (.dK (putK (ownD f n u2 q) (.inr "now") (.ref n2))) = H6 at sb2 tk2 eo6 e26 e46 ⊢
    refine ⟨_, _, rfl, _, rfl, o, _, rfl, DPut.k (k := .inr "later") eo6 (by show 4 < sizeLine; decide), rfl, ?_⟩
    obtain ⟨sb3, tk3, ls3⟩ := dk_mut (kvs' := putK (ownD f n2 u2 q) (.inr "later") (.ref u3)) sb2 tk2 eo6
    have eo7 : upd H6 o (.dK (putK (ownD f n2 u2 q) (.inr "later") (.ref u3))) o = some (.dK (ownD f n2 u2 u3)) := by
      rw [upd_same]
      rfl
    refine q_ _ sb3 tk3 ⟨f, n2, u2, u3, ps ++ [.ref n], [], eo7, Dp.tk tk3 _ (flat_field F) h1, Dp.tk tk3 _ (flat_ss s) hs, ls3 _ _ e26, ?_, ls3 _ _ e46, .nil, n2N, n3N⟩
    rw [List.map_append]
    exact (DpAll.tk tk3 _ (flat_sss _) h4).app (.cons (Dp.tk tk3 _ (flat_ss _) h2) .nil)
end
end XB
set_option Elab.async false
set_option linter.all false
set_option maxRecDepth 100000
set_option maxHeartbeats 4000000
namespace XB
open PySem PySem.Spec PyProof.Rows L2
/-! the law's own sheet: undone, done again -/
theorem sh_sssL {F : Fld} (ok : F.Ok) {l : List SS} (h : ∀ s ∈ l, SOk F s) : SeqAt.shaped (.list (l.map dSS)) = true := sh_sss ok h
theorem eqv_nilL (l : List SS) : PyData.eqv (.list (l.map dSS)) (.list []) = l.isEmpty := by cases l <;> rfl
theorem cut_lastOff (xs : List V) (x : V) : cutV (xs ++ [x]) none (some (-1)) = xs := by
  have e2 : HT.sIx (xs ++ [x]).length (xs ++ [x]).length (some (-1)) = xs.length := by
    show (if (-1 : Int) < 0 then ((-1 : Int) + ((xs ++ [x]).length : Int)).toNat else min (-1 : Int).toNat (xs ++ [x]).length) = xs.length
    rw [if_pos (show (-1 : Int) < 0 by decide), List.length_append, List.length_singleton]
    omega
  have e1 : HT.sIx (xs ++ [x]).length 0 none = 0 := rfl
  unfold cutV
  rw [e1, e2]
  simp
section
variable {P : Program} {w : World} {K : PySem.W.Frag} {mg : Str → Option Value} {base : Heap}
/-- undone (back) or done again -/
def spShift (K : PySem.W.Frag) : Sp := fun vs H Q _ => ∃ (o : Addr) (F : Fld) (h : Sh) (N : Addr → Prop) (back : Bool), vs = [.ref o, .str (if back then "past" else "later"), .str (if back then "later" else "past")] ∧ OwnAt K H o F h N ∧ F.Ok ∧ ShOk F h ∧ h.past.length ≤ 900 ∧ h.fut.length ≤ 900 ∧ (∀ x, H x = none → N x) ∧
  (if back then (h.past = [] ∧ ∀ H', Same H H' → Q (.bl false) H') ∨ ∃ ps s, h.past = ps ++ [s] ∧ ∀ H', Sb [o] H H' → Tk H H' → OwnAt K H' o F ⟨s, ps, h.now :: h.fut⟩ N → Q (.bl true) H'
   else (h.fut = [] ∧ ∀ H', Same H H' → Q (.bl false) H') ∨ ∃ fs s, h.fut = s :: fs ∧ ∀ H', Sb [o] H H' → Tk H H' → OwnAt K H' o F ⟨s, h.past ++ [h.now], fs⟩ N → Q (.bl true) H')
theorem c__law_shift (T : Tx K mg) : Cl P w K mg base CX0 1 "_law_shift" (spShift K) := by
  refine cl0 T.d__law_shift (ps := ["own", "begin", "goal"]) (fun _ _ _ _ _ _ us hl => match us, hl with | [_, _, _], _ => rfl) sc__law_shift (fun vs H Q E h => ?_) (fun fa cdv A outer st H vs Q E hr h => ?_)
  · obtain ⟨o, F, h, N, b, rfl, _⟩ := h
    rfl
  · obtain ⟨o, F, h, N, back, rfl, ⟨f, n, p, q, ps, qs, e, h1, h2, h3, h4, h5, h6, h7, h8⟩, ok, so, hl, hl2, hN, q_⟩ := h
    have nd := sc__law_shift.nd
    have hu := hu_of hr
    refine ⟨_, (pss_cons (ps_if (pt_cmpR (op_eqD hr.units) (pe_dget hu (pv 0) (pv 1) (fun _ _ => rfl)) (pe_lst pa_nil) (nomark _)) (pss_one (ps_ret pe_bl)) pss_nil)
    (pss_cons (ps_dput hu (pv 0) (pv 2) (pe_op op_cat (pe_dget hu (pv 0) (pv 2) (fun _ _ => rfl)) (pe_lst (pa_cons (pe_dget hu (pv 0) pe_str (fun _ _ => rfl)) pa_nil))) rfl)
    (pss_cons (ps_asg (pe_tup (pa_cons (pe_ix (ixk_list (K := K) rfl) (pe_dget hu (pv 0) (pv 1) (fun _ _ => rfl)) (pe_un un_neg pe_int) (fun _ _ => rfl)) (pa_cons (pe_slice sl_list (pe_dget hu (pv 0) (pv 1) (fun _ _ => rfl)) po_none (po_some (pe_un un_neg pe_int))) pa_nil))) (pg_tup rfl (pgs_cons (pg_sub (pv 0) pe_str (set_dict hu)) (pgs_cons (pg_sub (pv 0) (pv 1) (set_dict hu)) pgs_nil))))
    (pss_one (ps_ret pe_bl))))), ?_⟩
    --@
    have lp := h4.len
    have lq := h6.len
    rw [List.length_map] at lp lq
    rw [List.length_reverse] at lq
    cases back
    · refine ⟨_, rfl, _, rfl, o, .ref q, rfl, DGet.k (k := .inr "later") e, Nat.zero_le _, fun u nu => upd_gen nu fun H1 t1 e1 => ?_⟩
      refine ⟨_, _, .lst (SqL.of (t1 _ _ h5)) (DpAll.sm t1 _ h6), .lst (SqL.of e1) .nil, sh_sssL ok (fun s hs => so.fut s (List.mem_reverse.mp hs)), rfl, ?_⟩
      rw [eqv_nilL, List.isEmpty_reverse]
      rcases q_ with ⟨ee, q_⟩ | ⟨fs, s, ee, q_⟩
      · rw [ee]
        exact ⟨_, rfl, iteT (q_ _ t1)⟩
      rw [ee, List.reverse_cons, List.map_append] at h6
      rw [ee]
      have en : (s :: fs).isEmpty = false := rfl
      rw [en]
      obtain ⟨ys, y, rfl, g6, gy⟩ := dpAll_snoc h6
      obtain ⟨yr, _, rfl, _⟩ := id (Dp.ss (s := s) gy)
      refine ⟨_, rfl, iteF ⟨_, rfl, _, rfl, o, .ref p, rfl, DGet.k (k := .inr "past") (t1 _ _ e), _, rfl, o, .ref n, rfl, DGet.k (k := .inr "now") (t1 _ _ e), one_sz, fun u1 m1 => upd_gen m1 fun H2 t2 e2 => catL ((t1.trans t2) _ _ h3) e2 (Nat.le_of_lt (small1000 (by rw [List.length_singleton]; omega))) fun H3 u2 t3 m2 e3 => ?_⟩⟩
      have t13 := t1.trans (t2.trans t3)
      obtain ⟨sb, tk, ls⟩ := dk_mut (kvs' := putK (ownD f n p q) (.inr "past") (.ref u2)) (Sb.of t13) (Tk.of t13) (t13 _ _ e)
      refine ⟨_, rfl, _, rfl, o, _, rfl, DPut.k (k := .inr "past") (t13 _ _ e) (by show 4 < sizeLine; decide), ?_⟩
      have eo4 : upd H3 o (.dK (putK (ownD f n p q) (.inr "past") (.ref u2))) o = some (.dK (ownD f n u2 q)) := by
        rw [upd_same]
        rfl
      have N2 : N u2 := hN _ (fresh_of (t1.trans t2) m2)
      have eg4 := ls _ _ e3
      have eb4 := ls _ _ (t13 _ _ h5)
      generalize upd H3 o (.dK (putK (ownD f n p q) (.inr "past") (.ref u2))) = H4 at sb tk eo4 eg4 eb4 ⊢
      refine ⟨_, rfl, _, rfl, o, .ref q, rfl, DGet.k (k := .inr "later") eo4, _, rfl, q, _, _, _, rfl, rfl, SqL.of eb4, atI_last ys (.ref yr), _, rfl, _, rfl, o, .ref q, rfl, DGet.k (k := .inr "later") eo4, noPart ⟨_, rfl, _, rfl, q, _, rfl, SqL.of eb4, fun u3 m3 => upd_gen m3 fun H5 t5 e5 => ⟨two_sz, fun u4 m4 => upd_gen m4 fun H6 t6 e6 => ?_⟩⟩⟩
      rw [cut_lastOff] at e5
      have t56 := t5.trans t6
      have N3 : N u3 := hN _ (by
        cases h : H u3 with
        | none => rfl
        | some x =>
          have hno : u3 ≠ o := fun z => by
            rw [z, eo4] at m3
            cases m3
          have := sb u3 x (by simpa using hno) h
          rw [this] at m3
          cases m3)
      obtain ⟨sb2, tk2, ls2⟩ := dk_mut (kvs' := putK (ownD f n u2 q) (.inr "now") (.ref yr)) (sb.trans (Sb.of t56)) (tk.trans (Tk.of t56)) (t56 _ _ eo4)
      refine ⟨u4, _, rfl, SqT.of e6, rfl, _, _, rfl, _, rfl, o, _, rfl, DPut.k (k := .inr "now") (t56 _ _ eo4) (by show 4 < sizeLine; decide), ?_⟩
      have eo7 : upd H6 o (.dK (putK (ownD f n u2 q) (.inr "now") (.ref yr))) o = some (.dK (ownD f yr u2 q)) := by
        rw [upd_same]
        rfl
      have eg7 := ls2 _ _ (t56 _ _ eg4)
      have eb7 := ls2 _ _ (t6 _ _ e5)
      generalize upd H6 o (.dK (putK (ownD f n u2 q) (.inr "now") (.ref yr))) = H7 at sb2 tk2 eo7 eg7 eb7 ⊢
      obtain ⟨sb3, tk3, ls3⟩ := dk_mut (kvs' := putK (ownD f yr u2 q) (.inr "later") (.ref u3)) sb2 tk2 eo7
      refine ⟨_, _, rfl, _, rfl, _, rfl, o, _, rfl, DPut.k (k := .inr "later") eo7 (by show 4 < sizeLine; decide), rfl, ?_⟩
      have eo8 : upd H7 o (.dK (putK (ownD f yr u2 q) (.inr "later") (.ref u3))) o = some (.dK (ownD f yr u2 u3)) := by
        rw [upd_same]
        rfl
      refine q_ _ sb3 tk3 ⟨f, yr, u2, u3, ps ++ [.ref n], ys, eo8, Dp.tk tk3 _ (flat_field F) h1, Dp.tk tk3 _ (flat_ss s) gy, ls3 _ _ eg7, ?_, ls3 _ _ eb7, DpAll.tk tk3 _ (flat_sss _) g6, N2, N3⟩
      rw [List.map_append]
      exact (DpAll.tk tk3 _ (flat_sss _) h4).app (.cons (Dp.tk tk3 _ (flat_ss _) h2) .nil)
    · refine ⟨_, rfl, _, rfl, o, .ref p, rfl, DGet.k (k := .inr "past") e, Nat.zero_le _, fun u nu => upd_gen nu fun H1 t1 e1 => ?_⟩
      refine ⟨_, _, .lst (SqL.of (t1 _ _ h3)) (DpAll.sm t1 _ h4), .lst (SqL.of e1) .nil, sh_sssL ok so.past, rfl, ?_⟩
      rw [eqv_nilL]
      rcases q_ with ⟨ee, q_⟩ | ⟨fs, s, ee, q_⟩
      · rw [ee]
        exact ⟨_, rfl, iteT (q_ _ t1)⟩
      rw [ee, List.map_append] at h4
      rw [ee]
      have en : (fs ++ [s]).isEmpty = false := by simp
      rw [en]
      obtain ⟨ys, y, rfl, g6, gy⟩ := dpAll_snoc h4
      obtain ⟨yr, _, rfl, _⟩ := id (Dp.ss (s := s) gy)
      refine ⟨_, rfl, iteF ⟨_, rfl, _, rfl, o, .ref q, rfl, DGet.k (k := .inr "later") (t1 _ _ e), _, rfl, o, .ref n, rfl, DGet.k (k := .inr "now") (t1 _ _ e), one_sz, fun u1 m1 => upd_gen m1 fun H2 t2 e2 => catL ((t1.trans t2) _ _ h5) e2 (Nat.le_of_lt (small1000 (by rw [List.length_singleton]; omega))) fun H3 u2 t3 m2 e3 => ?_⟩⟩
      have t13 := t1.trans (t2.trans t3)
      obtain ⟨sb, tk, ls⟩ := dk_mut (kvs' := putK (ownD f n p q) (.inr "later") (.ref u2)) (Sb.of t13) (Tk.of t13) (t13 _ _ e)
      refine ⟨_, rfl, _, rfl, o, _, rfl, DPut.k (k := .inr "later") (t13 _ _ e) (by show 4 < sizeLine; decide), ?_⟩
      have eo4 : upd H3 o (.dK (putK (ownD f n p q) (.inr "later") (.ref u2))) o = some (.dK (ownD f n p u2)) := by
        rw [upd_same]
        rfl
      have N2 : N u2 := hN _ (fresh_of (t1.trans t2) m2)
      have eg4 := ls _ _ e3
      have eb4 := ls _ _ (t13 _ _ h3)
      generalize upd H3 o (.dK (putK (ownD f n p q) (.inr "later") (.ref u2))) = H4 at sb tk eo4 eg4 eb4 ⊢
      refine ⟨_, rfl, _, rfl, o, .ref p, rfl, DGet.k (k := .inr "past") eo4, _, rfl, p, _, _, _, rfl, rfl, SqL.of eb4, atI_last ys (.ref yr), _, rfl, _, rfl, o, .ref p, rfl, DGet.k (k := .inr "past") eo4, noPart ⟨_, rfl, _, rfl, p, _, rfl, SqL.of eb4, fun u3 m3 => upd_gen m3 fun H5 t5 e5 => ⟨two_sz, fun u4 m4 => upd_gen m4 fun H6 t6 e6 => ?_⟩⟩⟩
      rw [cut_lastOff] at e5
      have t56 := t5.trans t6
      have N3 : N u3 := hN _ (by
        cases h : H u3 with
        | none => rfl
        | some x =>
          have hno : u3 ≠ o := fun z => by
            rw [z, eo4] at m3
            cases m3
          have := sb u3 x (by simpa using hno) h
          rw [this] at m3
          cases m3)
      obtain ⟨sb2, tk2, ls2⟩ := dk_mut (kvs' := putK (ownD f n p u2) (.inr "now") (.ref yr)) (sb.trans (Sb.of t56)) (tk.trans (Tk.of t56)) (t56 _ _ eo4)
      refine ⟨u4, _, rfl, SqT.of e6, rfl, _, _, rfl, _, rfl, o, _, rfl, DPut.k (k := .inr "now") (t56 _ _ eo4) (by show 4 < sizeLine; decide), ?_⟩
      have eo7 : upd H6 o (.dK (putK (ownD f n p u2) (.inr "now") (.ref yr))) o = some (.dK (ownD f yr p u2)) := by
        rw [upd_same]
        rfl
      have eg7 := ls2 _ _ (t56 _ _ eg4)
      have eb7 := ls2 _ _ (t6 _ _ e5)
      generalize upd H6 o (.dK (putK (ownD f n p u2) (.inr "now") (.ref yr))) = H7 at sb2 tk2 eo7 eg7 eb7 ⊢
      obtain ⟨sb3, tk3, ls3⟩ := dk_mut (kvs' := putK (ownD f yr p u2) (.inr "past") (.ref u3)) sb2 tk2 eo7
      refine ⟨_, _, rfl, _, rfl, _, rfl, o, _, rfl, DPut.k (k := .inr "past") eo7 (by show 4 < sizeLine; decide), rfl, ?_⟩
      have eo8 : upd H7 o (.dK (putK (ownD f yr p u2) (.inr "past") (.ref u3))) o = some (.dK (ownD f yr u3 u2)) := by
        rw [upd_same]
        rfl
      refine q_ _ sb3 tk3 ⟨f, yr, u3, u2, ys, qs ++ [.ref n], eo8, Dp.tk tk3 _ (flat_field F) h1, Dp.tk tk3 _ (flat_ss s) gy, ls3 _ _ eb7, DpAll.tk tk3 _ (flat_sss _) g6, ls3 _ _ eg7, ?_, N3, N2⟩
      rw [List.reverse_cons, List.map_append]
      exact (DpAll.tk tk3 _ (flat_sss _) h6).app (.cons (Dp.tk tk3 _ (flat_ss _) h2) .nil)
end
end XB
set_option Elab.async false
set_option linter.all false
set_option maxRecDepth 100000
set_option maxHeartbeats 4000000
namespace XB
open PySem PySem.Spec PyProof.Rows L2
theorem firsts_frs {F : Fld} {l : List (Str × Int)} : ∀ n : Nat, n ≤ l.length → (firstsL F l n).map (nm1 l) = XM.frs (OF F) [] (l.take n)
  | 0, _ => rfl
  | n + 1, h => by
    have ih := firsts_frs (F := F) n (Nat.le_of_succ_le h)
    have hs : l[n]? = some l[n] := List.getElem?_eq_getElem h
    generalize l[n] = s at hs
    rw [firsts_snoc, List.map_append, ih, take_snoc hs, XM.frs_snoc, List.nil_append]
    congr 1
    have e : free1 F l n = (l.take n).all fun w => !(OF F).tc w.1 s.1 := by
      unfold free1
      rw [hs]
    rw [e]
    cases (l.take n).all fun w => !(OF F).tc w.1 s.1
    · rfl
    · rw [if_pos rfl, if_pos rfl, List.map_singleton, nm1_of hs]
theorem srt_unique : ∀ {zs ys : List Str}, zs.Perm ys → sortedS zs = true → sortedS ys = true → zs = ys
  | [], ys, p, _, _ => (List.Perm.nil_eq p)
  | z :: zs, [], p, _, _ => by
    have := p.length_eq
    simp at this
  | z :: zs, y :: ys, p, h1, h2 => by
    have m1 : y ∈ z :: zs := p.symm.subset List.mem_cons_self
    have m2 : z ∈ y :: ys := p.subset List.mem_cons_self
    have a1 := sorted_head h1 y m1
    have a2 := sorted_head h2 z m2
    have e : z = y := by
      by_cases e : z = y
      · exact e
      · have := sLt_tot z y e a2
        rw [a1] at this
        cases this
    subst e
    have t : ∀ {x : Str} {l : List Str}, sortedS (x :: l) = true → sortedS l = true := fun {x l} h => by
      cases l with
      | nil => rfl
      | cons y r =>
        have h : risingS x (y :: r) = true := h
        unfold risingS at h
        rw [Bool.and_eq_true] at h
        exact h.2
    rw [srt_unique (p.cons_inv) (t h1) (t h2)]
theorem srt_same {ns ms zs ys : List Str} (h1 : SrtOf ns zs) (h2 : SrtOf ms ys) (h : ns.Perm ms) : zs = ys := srt_unique (h1.1.trans (h.trans h2.1.symm)) h1.2 h2.2
theorem ins_bound {F : Fld} {x : Str × Int} {b c : Nat} (hx : x.2.natAbs ≤ c) : ∀ {r : List (Str × Int)}, (∀ y ∈ r, y.2.natAbs ≤ b) → ∀ y ∈ XM.ins (OF F) x r, y.2.natAbs ≤ b + c
  | [], _ => fun y hy => by
    have hy : y ∈ [x] := hy
    rw [List.mem_singleton.mp hy]
    omega
  | z :: r, h => by
    have ih := ins_bound (F := F) hx (r := r) fun y hy => h y (List.mem_cons_of_mem _ hy)
    have hz := h z List.mem_cons_self
    have h0 : ∀ y ∈ r, y.2.natAbs ≤ b + c := fun y hy => by
      have := h y (List.mem_cons_of_mem _ hy)
      omega
    have k : ∀ {a : Str × Int} {l : List (Str × Int)}, a.2.natAbs ≤ b + c → (∀ y ∈ l, y.2.natAbs ≤ b + c) → ∀ y ∈ a :: l, y.2.natAbs ≤ b + c := fun {a l} ha hl y hy => by
      rcases List.mem_cons.mp hy with rfl | hy
      · exact ha
      · exact hl y hy
    unfold XM.ins
    by_cases e1 : z.1 = x.1
    · rw [if_pos e1]
      by_cases e2 : z.2 + x.2 = 0
      · rw [if_pos e2]
        exact h0
      · rw [if_neg e2]
        exact k (by show (z.2 + x.2).natAbs ≤ b + c; omega) h0
    · rw [if_neg e1]
      by_cases e2 : (OF F).tc z.1 x.1 = true
      · rw [if_pos e2]
        exact k (by omega) (k (by omega) h0)
      · rw [if_neg e2]
        by_cases e3 : ((OF F).lt z.1 x.1 && XM.top (OF F) x.1 r) = true
        · rw [if_pos e3]
          exact k (by omega) (k (by omega) h0)
        · rw [if_neg e3]
          exact k (by omega) ih
theorem act_bound {F : Fld} {c : Nat} : ∀ {l r : List (Str × Int)} {b : Nat}, (∀ y ∈ l, y.2.natAbs ≤ c) → (∀ y ∈ r, y.2.natAbs ≤ b) → ∀ y ∈ XM.act (OF F) l r, y.2.natAbs ≤ b + l.length * c
  | [], r, b, _, h => fun y hy => by
    have := h y hy
    omega
  | x :: l, r, b, hl, h => fun y hy => by
    rw [XM.act_cons] at hy
    have := act_bound (F := F) (b := b + c) (fun z hz => hl z (List.mem_cons_of_mem _ hz)) (ins_bound (hl x List.mem_cons_self) h) y hy
    rw [List.length_cons, Nat.succ_mul]
    omega
theorem len_bound {c : Nat} : ∀ {l : List (Str × Int)}, (∀ y ∈ l, y.2.natAbs ≤ c) → (lenOf l).natAbs ≤ l.length * c
  | [], _ => by
    show (0 : Int).natAbs ≤ _
    omega
  | x :: l, h => by
    have t := len_bound (l := l) fun y hy => h y (List.mem_cons_of_mem _ hy)
    have hx := h x List.mem_cons_self
    have e : lenOf (x :: l) = (if x.2 < 0 then -x.2 else x.2) + lenOf l := by
      unfold lenOf
      rw [List.map_cons, List.sum_cons]
    rw [e, List.length_cons, Nat.succ_mul]
    split <;> omega
/-- the data of a good script's pile -/
structure PileD (F : Fld) (A : List (Str × Int)) : Prop where
  nm : Names F A
  ln : A.length ≤ 60
  bd : ∀ y ∈ A, y.2.natAbs < 10 ^ 40
theorem times_c {t : Int} (g : GoodTimes t) : t.natAbs ≤ 10 ^ 30 := by
  obtain ⟨_, a, b⟩ := g
  omega
theorem pileD {F : Fld} {l : List (Str × Int)} (hN : Names F l) (h60 : l.length ≤ 60) (hb : ∀ y ∈ l, y.2.natAbs ≤ 10 ^ 30) : PileD F (XM.act (OF F) l []).reverse := by
  refine ⟨names_rev (names_act hN (fun _ h => nomatch h)), ?_, fun y hy => ?_⟩
  · rw [List.length_reverse]
    exact Nat.le_trans act_len0 h60
  · have := act_bound (F := F) (r := []) (b := 0) hb (fun _ h => nomatch h) y (List.mem_reverse.mp hy)
    have h2 : l.length * 10 ^ 30 ≤ 60 * 10 ^ 30 := Nat.mul_le_mul_right _ h60
    exact Nat.lt_of_le_of_lt this (Nat.lt_of_le_of_lt (by omega) (show 60 * 10 ^ 30 < 10 ^ 40 by decide))
theorem PileD.szA {F : Fld} (ok : F.Ok) {A : List (Str × Int)} (h : PileD F A) : Sz (dSteps A) 540 := (sz_stepsA fun s hs => ⟨ok.sgn _ (h.nm s hs), Nat.lt_trans (h.bd s hs) (by decide)⟩).tup.mono (by have := h.ln; omega)
theorem PileD.szL {F : Fld} {A : List (Str × Int)} (h : PileD F A) : Sz (.int (lenOf A)) 0 := by
  refine sz_int (Nat.lt_of_le_of_lt (len_bound (c := 10 ^ 40) fun y hy => Nat.le_of_lt (h.bd y hy)) ?_)
  have : A.length * 10 ^ 40 ≤ 60 * 10 ^ 40 := Nat.mul_le_mul_right _ h.ln
  exact Nat.lt_of_le_of_lt this (by decide)
theorem frs_mem {F : Fld} : ∀ {l bar : List (Str × Int)} {n : Str}, n ∈ XM.frs (OF F) bar l → ∃ s ∈ l, s.1 = n
  | [], _, _, h => by cases h
  | x :: l, bar, n, h => by
    unfold XM.frs at h
    split at h
    · rcases List.mem_cons.mp h with rfl | h
      · exact ⟨x, List.mem_cons_self, rfl⟩
      · obtain ⟨s, hs, e⟩ := frs_mem h
        exact ⟨s, List.mem_cons_of_mem _ hs, e⟩
    · obtain ⟨s, hs, e⟩ := frs_mem h
      exact ⟨s, List.mem_cons_of_mem _ hs, e⟩
theorem sz_names {F : Fld} (ok : F.Ok) {A : List (Str × Int)} (hn : Names F A) (h60 : A.length ≤ 60) {zs : List Str} (h : SrtOf (XM.frs (OF F) [] A) zs) : Sz (dNames zs) 420 := by
  refine (sz_strsA fun s hs => ?_).tup.mono ?_
  · obtain ⟨x, hx, rfl⟩ := frs_mem (h.1.subset hs)
    exact ok.sgn _ (hn x hx)
  · have e := h.1.length_eq
    have := frs_len (F := F) (l := A) (bar := [])
    omega
theorem deep_dsteps (A : List (Str × Int)) : (dSteps A).depth ≤ 19 := by
  have := deep_steps A
  show PyData.depth (.tuple _) ≤ 19
  rw [PyData.depth]
  omega
theorem deep_strs : ∀ zs : List Str, PyData.depthAll (zs.map .str) ≤ 1
  | [] => by decide
  | z :: zs => by
    have := deep_strs zs
    rw [List.map_cons, PyData.depthAll]
    have e : (PyData.str z).depth = 0 := by simp [PyData.depth]
    omega
theorem deep_dnames (zs : List Str) : (dNames zs).depth ≤ 19 := by
  have := deep_strs zs
  show PyData.depth (.tuple _) ≤ 19
  rw [PyData.depth]
  omega
end XB
set_option Elab.async false
set_option linter.all false
set_option maxRecDepth 100000
set_option maxHeartbeats 8000000
namespace XB
open PySem PySem.Spec PyProof.Rows L2
section
variable {P : Program} {w : World} {K : PySem.W.Frag} {mg : Str → Option Value} {base : Heap}
theorem fg0 {x : Str} {st : Stmt} {N ps : List Str} {k : Nat} {sp : Sp} {fl : Addr} {fd : FuncData} (F : Fun K x x st fl fd) (S : FnScope N ps (defScope st)) (len : ∀ vs H Q E, sp vs H Q E → vs.length = ps.length)
    (body : ∀ (f : Addr) (cdv : Value) (A : Around) (outer : List Env) (s : Shared) (H : Hp) (vs : List V) (Q : VK) (E : XK), (A.deeper (envOfC x (defScope st) s.heap.objs.size f cdv)).guards = some [] → Room k (A.deeper (envOfC x (defScope st) s.heap.objs.size f cdv)) → sp vs H Q E →
      ∃ t, PSs (cxOf CX0 P w K mg base N x (defScope st) f cdv A outer s H E).nox (defBody st) t ∧ t { nx := fun _ H' => Q .non H', rt := Q } (start N vs) H) : FnG P w K mg base CX0 (k + 1) fl fd ps sp := by
  obtain ⟨oc, od, kV, doc, pm, an, cdv, ct, osl, rfl, lk, hcd⟩ := id F.ex
  refine fng_of lk hcd S len fun A outer s H vs Q E hg hr h => ?_
  obtain ⟨t, ht, q⟩ := body fl cdv A outer s H vs Q E hg hr h
  exact ⟨t, ht.nox, q⟩
end
section
variable {X : Cx} {k j : Nat} {x : Str} {sp : Fld → Sp} {p pos : Pos} {e : Expr} {es : List Expr} {t : TA}
/-- a def's promises for each field -/
theorem pe_gF (c : ∀ F, Cg X.prog X.w X.K X.mg X.base CX0 k x (sp F)) (hgu : X.A.guards = some []) (hr : Room j X.A) (hk : k ≤ j) (hg : Gl X x) (ha : PA X (e :: es) t)
    (hdb : (x == ("__debug__" : Str)) = false := by decide) (he : starEach (e :: es) X.env = (false, eval e X.env) :: starEach es X.env := by rfl) (hpl : (backTo pos (starEach es X.env)).any (·.1) = false := by rfl) :
    PE X (.Call (.Name x p) (e :: es) [] pos) (tCall (fun vs H Q E => ∃ F, sp F vs H Q E) [] E0 t) := by
  obtain ⟨f, _, _, _, hm, kp, _⟩ := (c ⟨[], []⟩).ex
  constructor
  intro pins s σ H Q I h
  refine wpAny_Call_Name_kw (ld_glob I hg hm ?_ hdb)
  refine PySem.W.callWith_K (h₀ := X.base) I.ok.mod.kin kp (thn (ha.run pos pins s σ H _ I h) ?_) he hpl
  rintro us s1 ⟨vs, H1, I1, r, G, q⟩
  obtain ⟨f', fd, ps, F, hm', _, b⟩ := (c G).ex
  have ef : f = f' := Value.ref.inj (Option.some.inj (hm.symm.trans hm'))
  subst ef
  have q' : sp G vs H1 Q E0 := by
    rw [List.append_nil] at q
    exact q
  have hl : us.length = ps.length := by
    rw [← r.length]
    exact F.many _ _ _ _ q'
  have bb := b s1 us I1.kIn (by rw [List.append_nil]; exact hl)
  rw [List.append_nil] at bb
  refine ⟨I1.kIn, wpAny_call (codeAny_mono (F.goes (outer := X.stack) (Q := Q) (E := E0) hgu (hr.mono hk) I1.env0 bb r q') ?_)⟩
  rintro (er | fl) s' hq
  · exact hq.elim
  · rcases fl with u | _ | _ | _ <;> first
      | exact I1.after hq
      | exact False.elim hq
end
section
variable {P : Program} {w : World} {K : PySem.W.Frag} {mg : Str → Option Value} {base : Heap}
def spLaw (K : PySem.W.Frag) : Sp := fun vs H Q _ => ∃ (a : Addr) (ns : List Int), vs = [.ref a] ∧ SqL K H a (ns.map V.int) ∧ ns.length ≤ 1000 ∧ ∀ H', Q (.bl true) H'
theorem sp_law_len {vs : List V} {H : Hp} {Q : VK} {E : XK} (h : spLaw K vs H Q E) : vs.length = ["script"].length := by
  obtain ⟨a, ns, rfl, _⟩ := h
  rfl
theorem same_t {H H1 H2 : Hp} (a : Same H H1) (b : Same H1 H2) : Same H H2 := a.trans b
theorem tS {K : PySem.W.Frag} {H H' : Hp} {v : V} {l : List (Str × Int)} (h : Dp K H v (dSteps l)) (s : Same H H') : Dp K H' v (dSteps l) := Dp.tk (Tk.of s) _ (flat_steps l) h
theorem tF {K : PySem.W.Frag} {H H' : Hp} {v : V} {F : Fld} (h : Dp K H v (dField F)) (s : Same H H') : Dp K H' v (dField F) := Dp.tk (Tk.of s) _ (flat_field F) h
theorem tN {K : PySem.W.Frag} {H H' : Hp} {v : V} {l : List Str} (h : Dp K H v (dNames l)) (s : Same H H') : Dp K H' v (dNames l) := Dp.tk (Tk.of s) _ (flat_names l) h
theorem dpN {K : PySem.W.Frag} {H : Hp} {a : Addr} {l : List Str} (h : SqT K H a (l.map V.str)) : Dp K H (.ref a) (dNames l) := .tup h (DpAll.strs l)
end
end XB
set_option Elab.async false
set_option linter.all false
set_option maxRecDepth 100000
set_option maxHeartbeats 4000000
namespace XB
open PySem PySem.Spec PyProof.Rows L2
theorem sh_dsteps {l : List (Str × Int)} (h : ∀ s ∈ l, GoodName s.1) : SeqAt.shaped (dSteps l) = true := by
  have h2 := deep_steps l
  show (PyData.canLayAll0 (l.map dStep) && decide (PyData.depthAll (l.map dStep) + 1 ≤ 64)) = true
  rw [lay_steps h, Bool.true_and]
  exact decide_eq_true (by omega)
theorem eqv_step (s t : Str × Int) : PyData.eqv (dStep s) (dStep t) = decide (s = t) := by
  obtain ⟨a, i⟩ := s
  obtain ⟨b, j⟩ := t
  show (PyData.eqv (.str a) (.str b) && (PyData.eqv (.int i) (.int j) && true)) = _
  rw [Bool.and_true]
  show ((a == b) && (i == j)) = _
  by_cases h1 : a = b
  · by_cases h2 : i = j
    · simp [h1, h2]
    · simp [h2]
  · simp [h1]
theorem eqv_all_steps : ∀ l m : List (Str × Int), PyData.eqvAll (l.map dStep) (m.map dStep) = decide (l = m)
  | [], [] => rfl
  | [], b :: m => rfl
  | a :: l, [] => rfl
  | a :: l, b :: m => by
    rw [List.map_cons, List.map_cons, PyData.eqvAll, eqv_step, eqv_all_steps l m]
    by_cases h1 : a = b
    · by_cases h2 : l = m
      · simp [h1, h2]
      · simp [h2]
    · simp [h1]
theorem eqv_steps (l m : List (Str × Int)) : PyData.eqv (dSteps l) (dSteps m) = decide (l = m) := by
  show PyData.eqv (.tuple (l.map dStep)) (.tuple (m.map dStep)) = _
  rw [PyData.eqv]
  exact eqv_all_steps l m
theorem good_pile {F : Fld} (ok : F.Ok) {l : List (Str × Int)} (hN : Names F l) : ∀ s ∈ (XM.act (OF F) l []).reverse, GoodName s.1 := fun s hs => ok.sgn _ (names_act (r := []) hN (fun _ h => (nomatch h)) s (List.mem_reverse.mp hs))
/-- a row of a yard, and the yard -/
def GoodAll (F : Fld) (l : List (Str × Int)) : Prop := ∀ x ∈ l, x.1 ∈ F.names ∧ GoodTimes x.2
theorem GoodAll.nz {F : Fld} {l : List (Str × Int)} (h : GoodAll F l) : XM.NZ l := fun x hx => (h x hx).2.1
theorem GoodAll.names {F : Fld} {l : List (Str × Int)} (h : GoodAll F l) : Names F l := fun x hx => (h x hx).1
theorem GoodAll.app {F : Fld} {l m : List (Str × Int)} (h : GoodAll F l) (g : GoodAll F m) : GoodAll F (l ++ m) := fun x hx => (List.mem_append.mp hx).elim (h x) (g x)
theorem GoodAll.take {F : Fld} {l : List (Str × Int)} (h : GoodAll F l) (k : Nat) : GoodAll F (l.take k) := fun x hx => h x (List.mem_of_mem_take hx)
theorem GoodAll.drop {F : Fld} {l : List (Str × Int)} (h : GoodAll F l) (k : Nat) : GoodAll F (l.drop k) := fun x hx => h x (List.mem_of_mem_drop hx)
theorem GoodAll.one {F : Fld} {x : Str × Int} (h : x.1 ∈ F.names ∧ GoodTimes x.2) : GoodAll F [x] := fun y hy => by
  rw [List.mem_singleton.mp hy]
  exact h
/-- the same to every pile -/
theorem good_neg {t : Int} (h : GoodTimes t) : GoodTimes (-t) := by
  obtain ⟨a, b, c⟩ := h
  exact ⟨by omega, by omega, by omega⟩
theorem good_back {F : Fld} {l : List (Str × Int)} (h : GoodAll F l) : GoodAll F (XM.back l) := fun s hs => by
  unfold XM.back at hs
  obtain ⟨x, hx, rfl⟩ := List.mem_map.mp (List.mem_reverse.mp hs)
  exact ⟨(h x hx).1, good_neg (h x hx).2⟩
theorem len_back {l : List (Str × Int)} : (XM.back l).length = l.length := by
  unfold XM.back
  rw [List.length_reverse, List.length_map]
section
variable {K : PySem.W.Frag}
theorem slTo {H : Hp} {a : Addr} {l : List (Str × Int)} {k : Nat} {Q : VK} (h : Dp K H (.ref a) (dSteps l)) (q : ∀ H' p, Same H H' → Dp K H' (.ref p) (dSteps (l.take k)) → Q (.ref p) H') : rSlA K (.ref a) none (some (k : Int)) H Q := by
  obtain ⟨_, xs, e, hS, hV⟩ := h.steps
  cases e
  have hl := hV.len
  rw [List.length_map] at hl
  have e2 : HT.sIx xs.length xs.length (some (k : Int)) = min k xs.length := HT.sIx_nat xs.length xs.length k
  refine ⟨a, xs, rfl, hS, fun hw => ?_, fun _ p hp => ?_⟩
  · rw [e2] at hw
    have : l.take k = l := List.take_of_length_le (by omega)
    refine q _ _ (Same.refl _) ?_
    rw [this]
    exact h
  · refine q _ p (same_upd hp) (.tup (SqT.of upd_same) ?_)
    rw [cut_init, List.map_take]
    exact (DpAll.tk (Tk.of (same_upd hp)) _ (flat_all_steps l) hV).take k
theorem slFrom {H : Hp} {a : Addr} {l : List (Str × Int)} {k : Nat} {Q : VK} (h : Dp K H (.ref a) (dSteps l)) (q : ∀ H' p, Same H H' → Dp K H' (.ref p) (dSteps (l.drop k)) → Q (.ref p) H') : rSlA K (.ref a) (some (k : Int)) none H Q := by
  obtain ⟨_, xs, e, hS, hV⟩ := h.steps
  cases e
  have hl := hV.len
  rw [List.length_map] at hl
  have e2 : HT.sIx xs.length 0 (some (k : Int)) = min k xs.length := HT.sIx_nat xs.length 0 k
  refine ⟨a, xs, rfl, hS, fun hw => ?_, fun _ p hp => ?_⟩
  · rw [e2] at hw
    refine q _ _ (Same.refl _) ?_
    rcases Nat.eq_zero_or_pos k with h0 | h0
    · rw [h0, List.drop_zero]
      exact h
    · have : l = [] := List.length_eq_zero_iff.mp (by omega)
      rw [this] at h ⊢
      rw [List.drop_nil]
      exact h
  · refine q _ p (same_upd hp) (.tup (SqT.of upd_same) ?_)
    rw [cut_from, List.map_drop]
    exact (DpAll.tk (Tk.of (same_upd hp)) _ (flat_all_steps l) hV).drop k
theorem catD {H : Hp} {a b : Addr} {l m : List (Str × Int)} {Q : VK} (h1 : Dp K H (.ref a) (dSteps l)) (h2 : Dp K H (.ref b) (dSteps m)) (hl : l.length + m.length ≤ 500) (q : ∀ H' p, Same H H' → Dp K H' (.ref p) (dSteps (l ++ m)) → Q (.ref p) H') : rCatA K (.ref a) (.ref b) H Q := by
  obtain ⟨_, xs, e, hS, hV⟩ := h1.steps
  cases e
  obtain ⟨_, ys, e, hS2, hV2⟩ := h2.steps
  cases e
  have l1 := hV.len
  have l2 := hV2.len
  rw [List.length_map] at l1 l2
  refine catA hS hS2 (Nat.le_of_lt (small1000 (by omega))) fun H' p s h => q H' p s (.tup h ?_)
  rw [List.map_append]
  exact (DpAll.tk (Tk.of s) _ (flat_all_steps l) hV).app (DpAll.tk (Tk.of s) _ (flat_all_steps m) hV2)
end
section
variable {P : Program} {w : World} {K : PySem.W.Frag} {mg : Str → Option Value} {base : Heap}
def FS2 (K : PySem.W.Frag) (F : Fld) (l m : List (Str × Int)) (vs : List V) (H : Hp) : Prop := ∃ (a d e : Addr), vs = [.ref a, .ref d, .ref e] ∧ Dp K H (.ref a) (dField F) ∧ F.Ok ∧ Dp K H (.ref d) (dSteps l) ∧ GoodScript F l ∧ Dp K H (.ref e) (dSteps m) ∧ GoodScript F m
def spAreAlike (K : PySem.W.Frag) (F : Fld) : Sp := fun vs H Q _ => ∃ l m, FS2 K F l m vs H ∧ ∀ H', Same H H' → Q (.bl (decide (XM.act (OF F) l [] = XM.act (OF F) m []))) H'
theorem c_are_alike (T : Tx K mg) (F : Fld) : Cl P w K mg base CX0 7 "are_alike" (spAreAlike K F) := by
  refine cl0 T.d_are_alike (ps := ["field", "one", "other"]) (fun _ _ _ _ _ _ us hl => match us, hl with | [_, _, _], _ => rfl) sc_are_alike (fun vs H Q E h => ?_) (fun fa cdv A outer st H vs Q E hr h => ?_)
  · obtain ⟨l, m, ⟨a, d, e, rfl, _⟩, _⟩ := h
    rfl
  · obtain ⟨l, m, ⟨a, d, e, rfl, hF, ok, hL, hG, hM, hG'⟩, q⟩ := h
    refine ⟨_, (pss_one (ps_ret (pe_cmpR (op_eqD hr.units) (pe_k (c_least_pile T F) hr (by decide) (by rfl) (pa_cons (pv 0) (pa_cons (pv 1) pa_nil))) (pe_k (c_least_pile T F) hr (by decide) (by rfl) (pa_cons (pv 0) (pa_cons (pv 2) pa_nil))) (nomark _)))), ?_⟩
    refine ⟨_, rfl, _, rfl, l, ⟨a, d, rfl, hF, ok, hL, hG⟩, fun H1 r1 s1 h1 => ?_⟩
    refine ⟨_, rfl, _, rfl, m, ⟨a, e, rfl, tF hF s1, ok, tS hM s1, hG'⟩, fun H2 r2 s2 h2 => ?_⟩
    refine ⟨_, _, tS h1 s2, h2, sh_dsteps (good_pile ok hG.names), sh_dsteps (good_pile ok hG'.names), ?_⟩
    rw [eqv_steps]
    have e : decide ((XM.act (OF F) l []).reverse = (XM.act (OF F) m []).reverse) = decide (XM.act (OF F) l [] = XM.act (OF F) m []) := decide_eq_decide.mpr List.reverse_inj
    rw [e]
    exact q _ (s1.trans s2)
end
end XB
set_option linter.all false
/-! cores: weights of rows, powers of rows, round piles that are turns of one another -/
namespace XM
section
variable {α : Type} [DecidableEq α] {O : Ord α}
/-- a weight of pieces, and which pairs of pieces may come together so that it adds -/
structure Wt (α : Type) where
  w : α → Int → Nat
  g : α → Int → Int → Prop
  nz : ∀ a s t, g a s t → s + t ≠ 0
  add : ∀ a s t, g a s t → w a (s + t) = w a s + w a t
  left : ∀ a s t r, g a s t → g a t r → g a (s + t) r
  right : ∀ a s t r, g a s t → g a r s → g a r (s + t)
  le : ∀ a s t, w a (s + t) ≤ w a s + w a t
variable {W : Wt α}
def Wt.sum (W : Wt α) : Row α → Nat
  | [] => 0
  | y :: r => W.w y.1 y.2 + W.sum r
theorem Wt.sum_app {l m : Row α} : W.sum (l ++ m) = W.sum l + W.sum m := by
  induction l with
  | nil => simp [Wt.sum]
  | cons x l ih =>
    rw [List.cons_append, Wt.sum, Wt.sum, ih]
    omega
theorem Wt.sum_rev {l : Row α} : W.sum l.reverse = W.sum l := by
  induction l with
  | nil => rfl
  | cons x l ih =>
    rw [List.reverse_cons, Wt.sum_app, ih, Wt.sum, Wt.sum, Wt.sum]
    omega
theorem Wt.sum_ins {x : α × Int} : ∀ {r : Row α}, W.sum (ins O x r) ≤ W.w x.1 x.2 + W.sum r
  | [] => Nat.le_refl _
  | y :: r => by
    have ih := Wt.sum_ins (x := x) (r := r)
    have hl := W.le x.1 y.2 x.2
    unfold ins
    split
    · rename_i e
      split
      · simp only [Wt.sum]
        omega
      · simp only [Wt.sum]
        rw [e]
        omega
    · split
      · exact Nat.le_refl _
      · split
        · exact Nat.le_refl _
        · simp only [Wt.sum]
          omega
theorem Wt.sum_act : ∀ {l r : Row α}, W.sum (act O l r) ≤ W.sum l + W.sum r
  | [], r => by simp [act, Wt.sum]
  | x :: l, r => by
    have h1 := Wt.sum_act (l := l) (r := ins O x r)
    have h2 := Wt.sum_ins (W := W) (O := O) (x := x) (r := r)
    rw [act_cons]
    simp only [Wt.sum]
    omega
theorem Wt.ins_eq {x : α × Int} : ∀ {r : Row α}, (ins O x r).length = r.length + 1 → W.sum (ins O x r) = W.w x.1 x.2 + W.sum r
  | [], _ => rfl
  | y :: r, h => by
    unfold ins at h ⊢
    by_cases e : y.1 = x.1
    · rw [if_pos e] at h
      by_cases h0 : y.2 + x.2 = 0
      · rw [if_pos h0] at h
        simp only [List.length_cons] at h
        omega
      · rw [if_neg h0] at h
        simp only [List.length_cons] at h
        omega
    · rw [if_neg e] at h ⊢
      by_cases ht : O.tc y.1 x.1 = true
      · rw [if_pos ht] at h ⊢
        rfl
      · rw [if_neg ht] at h ⊢
        by_cases hc : (O.lt y.1 x.1 && top O x.1 r) = true
        · rw [if_pos hc]
          rfl
        · rw [if_neg hc] at h ⊢
          have ih := Wt.ins_eq (x := x) (r := r) (by simpa using h)
          simp only [Wt.sum]
          omega
theorem Wt.act_eq : ∀ {l r : Row α}, (act O l r).length = l.length + r.length → W.sum (act O l r) = W.sum l + W.sum r
  | [], r, _ => by simp [act, Wt.sum]
  | x :: l, r, h => by
    have h1 := act_len (O := O) (l := l) (r := ins O x r)
    have h2 := ins_len (O := O) (x := x) (r := r)
    rw [act_cons] at h ⊢
    simp only [List.length_cons] at h
    have i1 := Wt.act_eq (l := l) (r := ins O x r) (by omega)
    have i2 := Wt.ins_eq (W := W) (O := O) (x := x) (r := r) (by omega)
    simp only [Wt.sum]
    omega
/-- the times of the piece of a name that is met from the left -/
def nearS (O : Ord α) (a : α) : Row α → Option Int
  | [] => none
  | y :: r => if y.1 = a then some y.2 else if O.tc y.1 a then none else nearS O a r
theorem nearS_none {a : α} : ∀ {r : Row α}, nearS O a r = none ↔ near O a r = none
  | [] => ⟨fun _ => rfl, fun _ => rfl⟩
  | y :: r => by
    unfold nearS near
    split
    · simp
    · split
      · simp
      · rw [Option.map_eq_none_iff]
        exact nearS_none
theorem nearS_apart {a : α} : ∀ {m v : Row α}, (∀ y ∈ m, O.tc y.1 a = false) → nearS O a (m ++ v) = nearS O a v
  | [], _, _ => rfl
  | y :: m, v, h => by
    have hy := h y List.mem_cons_self
    rw [List.cons_append, nearS, if_neg (ne_of_apart hy), if_neg (by rw [hy]; decide)]
    exact nearS_apart fun z hz => h z (List.mem_cons_of_mem _ hz)
/-- something is met on the way -/
theorem nearS_hit {a : α} : ∀ {m v : Row α}, (∃ y ∈ m, O.tc y.1 a = true) → nearS O a (m ++ v) = nearS O a m
  | [], _, h => by
    obtain ⟨y, hy, _⟩ := h
    cases hy
  | y :: m, v, h => by
    rw [List.cons_append, nearS, nearS]
    by_cases e : y.1 = a
    · rw [if_pos e, if_pos e]
    · rw [if_neg e, if_neg e]
      by_cases ht : O.tc y.1 a = true
      · rw [if_pos ht, if_pos ht]
      · rw [if_neg ht, if_neg ht]
        obtain ⟨z, hz, hh⟩ := h
        rcases List.mem_cons.mp hz with q | hz
        · rw [q] at hh
          exact absurd hh ht
        · exact nearS_hit ⟨z, hz, hh⟩
/-- pairs that can come together are let -/
def NC (O : Ord α) (W : Wt α) : Row α → Prop
  | [] => True
  | x :: l => (∀ t, nearS O x.1 l = some t → W.g x.1 x.2 t) ∧ NC O W l
theorem nc_pl : ∀ {l : Row α}, pl O l = true → NC O W l
  | [], _ => True.intro
  | x :: l, h => by
    unfold pl at h
    rw [Bool.and_eq_true] at h
    refine ⟨fun t e => ?_, nc_pl h.2⟩
    have : nearS O x.1 l = none := nearS_none.mpr (Option.isNone_iff_eq_none.mp h.1)
    rw [this] at e
    cases e
theorem near_join {a b : α} {s t : Int} {m v : Row α} (hm : ∀ y ∈ m, O.tc y.1 a = false) (hb : b ≠ a) : ∀ {u : Row α}, nearS O b (u ++ (a, s + t) :: (m ++ v)) = nearS O b (u ++ (a, s) :: (m ++ (a, t) :: v))
  | [] => by
    have hb' : ¬ a = b := fun e => hb e.symm
    show (if a = b then some (s + t) else if O.tc a b = true then none else nearS O b (m ++ v)) = (if a = b then some s else if O.tc a b = true then none else nearS O b (m ++ (a, t) :: v))
    rw [if_neg hb', if_neg hb']
    by_cases ht : O.tc a b = true
    · rw [if_pos ht, if_pos ht]
    · rw [if_neg ht, if_neg ht]
      by_cases hh : ∃ y ∈ m, O.tc y.1 b = true
      · rw [nearS_hit hh, nearS_hit hh]
      · have hn : ∀ y ∈ m, O.tc y.1 b = false := fun y hy => by
          cases e : O.tc y.1 b
          · rfl
          · exact absurd ⟨y, hy, e⟩ hh
        rw [nearS_apart hn, nearS_apart hn]
        show _ = (if a = b then some t else if O.tc a b = true then none else nearS O b v)
        rw [if_neg hb', if_neg ht]
  | y :: u => by
    rw [List.cons_append, List.cons_append, nearS, nearS, near_join hm hb]
theorem near_joinA {a : α} {s t : Int} {m v : Row α} : ∀ {u : Row α}, (nearS O a (u ++ (a, s) :: (m ++ (a, t) :: v)) = some s ∧ nearS O a (u ++ (a, s + t) :: (m ++ v)) = some (s + t)) ∨ nearS O a (u ++ (a, s) :: (m ++ (a, t) :: v)) = nearS O a (u ++ (a, s + t) :: (m ++ v))
  | [] => .inl ⟨by rw [List.nil_append, nearS, if_pos rfl], by rw [List.nil_append, nearS, if_pos rfl]⟩
  | y :: u => by
    rw [List.cons_append, List.cons_append, nearS, nearS]
    by_cases e : y.1 = a
    · rw [if_pos e, if_pos e]
      exact .inr rfl
    · rw [if_neg e, if_neg e]
      by_cases ht : O.tc y.1 a = true
      · rw [if_pos ht, if_pos ht]
        exact .inr rfl
      · rw [if_neg ht, if_neg ht]
        exact near_joinA
theorem nc_join0 {a : α} {t : Int} {v : Row α} : ∀ {m : Row α}, (∀ y ∈ m, O.tc y.1 a = false) → NC O W (m ++ (a, t) :: v) → NC O W (m ++ v) ∧ ∀ r, nearS O a v = some r → W.g a t r
  | [], _, h => ⟨h.2, h.1⟩
  | y :: m, hm, h => by
    have hy := hm y List.mem_cons_self
    have ih := nc_join0 (fun z hz => hm z (List.mem_cons_of_mem _ hz)) h.2
    refine ⟨⟨fun r e => h.1 r ?_, ih.1⟩, ih.2⟩
    rw [← e]
    show nearS O y.1 (m ++ (a, t) :: v) = nearS O y.1 (m ++ v)
    by_cases hh : ∃ z ∈ m, O.tc z.1 y.1 = true
    · rw [nearS_hit hh, nearS_hit hh]
    · have hn : ∀ z ∈ m, O.tc z.1 y.1 = false := fun z hz => by
        cases q : O.tc z.1 y.1
        · rfl
        · exact absurd ⟨z, hz, q⟩ hh
      have : O.tc a y.1 = false := apart_symm hy
      rw [nearS_apart hn, nearS_apart hn, nearS, if_neg (ne_of_apart this), if_neg (by rw [this]; decide)]
theorem nc_join {a : α} {s t : Int} {m v : Row α} (hm : ∀ y ∈ m, O.tc y.1 a = false) : ∀ {u : Row α}, NC O W (u ++ (a, s) :: (m ++ (a, t) :: v)) → NC O W (u ++ (a, s + t) :: (m ++ v)) ∧ W.g a s t
  | [], h => by
    have hst : W.g a s t := h.1 t (by
      show nearS O a (m ++ (a, t) :: v) = some t
      rw [nearS_apart hm, nearS, if_pos rfl])
    obtain ⟨h1, h2⟩ := nc_join0 hm h.2
    refine ⟨⟨fun r e => W.left a s t r hst (h2 r ?_), h1⟩, hst⟩
    have e : nearS O a (m ++ v) = some r := e
    rwa [nearS_apart hm] at e
  | y :: u, h => by
    obtain ⟨h1, h2⟩ := nc_join hm h.2
    refine ⟨⟨fun r e => ?_, h1⟩, h2⟩
    have e : nearS O y.1 (u ++ (a, s + t) :: (m ++ v)) = some r := e
    have h0 : ∀ r, nearS O y.1 (u ++ (a, s) :: (m ++ (a, t) :: v)) = some r → W.g y.1 y.2 r := h.1
    by_cases hb : y.1 = a
    · rw [hb] at e h0 ⊢
      rcases near_joinA (O := O) (a := a) (s := s) (t := t) (m := m) (v := v) (u := u) with ⟨q1, q2⟩ | q
      · rw [q2] at e
        cases e
        exact W.right a s t y.2 h2 (h0 s q1)
      · exact h0 r (q.trans e)
    · rw [near_join hm hb] at e
      exact h0 r e
/-- where all that comes together is let, the weight stays -/
theorem Wt.sum_nc : ∀ (n : Nat) (l : Row α), l.length = n → NZ l → NC O W l → W.sum (act O l []) = W.sum l := by
  intro n
  induction n using Nat.strongRecOn with
  | _ n ih =>
    intro l hl hz hn
    cases hm : met O l with
    | none =>
      have e := (pile_iff hz).mpr hm
      have := Wt.act_eq (W := W) (O := O) (l := l) (r := []) (by rw [e]; simp)
      simpa [Wt.sum] using this
    | some ij =>
      obtain ⟨u, a, s, m, t, v, rfl, _, _, h5⟩ := met_some hm
      have hs : s ≠ 0 := hz (a, s) (by simp)
      have ht : t ≠ 0 := hz (a, t) (by simp)
      obtain ⟨g1, g2⟩ := nc_join h5 hn
      have n0 := W.nz a s t g2
      rw [act_meet h5 hs ht hz.left (fun w hw => hz w (by simp [hw])) (show NF O [] from True.intro), if_neg n0]
      have z2 : NZ (u ++ (a, s + t) :: (m ++ v)) := fun x hx => by
        rcases List.mem_append.mp hx with h | h
        · exact hz x (by simp [h])
        · rcases List.mem_cons.mp h with h | h
          · rw [h]
            exact n0
          · rcases List.mem_append.mp h with h | h <;> exact hz x (by simp [h])
      rw [show u ++ ([(a, s + t)] ++ (m ++ v)) = u ++ (a, s + t) :: (m ++ v) from rfl, ih _ (by rw [← hl]; simp) _ rfl z2 g1]
      simp only [Wt.sum_app, Wt.sum]
      rw [W.add a s t g2]
      omega
/-! ### rows so many times -/
def rep (n : Nat) (l : Row α) : Row α := (List.replicate n l).flatten
theorem rep_zero {l : Row α} : rep 0 l = [] := rfl
theorem rep_succ {n : Nat} {l : Row α} : rep (n + 1) l = l ++ rep n l := by
  unfold rep
  rw [List.replicate_succ, List.flatten_cons]
theorem nz_rep {l : Row α} (h : NZ l) : ∀ n : Nat, NZ (rep n l)
  | 0 => fun _ hx => nomatch hx
  | n + 1 => by
    rw [rep_succ]
    exact h.app (nz_rep h n)
theorem Wt.sum_rep {l : Row α} : ∀ n : Nat, W.sum (rep n l) = n * W.sum l
  | 0 => by simp [rep, Wt.sum]
  | n + 1 => by
    rw [rep_succ, Wt.sum_app, Wt.sum_rep n, Nat.succ_mul, Nat.add_comm]
/-- rows that are alike stay so, so many times -/
theorem act_same {l m q : Row α} (zl : NZ l) (zm : NZ m) (h : act O l [] = act O m []) (hq : NF O q) : act O l q = act O m q := by
  rw [← act_self zl hq, h, act_self zm hq]
theorem act_rep {l m : Row α} (zl : NZ l) (zm : NZ m) (h : act O l [] = act O m []) : ∀ (n : Nat) {q : Row α}, NF O q → act O (rep n l) q = act O (rep n m) q
  | 0, q, _ => rfl
  | n + 1, q, hq => by
    rw [rep_succ, rep_succ, act_app, act_app, act_same zl zm h hq]
    exact act_rep zl zm h n (nf_act zm hq)
theorem act_conj {x u : Row α} (zx : NZ x) (zu : NZ u) : ∀ (n : Nat) {q : Row α}, NF O q → act O (rep n (x ++ (u ++ back x))) q = act O (x ++ (rep n u ++ back x)) q
  | 0, q, hq => by
    rw [rep_zero, rep_zero, act_nil, List.nil_append, act_app, act_back zx hq]
  | n + 1, q, hq => by
    have hc : NZ (x ++ (u ++ back x)) := zx.app (zu.app (back_nz zx))
    rw [rep_succ, act_app, act_conj zx zu n (nf_act hc hq), rep_succ]
    simp only [act_app]
    have h1 := nf_act zu (nf_act zx hq)
    have := act_back (O := O) (l := back x) (back_nz zx) h1
    rw [back_back] at this
    rw [this]
theorem Wt.sum_back {l : Row α} (hw : ∀ a t, W.w a (-t) = W.w a t) : W.sum (back l) = W.sum l := by
  unfold back
  rw [Wt.sum_rev]
  induction l with
  | nil => rfl
  | cons x l ih =>
    rw [List.map_cons, Wt.sum, Wt.sum, ih, hw]
/-- if all powers of a row keep its weight, a row that it is a turn of has no less -/
theorem weight_le {u v x y : Row α} (hw : ∀ a t, W.w a (-t) = W.w a t) (zx : NZ x) (zy : NZ y) (zu : NZ u) (zv : NZ v) (hp : ∀ n, W.sum (act O (rep n u) []) = n * W.sum u)
    (h : act O (x ++ (u ++ back x)) [] = act O (y ++ (v ++ back y)) []) : W.sum u ≤ W.sum v := by
  have n0 : NF O ([] : Row α) := True.intro
  have key : ∀ n, n * W.sum u ≤ n * W.sum v + (2 * W.sum x + 2 * W.sum y) := by
    intro n
    have e := act_rep (O := O) (zx.app (zu.app (back_nz zx))) (zy.app (zv.app (back_nz zy))) h n n0
    rw [act_conj zx zu n n0, act_conj zy zv n n0] at e
    have zr := nz_rep zu n
    -- the power of u, by what stands around it taken back
    have e2 : act O (rep n u) [] = act O (back x ++ ((act O (x ++ (rep n u ++ back x)) []).reverse ++ x)) [] := by
      have zc : NZ (x ++ (rep n u ++ back x)) := zx.app (zr.app (back_nz zx))
      have hb := nf_act (O := O) (back_nz zx) n0
      rw [act_app, act_app, act_self zc hb, act_app, act_app]
      have i1 := act_back (O := O) (l := back x) (r := []) (back_nz zx) n0
      rw [back_back] at i1
      rw [i1]
      have i2 := act_back (O := O) (l := back x) (r := act O (rep n u) []) (back_nz zx) (nf_act zr n0)
      rw [back_back] at i2
      exact i2.symm
    have b1 := hp n
    rw [e2, e] at b1
    have b2 := Wt.sum_act (W := W) (O := O) (l := back x ++ ((act O (y ++ (rep n v ++ back y)) []).reverse ++ x)) (r := [])
    have b3 := Wt.sum_act (W := W) (O := O) (l := y ++ (rep n v ++ back y)) (r := [])
    simp only [Wt.sum_app, Wt.sum_rev, Wt.sum_back hw, Wt.sum_rep, Wt.sum] at b2 b3
    omega
  rcases Nat.lt_or_ge (W.sum v) (W.sum u) with hl | hl
  · exfalso
    have k := key (2 * W.sum x + 2 * W.sum y + 1)
    have : (2 * W.sum x + 2 * W.sum y + 1) * (W.sum v + 1) ≤ (2 * W.sum x + 2 * W.sum y + 1) * W.sum u := Nat.mul_le_mul_left _ hl
    rw [Nat.mul_add, Nat.mul_one] at this
    omega
  · exact hl
/-! ### round piles -/
/-- no name has two pieces, one of which can stand first, and the other one last -/
structure Rnd (O : Ord α) (u : Row α) : Prop where
  pl : pl O u = true
  one : ∀ p x l, u = p ++ x :: l → (∀ w ∈ l, O.tc w.1 x.1 = false) → (nearS O x.1 u).isSome = true → ∀ w ∈ p, O.tc w.1 x.1 = false
theorem nc_rep {u : Row α} (hp : pl O u = true) (hR : ∀ p x l, u = p ++ x :: l → (∀ w ∈ l, O.tc w.1 x.1 = false) → ∀ t, nearS O x.1 u = some t → W.g x.1 x.2 t) : ∀ n : Nat, NC O W (rep n u)
  | 0 => True.intro
  | n + 1 => by
    have ih := nc_rep hp hR n
    rw [rep_succ]
    have suf : ∀ (l p : Row α), u = p ++ l → NC O W (l ++ rep n u) := by
      intro l
      induction l with
      | nil => exact fun p _ => ih
      | cons x l il =>
        intro p e
        refine ⟨fun t ht => ?_, il (p ++ [x]) (by rw [e]; simp)⟩
        have ht : nearS O x.1 (l ++ rep n u) = some t := ht
        by_cases hh : ∃ y ∈ l, O.tc y.1 x.1 = true
        · rw [nearS_hit hh] at ht
          have h2 : pl O (x :: l) = true := pl_right (u := p) (by rw [← e]; exact hp)
          unfold XM.pl at h2
          rw [Bool.and_eq_true] at h2
          have := nearS_none.mpr (Option.isNone_iff_eq_none.mp h2.1)
          rw [this] at ht
          cases ht
        · have hn : ∀ y ∈ l, O.tc y.1 x.1 = false := fun y hy => by
            cases q : O.tc y.1 x.1
            · rfl
            · exact absurd ⟨y, hy, q⟩ hh
          rw [nearS_apart hn] at ht
          cases n with
          | zero => cases ht
          | succ n =>
            rw [rep_succ, nearS_hit ⟨x, by rw [e]; simp, O.refl _⟩] at ht
            exact hR p x l e hn t ht
    exact suf u [] rfl
theorem sum_pow {u : Row α} (hz : NZ u) (hp : pl O u = true) (hR : ∀ p x l, u = p ++ x :: l → (∀ w ∈ l, O.tc w.1 x.1 = false) → ∀ t, nearS O x.1 u = some t → W.g x.1 x.2 t) (n : Nat) : W.sum (act O (rep n u) []) = n * W.sum u := by
  rw [Wt.sum_nc _ _ rfl (nz_rep hz n) (nc_rep hp hR n), Wt.sum_rep]
theorem rnd_same {u p l : Row α} {x : α × Int} {t : Int} (h : Rnd O u) (e : u = p ++ x :: l) (hl : ∀ w ∈ l, O.tc w.1 x.1 = false) (ht : nearS O x.1 u = some t) : t = x.2 ∧ ∀ w ∈ p, O.tc w.1 x.1 = false := by
  have hp := h.one p x l e hl (by rw [ht]; rfl)
  refine ⟨?_, hp⟩
  rw [e, nearS_apart hp, nearS, if_pos rfl] at ht
  exact (Option.some.inj ht).symm
theorem sq_pos {t : Int} (h : t ≠ 0) : 0 < t * t := by
  rcases Int.lt_or_gt_of_ne h with h | h
  · exact Int.mul_pos_of_neg_of_neg h h
  · exact Int.mul_pos h h
/-- of one sign -/
def Sg (s t : Int) : Prop := (0 < s ∧ 0 < t) ∨ (s < 0 ∧ t < 0)
/-- how many deeds of the names that are asked for there are -/
def WL (P : α → Bool) : Wt α where
  w := fun a t => if P a = true then t.natAbs else 0
  g := fun _ s t => Sg s t
  nz := fun _ s t h => by rcases h with h | h <;> omega
  add := fun a s t h => by
    split
    · rcases h with h | h <;> omega
    · rfl
  left := fun _ s t r h k => by
    rcases h with h | h <;> rcases k with k | k <;> first | (exact .inl ⟨by omega, by omega⟩) | (exact .inr ⟨by omega, by omega⟩) | (exfalso; omega)
  right := fun _ s t r h k => by
    rcases h with h | h <;> rcases k with k | k <;> first | (exact .inl ⟨by omega, by omega⟩) | (exact .inr ⟨by omega, by omega⟩) | (exfalso; omega)
  le := fun a s t => by split <;> omega
/-- how many pieces of a name there are -/
def WP (b : α) : Wt α where
  w := fun a _ => if a = b then 1 else 0
  g := fun a s t => Sg s t ∧ a ≠ b
  nz := fun _ s t h => by rcases h.1 with h | h <;> omega
  add := fun a s t h => by rw [if_neg h.2]
  left := fun _ s t r h k => ⟨by
    obtain ⟨h, _⟩ := h
    obtain ⟨k, _⟩ := k
    rcases h with h | h <;> rcases k with k | k <;> first | (exact .inl ⟨by omega, by omega⟩) | (exact .inr ⟨by omega, by omega⟩) | (exfalso; omega), h.2⟩
  right := fun _ s t r h k => ⟨by
    obtain ⟨h, _⟩ := h
    obtain ⟨k, _⟩ := k
    rcases h with h | h <;> rcases k with k | k <;> first | (exact .inl ⟨by omega, by omega⟩) | (exact .inr ⟨by omega, by omega⟩) | (exfalso; omega), h.2⟩
  le := fun a s t => by split <;> omega
/-- two rows that are turns of one another, steps ahead of each -/
def Turn (O : Ord α) (u v : Row α) : Prop := ∃ x y, NZ x ∧ NZ y ∧ act O (x ++ (u ++ back x)) [] = act O (y ++ (v ++ back y)) []
theorem Turn.symm {u v : Row α} (h : Turn O u v) : Turn O v u := by
  obtain ⟨x, y, zx, zy, e⟩ := h
  exact ⟨y, x, zy, zx, e.symm⟩
theorem turn_len {u v : Row α} (P : α → Bool) (hu : Rnd O u) (zu : NZ u) (zv : NZ v) (h : Turn O u v) : (WL P).sum u ≤ (WL P).sum v := by
  obtain ⟨x, y, zx, zy, e⟩ := h
  refine weight_le (fun a t => ?_) zx zy zu zv (sum_pow zu hu.pl fun p x l e hl t ht => ?_) e
  · show (if P a = true then (-t).natAbs else 0) = (if P a = true then t.natAbs else 0)
    rw [Int.natAbs_neg]
  · obtain ⟨e1, _⟩ := rnd_same hu e hl ht
    have : x.2 ≠ 0 := zu x (by rw [e]; simp)
    show Sg x.2 t
    rw [e1]
    rcases Int.lt_or_gt_of_ne this with q | q
    · exact .inr ⟨q, q⟩
    · exact .inl ⟨q, q⟩
theorem wp_none {b : α} : ∀ {l : Row α}, (∀ w ∈ l, O.tc w.1 b = false) → (WP b).sum l = 0
  | [], _ => rfl
  | y :: l, h => by
    have hy := ne_of_apart (h y List.mem_cons_self)
    show (if y.1 = b then 1 else 0) + (WP b).sum l = 0
    rw [if_neg hy, wp_none fun w hw => h w (List.mem_cons_of_mem _ hw)]
theorem turn_pc {u v : Row α} (b : α) (hu : Rnd O u) (zu : NZ u) (zv : NZ v) (h : Turn O u v) : (WP b).sum u ≤ (WP b).sum v := by
  by_cases h2 : 2 ≤ (WP b).sum u
  · obtain ⟨x, y, zx, zy, e⟩ := h
    refine weight_le (fun a t => rfl) zx zy zu zv (sum_pow zu hu.pl fun p x l e hl t ht => ?_) e
    obtain ⟨e1, hp⟩ := rnd_same hu e hl ht
    have hx : x.2 ≠ 0 := zu x (by rw [e]; simp)
    refine ⟨?_, fun eb => ?_⟩
    · rw [e1]
      rcases Int.lt_or_gt_of_ne hx with q | q
      · exact .inr ⟨q, q⟩
      · exact .inl ⟨q, q⟩
    · rw [eb] at hp hl
      rw [e, Wt.sum_app, wp_none hp] at h2
      have : (WP b).sum (x :: l) = 1 := by
        show (if x.1 = b then 1 else 0) + (WP b).sum l = 1
        rw [if_pos eb, wp_none hl]
      omega
  · by_cases h0 : (WP b).sum u = 0
    · omega
    · -- one piece: there is one over there, too
      have hl := turn_len (fun a => decide (a = b)) hu zu zv h
      have pos : ∀ {l : Row α}, NZ l → ((WP b).sum l = 0 ↔ (WL fun a => decide (a = b)).sum l = 0) := by
        intro l
        induction l with
        | nil => exact fun _ => ⟨fun _ => rfl, fun _ => rfl⟩
        | cons y l ih =>
          intro hz
          have i := ih fun w hw => hz w (List.mem_cons_of_mem _ hw)
          have hy := hz y List.mem_cons_self
          show (if y.1 = b then 1 else 0) + (WP b).sum l = 0 ↔ (if decide (y.1 = b) = true then y.2.natAbs else 0) + (WL fun a => decide (a = b)).sum l = 0
          by_cases e : y.1 = b
          · rw [if_pos e, if_pos (decide_eq_true e)]
            constructor <;> intro q <;> omega
          · rw [if_neg e, if_neg (by simpa using e)]
            rw [Nat.zero_add, Nat.zero_add]
            exact i
      have k1 : (WL fun a => decide (a = b)).sum u ≠ 0 := fun q => h0 ((pos zu).mpr q)
      have k2 : (WP b).sum v ≠ 0 := fun q => by
        have := (pos zv).mp q
        omega
      omega
theorem wp_count {b : α} : ∀ {l : Row α}, (WP b).sum l = (l.map (·.1)).count b
  | [] => rfl
  | y :: l => by
    show (if y.1 = b then 1 else 0) + (WP b).sum l = _
    rw [wp_count, List.map_cons, List.count_cons]
    by_cases e : y.1 = b
    · rw [if_pos e, if_pos (by simpa using e), Nat.add_comm]
    · rw [if_neg e, if_neg (by simpa using e), Nat.zero_add, Nat.add_zero]
/-- round piles that are turns of one another have as many pieces, of the same names, and the same length -/
theorem turn_same {u v : Row α} (hu : Rnd O u) (hv : Rnd O v) (zu : NZ u) (zv : NZ v) (h : Turn O u v) : u.length = v.length ∧ ((u.map (·.1)).Perm (v.map (·.1))) ∧ (WL fun _ => true).sum u = (WL fun _ => true).sum v := by
  have pm : (u.map (·.1)).Perm (v.map (·.1)) := List.perm_iff_count.mpr fun b => by
    have h1 := turn_pc b hu zu zv h
    have h2 := turn_pc b hv zv zu h.symm
    rw [wp_count, wp_count] at h1 h2
    omega
  have l1 := pm.length_eq
  rw [List.length_map, List.length_map] at l1
  exact ⟨l1, pm, Nat.le_antisymm (turn_len _ hu zu zv h) (turn_len _ hv zv zu h.symm)⟩
end
end XM
set_option linter.all false
/-! distances of rows: the length of what leads from one to another -/
namespace XM
section
variable {α : Type} [DecidableEq α] {O : Ord α}
/-- the length of a row -/
def ln (l : Row α) : Nat := (WL fun _ => true).sum l
theorem ln_app (l m : Row α) : ln (l ++ m) = ln l + ln m := Wt.sum_app
theorem ln_rev (l : Row α) : ln l.reverse = ln l := Wt.sum_rev
theorem ln_back (l : Row α) : ln (back l) = ln l := Wt.sum_back fun a t => by
  show (if (true : Bool) = true then (-t).natAbs else 0) = if (true : Bool) = true then t.natAbs else 0
  rw [Int.natAbs_neg]
theorem ln_act {l : Row α} : ln (act O l []) ≤ ln l := by
  have := Wt.sum_act (O := O) (W := WL fun _ => true) (l := l) (r := [])
  exact this
theorem ln_pile {l : Row α} (hz : NZ l) (h : pl O l = true) : ln (act O l []) = ln l := by
  have e := (pile_iff hz).mpr (met_pl.mpr h)
  have := Wt.act_eq (O := O) (W := WL fun _ => true) (l := l) (r := []) (by rw [e]; rfl)
  exact this
theorem ln_zero {l : Row α} (hz : NZ l) : ln l = 0 ↔ l = [] := by
  cases l with
  | nil => exact ⟨fun _ => rfl, fun _ => rfl⟩
  | cons x r =>
    refine ⟨fun h => ?_, fun h => nomatch h⟩
    have hx := hz x List.mem_cons_self
    have : ln (x :: r) = x.2.natAbs + ln r := rfl
    omega
theorem back_app (l m : Row α) : back (l ++ m) = back m ++ back l := by
  unfold back
  rw [List.map_append, List.reverse_append]
theorem pl_back {l : Row α} (h : pl O l = true) : pl O (back l) = true := by
  unfold back
  exact pl_rev (by rw [pl_map (g := fun x => (x.1, -x.2)) fun _ => rfl]; exact h)
/-- what takes a row back is as long -/
theorem ln_act_back {l : Row α} (hz : NZ l) : ln (act O (back l) []) = ln (act O l []) := by
  have n0 : NF O ([] : Row α) := True.intro
  have hn := nf_act (O := O) hz n0
  have hw : NZ (act O l []).reverse := fun x hx => nf_nz hn x (List.mem_reverse.mp hx)
  have e : act O (act O l []).reverse [] = act O l [] := act_self hz n0
  rw [act_back_eq hz hw e.symm n0, ln_pile (back_nz hw) (pl_back (pl_nf hn)), ln_back, ln_rev]
/-- how far one row is from another -/
def far (O : Ord α) (l m : Row α) : Nat := ln (act O (back l ++ m) [])
theorem far_symm {l m : Row α} (zl : NZ l) (zm : NZ m) : far O l m = far O m l := by
  unfold far
  rw [← ln_act_back ((back_nz zl).app zm), back_app, back_back]
theorem act_bk {l q : Row α} (zl : NZ l) (hq : NF O q) : act O l (act O (back l) q) = q := by
  have := act_back (O := O) (r := q) (back_nz zl) hq
  rwa [back_back] at this
theorem far_tri {l m n : Row α} (zl : NZ l) (zm : NZ m) (zn : NZ n) : far O l n ≤ far O l m + far O m n := by
  have n0 : NF O ([] : Row α) := True.intro
  have z1 := (back_nz zl).app zm
  have z2 := (back_nz zm).app zn
  have f1 := nf_act (O := O) z1 n0
  have e : act O ((act O (back l ++ m) []).reverse ++ (act O (back m ++ n) []).reverse) [] = act O (back l ++ n) [] := by
    rw [act_app, act_self z1 n0, act_self z2 f1]
    rw [act_app, act_app, act_app, act_back zm (nf_act (back_nz zl) n0)]
  unfold far
  rw [← e]
  refine Nat.le_trans ln_act ?_
  rw [ln_app, ln_rev, ln_rev]
  exact Nat.le_refl _
theorem far_zero {l m : Row α} (zl : NZ l) (zm : NZ m) : far O l m = 0 ↔ act O l [] = act O m [] := by
  have n0 : NF O ([] : Row α) := True.intro
  have z1 := (back_nz zl).app zm
  have f1 := nf_act (O := O) z1 n0
  unfold far
  rw [ln_zero (nf_nz f1)]
  have fq := nf_act (O := O) (back_nz zl) n0
  constructor
  · intro h
    rw [act_app] at h
    have h1 : act O (back m) [] = act O (back l) [] := by
      have := act_back (O := O) (r := act O (back l) []) zm fq
      rw [h] at this
      exact this
    have := act_back_eq (back_nz zl) (back_nz zm) h1.symm n0
    rwa [back_back, back_back] at this
  · intro h
    rw [act_app, ← act_same zl zm h fq]
    exact act_bk zl n0
theorem far_self {l : Row α} (zl : NZ l) : far O l l = 0 := (far_zero zl zl).mpr rfl
/-- the same ahead of both -/
theorem far_ahead {x l m : Row α} (zx : NZ x) (zl : NZ l) : far O (x ++ l) (x ++ m) = far O l m := by
  have n0 : NF O ([] : Row α) := True.intro
  unfold far
  have : act O (back (x ++ l) ++ (x ++ m)) [] = act O (back l ++ m) [] := by
    rw [back_app, act_app, act_app, act_app, act_app, act_bk zx (nf_act (back_nz zl) n0)]
  rw [this]
theorem far_nil {m : Row α} : far O [] m = ln (act O m []) := rfl
theorem far_piles {l m : Row α} (zl : NZ l) (zm : NZ m) : far O (act O l []).reverse (act O m []).reverse = far O l m := by
  have n0 : NF O ([] : Row α) := True.intro
  have hl := nf_act (O := O) zl n0
  have zl' : NZ (act O l []).reverse := fun x hx => nf_nz hl x (List.mem_reverse.mp hx)
  unfold far
  rw [act_app, act_app, act_back_eq zl' zl (act_self zl n0) n0, act_self zm (nf_act (back_nz zl) n0)]
theorem pl_tail {x : α × Int} {r : Row α} (h : pl O (x :: r) = true) : pl O r = true := pl_right (u := [x]) h
theorem pl_times {a : α} {s t : Int} {r : Row α} (h : pl O ((a, s) :: r) = true) : pl O ((a, t) :: r) = true := h
/-- a unit of the first piece of what leads from one to the other -/
def sg (t : Int) : Int := if 0 < t then 1 else -1
theorem act_join1 {v q : Row α} {a : α} {s t : Int} (hs : s ≠ 0) (ht : t ≠ 0) (hN : NF O q) : act O ((a, s) :: (a, t) :: v) q = act O ((if s + t = 0 then [] else [(a, s + t)]) ++ v) q := by
  have := act_meet (O := O) (a := a) (s := s) (t := t) (u := []) (m := []) (v := v) (r := q) (fun _ h => nomatch h) hs ht (fun _ h => nomatch h) (fun _ h => nomatch h) hN
  rw [List.nil_append, List.nil_append] at this
  rw [this]
  split <;> rfl
theorem far_part {l m w' : Row α} {a : α} {t : Int} (zl : NZ l) (zm : NZ m) (h : (act O (back l ++ m) []).reverse = (a, t) :: w') : far O l (l ++ [(a, sg t)]) = 1 ∧ far O (l ++ [(a, sg t)]) m + 1 = far O l m := by
  have n0 : NF O ([] : Row α) := True.intro
  have z1 := (back_nz zl).app zm
  have f1 := nf_act (O := O) z1 n0
  have hp := pl_nf f1
  have hz : NZ (act O (back l ++ m) []).reverse := fun x hx => nf_nz f1 x (List.mem_reverse.mp hx)
  rw [h] at hp hz
  have ht : t ≠ 0 := hz (a, t) List.mem_cons_self
  have hs : sg t ≠ 0 := by unfold sg; split <;> decide
  have ze : NZ [(a, sg t)] := fun x hx => by rw [List.mem_singleton.mp hx]; exact hs
  constructor
  · have := far_ahead (O := O) (x := l) (l := []) (m := [(a, sg t)]) zl (fun _ h => nomatch h)
    rw [List.append_nil] at this
    rw [this, far_nil, ln_pile ze (by simp [pl, near])]
    show (sg t).natAbs + 0 = 1
    unfold sg
    by_cases q : 0 < t
    · rw [if_pos q]; rfl
    · rw [if_neg q]; rfl
  · have e0 : ln (act O (back l ++ m) []) = t.natAbs + ln w' := by
      rw [← ln_rev, h]
      rfl
    have e1 : act O (back (l ++ [(a, sg t)]) ++ m) [] = act O ((a, -(sg t)) :: (a, t) :: w') [] := by
      have g1 : act O ((a, -(sg t)) :: (a, t) :: w') [] = act O ((a, t) :: w') (act O [(a, -(sg t))] []) := rfl
      have hq : NF O (act O [(a, -(sg t))] []) := nf_act (fun x hx => by rw [List.mem_singleton.mp hx]; show -(sg t) ≠ 0; omega) n0
      rw [g1, ← h, act_self z1 hq, back_app, List.append_assoc, act_app]
      rfl
    have e2 := act_join1 (O := O) (v := w') (q := []) (a := a) (s := -(sg t)) (t := t) (by omega) ht n0
    unfold far
    rw [e0, e1, e2]
    by_cases q : -(sg t) + t = 0
    · rw [if_pos q, List.nil_append, ln_pile (fun x hx => hz x (List.mem_cons_of_mem _ hx)) (pl_tail hp)]
      have : t.natAbs = 1 := by
        unfold sg at q
        split at q <;> omega
      omega
    · rw [if_neg q]
      have z3 : NZ ((a, -(sg t) + t) :: w') := fun x hx => by
        rcases List.mem_cons.mp hx with e | e
        · rw [e]; exact q
        · exact hz x (List.mem_cons_of_mem _ e)
      show ln (act O ((a, -(sg t) + t) :: w') []) + 1 = _
      rw [ln_pile z3 (pl_times hp)]
      have : ln ((a, -(sg t) + t) :: w') = (-(sg t) + t).natAbs + ln w' := rfl
      rw [this]
      unfold sg at *
      split at * <;> omega
end
end XM
set_option Elab.async false
set_option linter.all false
set_option maxRecDepth 100000
set_option maxHeartbeats 4000000
namespace XB
open PySem PySem.Spec PyProof.Rows L2
theorem len_ln : ∀ l : List (Str × Int), lenOf l = (XM.ln l : Nat)
  | [] => rfl
  | s :: l => by
    have h := len_ln l
    unfold lenOf at h ⊢
    rw [List.map_cons, List.sum_cons, h]
    show (if s.2 < 0 then -s.2 else s.2) + _ = (((if (true : Bool) = true then s.2.natAbs else 0) + XM.ln l : Nat) : Int)
    rw [if_pos rfl]
    split <;> omega
theorem len_far {F : Fld} {l m : List (Str × Int)} : lenOf (XM.act (OF F) (XM.back l ++ m) []).reverse = (XM.far (OF F) l m : Nat) := by
  rw [len_ln, XM.ln_rev]
  rfl
theorem act_len1 {F : Fld} {l : List (Str × Int)} : (XM.act (OF F) l []).reverse.length ≤ l.length := by
  rw [List.length_reverse]
  exact act_len0
section
variable {P : Program} {w : World} {K : PySem.W.Frag} {mg : Str → Option Value} {base : Heap}
def spLeading (K : PySem.W.Frag) (F : Fld) : Sp := fun vs H Q _ => ∃ (t d e : Addr) (l m : List (Str × Int)), vs = [.ref t, .ref d, .ref e] ∧ TouchAt K H t F ∧ F.Ok ∧ Dp K H (.ref d) (dSteps l) ∧ Dp K H (.ref e) (dSteps m) ∧ l.length + m.length ≤ 400 ∧ Names F l ∧ Names F m ∧
  ∀ H' r, Same H H' → Dp K H' (.ref r) (dSteps (XM.act (OF F) (XM.back l ++ m) []).reverse) → Q (.ref r) H'
def spDistOf (K : PySem.W.Frag) (F : Fld) : Sp := fun vs H Q _ => ∃ (t d e : Addr) (l m : List (Str × Int)), vs = [.ref t, .ref d, .ref e] ∧ TouchAt K H t F ∧ F.Ok ∧ Dp K H (.ref d) (dSteps l) ∧ Dp K H (.ref e) (dSteps m) ∧ l.length + m.length ≤ 400 ∧ Names F l ∧ Names F m ∧
  ∀ H', Same H H' → Q (.int (XM.far (OF F) l m : Nat)) H'
def spDistance (K : PySem.W.Frag) (F : Fld) : Sp := fun vs H Q _ => ∃ l m, FS2 K F l m vs H ∧ ∀ H', Same H H' → Q (.int (XM.far (OF F) l m : Nat)) H'
def FS3 (K : PySem.W.Frag) (F : Fld) (l m n : List (Str × Int)) (vs : List V) (H : Hp) : Prop := ∃ (a d e f : Addr), vs = [.ref a, .ref d, .ref e, .ref f] ∧ Dp K H (.ref a) (dField F) ∧ F.Ok ∧ Dp K H (.ref d) (dSteps l) ∧ GoodScript F l ∧ Dp K H (.ref e) (dSteps m) ∧ GoodScript F m ∧ Dp K H (.ref f) (dSteps n) ∧ GoodScript F n
def spBetween (K : PySem.W.Frag) (F : Fld) : Sp := fun vs H Q _ => ∃ l m n, FS3 K F l m n vs H ∧ ∀ H', Same H H' → Q (.bl (decide (XM.far (OF F) l m + XM.far (OF F) m n = XM.far (OF F) l n))) H'
end
end XB
set_option Elab.async false
set_option linter.all false
set_option maxRecDepth 100000
set_option maxHeartbeats 4000000
namespace XB
open PySem PySem.Spec PyProof.Rows L2
def ML : List Str := ["a", "b", "c", "d", "e", "f"]
def nmM (i : Nat) : Str := (ML[i]?).getD ""
def fM (n i : Nat) : List (Str × Str) := ((ML.take n).drop (i + 1)).map fun o => (nmM i, o)
def PM (n k : Nat) : List (Str × Str) := (List.range k).flatMap (fM n)
def okM (n : Nat) : Bool := (PM n n).all (fun p => sLt p.1 p.2 && (ML.take n).contains p.1 && (ML.take n).contains p.2) && pwB ltP (PM n n) && pwB sLt (ML.take n) && (ML.take n).all goodB && decide ((PM n n).length ≤ 100) && decide ((ML.take n).length = n)
theorem okM_all : okM 1 = true ∧ okM 2 = true ∧ okM 3 = true ∧ okM 4 = true ∧ okM 5 = true ∧ okM 6 = true := by decide +kernel
theorem okM_of {n : Nat} (h0 : 1 ≤ n) (h6 : n ≤ 6) : okM n = true := by
  obtain ⟨a, b, c, d, e, f⟩ := okM_all
  rcases n with _ | _ | _ | _ | _ | _ | _ | n
  · omega
  · exact a
  · exact b
  · exact c
  · exact d
  · exact e
  · exact f
  · omega
theorem fld_okM {n : Nat} {ps : List (Str × Str)} (h0 : 1 ≤ n) (h6 : n ≤ 6) (hs : ps.Sublist (PM n n)) : (Fld.mk (ML.take n) ps).Ok := by
  have h := okM_of h0 h6
  unfold okM at h
  simp only [Bool.and_eq_true, decide_eq_true_eq, List.all_eq_true] at h
  obtain ⟨⟨⟨⟨⟨a, b⟩, c⟩, d⟩, e⟩, f⟩ := h
  refine ⟨by show 0 < (ML.take n).length; omega, by show (ML.take n).length ≤ 6; omega, fun p hp => (a p (hs.subset hp)).1.1, fun p hp => ⟨?_, ?_⟩, fun x hx => good_of (d x hx), pw_of c, (pw_of b).sublist hs, Nat.le_trans hs.length_le e⟩
  · have := (a p (hs.subset hp)).1.2
    simpa using this
  · have := (a p (hs.subset hp)).2
    simpa using this
theorem PM_succ (n k : Nat) : PM n (k + 1) = PM n k ++ fM n k := by
  unfold PM
  rw [List.range_succ, List.flatMap_append]
  simp
theorem ml_at {n k : Nat} (h6 : n ≤ 6) (h : k < n) : ((ML.take n).map V.str)[k]? = some (.str (nmM k)) := by
  have hl : k < ML.length := by show k < 6; omega
  rw [List.getElem?_map, List.getElem?_take, if_pos h, List.getElem?_eq_getElem hl]
  unfold nmM
  rw [List.getElem?_eq_getElem hl]
  rfl
theorem ml_len {n : Nat} (h6 : n ≤ 6) : (ML.take n).length = n := by
  rw [List.length_take]
  show min n 6 = n
  omega
theorem fM_len {n k : Nat} : (fM n k).length ≤ 6 := by
  unfold fM
  rw [List.length_map, List.length_drop, List.length_take]
  have : ML.length = 6 := rfl
  omega
theorem PM_len' {n : Nat} : ∀ k, (PM n k).length ≤ 6 * k
  | 0 => Nat.le_refl _
  | k + 1 => by
    rw [PM_succ, List.length_append]
    have := PM_len' (n := n) k
    have := fM_len (n := n) (k := k)
    omega
theorem PM_len {n k : Nat} (h6 : n ≤ 6) (hk : k ≤ n) : (PM n k).length ≤ 36 := by
  have := PM_len' (n := n) k
  omega
theorem rowCatP {K : PySem.W.Frag} {H : Hp} {a b : Addr} {l m : List (Str × Str)} {Q : VK} (h1 : RowP K H a l) (h2 : RowP K H b m) (hl : l.length + m.length ≤ 900) (q : ∀ H' p, Same H H' → H p = none → RowP K H' p (l ++ m) → Q (.ref p) H') : rCat (.ref a) (.ref b) H Q := by
  obtain ⟨xs, e1, v1⟩ := h1
  obtain ⟨ys, e2, v2⟩ := h2
  have l1 := v1.len
  have l2 := v2.len
  rw [List.length_map] at l1 l2
  refine catL e1 e2 (Nat.le_of_lt (small1000 (by omega))) fun H' p s hp e => q H' p s hp ⟨_, e, ?_⟩
  rw [List.map_append]
  exact (DpAll.tk (Tk.of s) _ (flat_pairs l) v1).app (DpAll.tk (Tk.of s) _ (flat_pairs m) v2)
theorem RowP.same {K : PySem.W.Frag} {H H' : Hp} {a : Addr} {l : List (Str × Str)} (h : RowP K H a l) (s : Same H H') : RowP K H' a l := by
  obtain ⟨xs, e, v⟩ := h
  exact ⟨xs, s _ _ e, DpAll.tk (Tk.of s) _ (flat_pairs l) v⟩
section
variable {P : Program} {w : World} {K : PySem.W.Frag} {mg : Str → Option Value} {base : Heap}
def spLawField3 (K : PySem.W.Frag) : Sp := fun vs H Q _ => ∃ (m c g : Addr) (s most : Int), vs = [.ref m, .int most] ∧ Dr H m c g s ∧ 1 ≤ most ∧ most ≤ 6 ∧ s < 900000000 ∧
  ∀ H' f F s', Dr H' m c g s' → s' ≤ s + 40 → Kp m g H H' → Dp K H' (.ref f) (dField F) → F.Ok → (∀ x ∈ F.names, x ∈ ML) → (F.names.length : Int) ≤ most → F.pairs.length ≤ 36 → Q (.ref f) H'
theorem c__law_field3 (T : Tx K mg) : Cl P w K mg base CX0 3 "_law_field" (spLawField3 K) := by
  refine cl0 T.d__law_field (ps := ["m", "most"]) (fun _ _ _ _ _ _ us hl => match us, hl with | [_, _], _ => rfl) sc__law_field (fun vs H Q E h => ?_) (fun f cdv A outer st H vs Q E hr h => ?_)
  · obtain ⟨m, c, g, s, most, rfl, _⟩ := h
    rfl
  · obtain ⟨m, c, g, s, most, rfl, R, m1, m6, hs9, q⟩ := h
    have nd := sc__law_field.nd
    refine ⟨_, (pss_cons (ps_asg (pe_tup (pa_cons (pe_slice sl_tupA (pe_tup (pa_cons pe_str (pa_cons pe_str (pa_cons pe_str (pa_cons pe_str (pa_cons pe_str (pa_cons pe_str pa_nil))))))) po_none (po_some (pe_op op_add pe_int (pe_k (c_draw T) hr (by decide) (by rfl) (pa_cons (pv 0) (pa_cons (pv 1) pa_nil)))))) (pa_cons (pe_lst pa_nil) pa_nil))) (pg_tup rfl (pgs_cons (pg_name (i := 2) nd rfl (.inr rfl)) (pgs_cons (pg_name (i := 3) nd rfl (.inl rfl)) pgs_nil))))
    (pss_cons (ps_for PassesOwn.never rfl (pi_range1 (by rfl) T.b_range (pa_cons (pe_lenS (by rfl) T.b_len (pv 2)) pa_nil)) (pg_name (i := 4) nd rfl (.inr rfl))
    (pss_one (ps_set (i := 3) nd rfl (.inl rfl) (pe_op op_cat (pv 3) (pe_lc (own := [("other", 5)]) (g := (gName 5)) (tt := tYes) (by rfl) nd (pi_tup (pe_slice sl_tupA (pv 2) (po_some (pe_op op_add (pv 4) pe_int)) po_none)) (blkOk_by (own := [("other", 5)]) (N := ["m", "most", "names", "some", "k", "other", "pair"]) (sc := defScope s__law_field) (by decide +kernel)) (fun _ _ _ _ _ => (pg_name (i := 5) nd rfl (by first | exact Or.inl rfl | exact Or.inr rfl))) (fun _ _ _ _ _ => pts_nil) (fun _ _ _ _ _ => (pe_tup (pa_cons (pe_ix (ixk_tup (K := K) rfl) (pv 2) (pv 4) (fun _ _ => rfl)) (pa_cons (pv 5) pa_nil)))))))))
    (pss_one (ps_ret (pe_tup (pa_cons (pv 2) (pa_cons (pe_tupleOf (by rfl) T.b_tuple (pe_lc (own := [("pair", 6)]) (g := (gName 6)) (tt := _) (by rfl) nd (pi_list (pv 3)) (blkOk_by (own := [("pair", 6)]) (N := ["m", "most", "names", "some", "k", "other", "pair"]) (sc := defScope s__law_field) (by decide +kernel)) (fun _ _ _ _ _ => (pg_name (i := 6) nd rfl (by first | exact Or.inl rfl | exact Or.inr rfl))) (fun _ _ _ _ _ => pts_one (pt_cmpR op_eq (pe_k (c_draw T) hr (by decide) (by rfl) (pa_cons (pv 0) (pa_cons pe_int pa_nil))) pe_int (nomark _))) (fun _ _ _ _ _ => (pv 6)))) pa_nil))))))), ?_⟩
    refine ⟨(show 6 ≤ sizeLine by decide), fun t0 ht0 => upd_gen ht0 fun H1 s1 e1 => ?_⟩
    have e1 : SqT K H1 t0 (ML.map V.str) := SqT.of e1
    refine noPart ?_
    refine ⟨_, rfl, _, rfl, m, c, g, s, most, rfl, R.same s1, by omega, by omega, by omega, fun r H2 r0 r1 R2 k2 => ?_⟩
    obtain ⟨n, hn⟩ : ∃ n : Nat, 1 + r = (n : Int) := ⟨(1 + r).toNat, by omega⟩
    have n1 : 1 ≤ n := by omega
    have n6 : n ≤ 6 := by omega
    refine ⟨_, _, rfl, rfl, (n : Int), congrArg V.int hn, ?_⟩
    refine sl_pre (((R.same s1).tk k2).sqT e1) fun H3 tn s3 hN => ⟨Nat.zero_le _, fun D hD => upd_gen hD fun H4a s4a e4a => ⟨two_sz, fun T0 nT0 => upd_gen nT0 fun H4 s4b e4b => ⟨T0, _, rfl, SqT.of e4b, rfl, _, _, rfl, _, _, rfl, rfl, ?_⟩⟩⟩
    have s4 := s4a.trans s4b
    have e4 := s4b _ _ e4a
    rw [← List.map_take] at hN
    have k4 : Kp m g H H4 := ((Kp.of s1).trans k2).trans ((Kp.of s3).trans (Kp.of s4))
    have R4 := (R2.same s3).same s4
    have nD := (R2.same s3).nm hD
    have hN4 := (Tk.of s4).sqT hN
    have hl : ((ML.take n).map V.str).length = n := by rw [List.length_map, ml_len n6]
    refine ⟨_, rfl, tn, _, rfl, .inr hN4, n, by rw [hl], by omega, by omega, ?_⟩
    refine for_range (lo := 0) (n := n) (fun k σ H2 => ∃ (D : Addr) (y4 y5 y6 : Option V), σ = [some (.ref m), some (.int most), some (.ref tn), some (.ref D), y4, y5, y6] ∧ Same H4 H2 ∧ (D ≠ m ∧ D ≠ c ∧ D ≠ g) ∧ RowP K H2 D (PM n k))
      ⟨D, none, none, none, rfl, Same.refl _, nD, [], e4, .nil⟩ (fun k σ H5 hk ⟨D, y4, y5, y6, eσ, s5, nD, hD5⟩ => ?_) (fun σ H5 ⟨D, y4, y5, y6, eσ, s5, nD, hD5⟩ => ?_)
    · subst eσ
      have hN5 := (Tk.of s5).sqT hN4
      rw [Int.zero_add]
      refine ⟨_, rfl, _, rfl, _, rfl, _, _, rfl, rfl, ((k + 1 : Nat) : Int), rfl, ?_⟩
      refine noPart ?_
      refine sl_suf hN5 fun H7 u s7 hU => ⟨u, rfl, ⟨_, hU⟩, fun E hE => ?_⟩
      rw [← List.map_drop] at hU
      have hlu : (((ML.take n).drop (k + 1)).map V.str).length = n - (k + 1) := by rw [List.length_map, List.length_drop, ml_len n6]
      refine lc_it (walk_tup (xs := ((ML.take n).drop (k + 1)).map V.str)) (fun j H' => ∃ ys, H' E = some (.lst ys) ∧ DpAll K H' ys (((fM n k).take j).map dPair) ∧ Same H7 H') ⟨[], upd_same, .nil, same_upd hE⟩ (fun _ _ _ ⟨_, _, _, s'⟩ => (Tk.of s').sqT hU) (fun j x H8o H8 hj ⟨ys, eE, hY, s8⟩ hy => ?_) (fun H8 ⟨ys, eE, hY, s8⟩ => ?_)
      · obtain ⟨rfl, hx⟩ := hy
        obtain ⟨o, ho, rfl⟩ := str_at hx
        rw [hlu] at hj
        have hly := hY.len
        rw [List.length_map, List.length_take] at hly
        have ex : (fM n k).take (j + 1) = (fM n k).take j ++ [(nmM k, o)] := take_snoc (by unfold fM; rw [List.getElem?_map, ho]; rfl)
        refine ⟨rfl, yes_ ⟨_, rfl, _, rfl, _, _, _, .str (nmM k), rfl, rfl, (Tk.of (s7.trans s8)).sqT hN5, at_of (j := k) rfl (ml_at n6 hk), _, rfl, two_sz, fun b nb => upd_gen nb fun H9 s9 e9 => ⟨_, s9 _ _ eE, small1000 (by omega), _, upd_same, ?_, same_put (s8.trans s9) hE⟩⟩⟩
        rw [ex, List.map_append]
        have tt : Tk H8 (upd H9 E (.lst (ys ++ [.ref b]))) := (Tk.of s9).lst (s9 _ _ eE)
        exact (DpAll.tk tt _ (flat_pairs _) hY).app (.cons (.tup ((Tk.refl.lst (s9 _ _ eE)).sqT (SqT.of e9)) (.cons (.str _) (.cons (.str _) .nil))) .nil)
      · have ek : (fM n k).take (((ML.take n).drop (k + 1)).map V.str).length = fM n k := List.take_of_length_le (by unfold fM; rw [List.length_map, List.length_map]; exact Nat.le_refl _)
        rw [ek] at hY
        have lp : (PM n k).length ≤ 36 := PM_len n6 (by omega)
        refine rowCatP (hD5.same (s7.trans s8)) ⟨ys, eE, hY⟩ (by have := fM_len (n := n) (k := k); omega) fun H10 p s10 np h10 => ?_
        refine ⟨p, _, _, _, rfl, ((s5.trans s7).trans s8).trans s10, (R4.same ((s5.trans s7).trans s8)).nm np, ?_⟩
        rw [PM_succ]
        exact h10
    · subst eσ
      obtain ⟨xs, eD5, hX5⟩ := hD5
      have R5 := R4.same s5
      refine ⟨_, rfl, _, rfl, D, rfl, ⟨_, SqL.of eD5⟩, fun E hE => ?_⟩
      have nE := R5.nm hE
      have nDE : D ≠ E := ne_of_none eD5 hE
      refine lc_it (walk_list (xs := xs)) (fun j H' => ∃ ys ps s', H' E = some (.lst ys) ∧ DpAll K H' ys (ps.map dPair) ∧ ps.Sublist ((PM n n).take j) ∧ H' D = some (.lst xs) ∧ Kp m g H5 H' ∧ Dr H' m c g s' ∧ s' ≤ s + 1 + j) ⟨[], [], s + 1, upd_same, .nil, List.nil_sublist _, same_upd hE _ _ eD5, Kp.of (same_upd hE), R5.same (same_upd hE), by omega⟩ (fun _ _ _ ⟨_, _, _, _, _, _, e, _⟩ => SqL.of e) (fun j x H6o H6 hj ⟨ys, ps, s2, eE, hY, sub, eD6, k6, R6, hs2⟩ hy => ?_) (fun H6 ⟨ys, ps, s2, eE, hY, sub, eD6, k6, R6, hs2⟩ => ?_)
      · obtain ⟨rfl, hx⟩ := hy
        obtain ⟨dd, g1, p1⟩ := hX5.get hx
        rw [List.getElem?_map] at g1
        obtain ⟨pr, k1, rfl⟩ := Option.map_eq_some_iff.mp g1
        have hpr := Dp.tk (R5.tk k6) _ rfl p1
        have hpt : (PM n n).take (j + 1) = (PM n n).take j ++ [pr] := take_snoc k1
        have lps := sub.length_le
        rw [List.length_take] at lps
        have lpn := PM_len (k := n) n6 (Nat.le_refl _)
        have lxs := hX5.len
        rw [List.length_map] at lxs
        have lys := hY.len
        rw [List.length_map] at lys
        refine ⟨rfl, _, rfl, m, c, g, s2, 2, rfl, R6, by omega, by omega, by omega, fun rr H8 q0 q1 R8 k8 => ⟨rfl, _, rfl, ite2 (fun _ => ?_) (fun _ => ?_)⟩⟩
        · have eE8 := k8 _ _ nE.1 nE.2.2 eE
          have t8 := R6.tk k8
          refine ⟨_, rfl, ys, eE8, small1000 (by omega), ?_⟩
          refine ⟨_, ps ++ [pr], s2 + 1, upd_same, ?_, ?_, ?_, ((k6.trans k8).put hE), R8.put nE, by omega⟩
          · rw [List.map_append]
            exact (DpAll.tk (t8.lst eE8) _ (flat_pairs ps) hY).app (.cons (Dp.tk (t8.lst eE8) _ rfl hpr) .nil)
          · rw [hpt]
            exact sub.append (List.Sublist.refl _)
          · rw [upd_ne nDE]
            exact k8 _ _ nD.1 nD.2.2 eD6
        · refine ⟨ys, ps, s2 + 1, k8 _ _ nE.1 nE.2.2 eE, DpAll.tk (R6.tk k8) _ (flat_pairs ps) hY, ?_, k8 _ _ nD.1 nD.2.2 eD6, k6.trans k8, R8, by omega⟩
          rw [hpt]
          exact sub.trans (List.sublist_append_left _ _)
      · have lps := sub.length_le
        rw [List.length_take] at lps
        have lpn := PM_len (k := n) n6 (Nat.le_refl _)
        have lxs := hX5.len
        rw [List.length_map] at lxs
        refine .inl ⟨E, ys, rfl, SqL.of eE, fun pt npt => upd_gen npt fun H7 s7 e7 => ⟨two_sz, fun pf npf => upd_gen npf fun H8 s8 e8 => ?_⟩⟩
        have s78 := s7.trans s8
        refine q H8 pf ⟨ML.take n, ps⟩ s2 (R6.same s78) (by omega) ((k4.trans (Kp.of s5)).trans (k6.trans (Kp.of s78))) ?_ (fld_okM n1 n6 (sub.trans (List.take_sublist _ _))) (fun x hx => List.mem_of_mem_take hx) (by rw [ml_len n6]; omega) (by show ps.length ≤ 36; omega)
        exact .tup (SqT.of e8) (.cons (.tup ((((Tk.of s5).trans (R5.tk k6)).trans (Tk.of s78)).sqT hN4) (DpAll.strs _)) (.cons (.tup ((Tk.of s8).sqT (SqT.of e7)) (DpAll.tk (Tk.of s78) _ (flat_pairs ps) hY)) .nil))
end
end XB
set_option Elab.async false
set_option linter.all false
set_option maxRecDepth 100000
set_option maxHeartbeats 4000000
namespace XB
open PySem PySem.Spec PyProof.Rows L2
section
variable {P : Program} {w : World} {K : PySem.W.Frag} {mg : Str → Option Value} {base : Heap}
def TL : List Int := [1, -1, 1, -1, 2, -2, 3, -1]
def GL : List Int := [7, -12, 10 ^ 29, -10 ^ 29, 1 - 10 ^ 30, 10 ^ 30]
theorem tl_good : ∀ z ∈ TL, z ≠ 0 ∧ -(10 ^ 30) ≤ z ∧ z ≤ 10 ^ 30 := by decide +kernel
theorem gl_good : ∀ z ∈ GL, z ≠ 0 ∧ -(10 ^ 30) ≤ z ∧ z ≤ 10 ^ 30 := by decide +kernel
def Row2 (K : PySem.W.Frag) (H : Hp) (D : Addr) (l : List (Str × Int)) : Prop := ∃ xs, H D = some (.lst xs) ∧ DpAll K H xs (l.map dStep)
def spSteps (K : PySem.W.Frag) : Sp := fun vs H Q _ => ∃ (m c g f : Addr) (s most : Int) (b : Bool) (F : Fld), vs = [.ref m, .ref f, .int most, .bl b] ∧ Dr H m c g s ∧ Dp K H (.ref f) (dField F) ∧ F.Ok ∧ 0 ≤ most ∧ most ≤ 60 ∧ s < 900000000 ∧
  ∀ H' r l s', Dr H' m c g s' → s' ≤ s + 1 + 4 * most → Kp m g H H' → Dp K H' (.ref r) (dSteps l) → GoodAll F l → (l.length : Int) ≤ most → Q (.ref r) H'
def StepsInv (K : PySem.W.Frag) (F : Fld) (H : Hp) (m c g f D : Addr) (most : Int) (gb : Bool) (s : Int) (b : Nat) : L2.St → Hp → Prop := fun σ H2 => ∃ (y5 y6 : Option V) (s2 : Int) (l : List (Str × Int)), σ = [some (.ref m), some (.ref f), some (.int most), some (.bl gb), some (.ref D), y5, y6] ∧
  Kp m g H H2 ∧ Dr H2 m c g s2 ∧ s2 ≤ s + 1 + 4 * (b : Int) ∧ Row2 K H2 D l ∧ GoodAll F l ∧ l.length = b
end
end XB
set_option Elab.async false
set_option linter.all false
set_option maxRecDepth 100000
set_option maxHeartbeats 4000000
namespace XB
open PySem PySem.Spec PyProof.Rows L2
section
variable {P : Program} {w : World} {K : PySem.W.Frag} {mg : Str → Option Value} {base : Heap}
def spApart2 (K : PySem.W.Frag) (F : Fld) : Sp := fun vs H Q _ => ∃ (a : Addr) (x y : Str), vs = [.ref a, .str x, .str y] ∧ Dp K H (.ref a) (dField F) ∧ F.Ok ∧ x ∈ F.names ∧ y ∈ F.names ∧ ∀ H', Same H H' → Q (.bl (apart F x y)) H'
theorem c__law_apart2 (T : Tx K mg) (F : Fld) : Cl P w K mg base CX0 1 "_law_apart" (spApart2 K F) := by
  refine cl0 T.d__law_apart (ps := ["field", "one", "other"]) (fun _ _ _ _ _ _ us hl => match us, hl with | [_, _, _], _ => rfl) sc__law_apart (fun vs H Q E h => ?_) (fun f cdv A outer st H vs Q E hr h => ?_)
  · obtain ⟨a, x, y, rfl, _⟩ := h
    rfl
  · obtain ⟨a, x, y, rfl, hF, ok, ma, mb, q⟩ := h
    have nd := sc__law_apart.nd
    have hu := u65 hr
    obtain ⟨_, n, p, ps, e, hA, hN, hP, hD⟩ := hF.field
    cases e
    refine ⟨_, (pss_one (ps_ret (pe_cmpR (op_inDTk (K := K) rfl hu) (pe_tup (pa_cons (pe_callB (call_min2S rfl) (by rfl) T.b_min (by decide +kernel) (pa_cons (pv 1) (pa_cons (pv 2) pa_nil))) (pa_cons (pe_callB (call_max2S rfl) (by rfl) T.b_max (by decide +kernel) (pa_cons (pv 1) (pa_cons (pv 2) pa_nil))) pa_nil))) (pe_ix (ixk_tup (K := K) rfl) (pv 0) pe_int (fun _ _ => rfl)) (by rfl)))), ?_⟩
    refine ⟨_, rfl, _, rfl, _, _, rfl, _, rfl, _, rfl, _, _, rfl, (show 2 ≤ sizeLine by decide), fun t ht => ?_⟩
    have s1 := same_upd (o := .tup [.str (if sLt y x then y else x), .str (if sLt x y then y else x)]) ht
    refine ⟨_, rfl, _, _, _, _, rfl, rfl, (Tk.of s1).sqT hA, rfl, ?_⟩
    refine ⟨dPair ((if sLt y x then y else x), (if sLt x y then y else x)), F.pairs.map dPair, .tup (SqT.of upd_same) (.cons (.str _) (.cons (.str _) .nil)), .tup ((Tk.of s1).sqT hP) (DpAll.tk (Tk.of s1) _ (flat_pairs _) hD), sh_pair ?_ ?_, sh_pairs ok.good, ?_⟩
    · show GoodName (if sLt y x then y else x)
      split <;> first | exact ok.sgn _ ma | exact ok.sgn _ mb
    · show GoodName (if sLt x y then y else x)
      split <;> first | exact ok.sgn _ ma | exact ok.sgn _ mb
    · rw [any_pairs, apart_min ok]
      exact q _ s1
def spMeet (K : PySem.W.Frag) (F : Fld) : Sp := fun vs H Q _ => ∃ (a p : Addr) (xs : List V) (l : List (Str × Int)), vs = [.ref a, .ref p] ∧ Dp K H (.ref a) (dField F) ∧ F.Ok ∧ SqX K H p xs ∧ DpAll K H xs (l.map dStep) ∧ Names F l ∧ l.length ≤ 200 ∧
  metV K H Q (XM.met (OF F) l)
theorem c__law_meet (T : Tx K mg) (F : Fld) : Cl P w K mg base CX0 2 "_law_meet" (spMeet K F) := by
  refine cl0 T.d__law_meet (ps := ["field", "steps"]) (fun _ _ _ _ _ _ us hl => match us, hl with | [_, _], _ => rfl) sc__law_meet (fun vs H Q E h => ?_) (fun f cdv A outer st H vs Q E hr h => ?_)
  · obtain ⟨a, p, xs, l, rfl, _⟩ := h
    rfl
  · obtain ⟨a, p, xs, l, rfl, hF, ok, hS, hD, hN, hl60, q⟩ := h
    have nd := sc__law_meet.nd
    have hlx := hD.len
    rw [List.length_map] at hlx
    refine ⟨_, (pss_cons (ps_for PassesOwn.never rfl (pi_range1 (by rfl) T.b_range (pa_cons (pe_lenS (by rfl) T.b_len (pv 1)) pa_nil)) (pg_name (i := 2) nd rfl (.inl rfl))
    (pss_one (ps_for PassesOwn.never rfl (pi_range2 (by rfl) T.b_range (pa_cons (pe_op op_add (pv 2) pe_int) (pa_cons (pe_lenS (by rfl) T.b_len (pv 1)) pa_nil))) (pg_name (i := 3) nd rfl (.inl rfl))
    (pss_cons (ps_if (pt_cmpR op_eq (pe_ix (ixk_tup (K := K) rfl) (pe_ix (ixk_row (K := K) rfl) (pv 1) (pv 3) (fun _ _ => rfl)) pe_int (fun _ _ => rfl)) (pe_ix (ixk_tup (K := K) rfl) (pe_ix (ixk_row (K := K) rfl) (pv 1) (pv 2) (fun _ _ => rfl)) pe_int (fun _ _ => rfl)) (nomark _)) (pss_one (ps_ret (pe_tup (pa_cons (pv 2) (pa_cons (pv 3) pa_nil))))) pss_nil)
    (pss_one (ps_if (pt_not (pt_val (pe_k (c__law_apart2 T F) hr (by decide) (by rfl) (pa_cons (pv 0) (pa_cons (pe_ix (ixk_tup (K := K) rfl) (pe_ix (ixk_row (K := K) rfl) (pv 1) (pv 2) (fun _ _ => rfl)) pe_int (fun _ _ => rfl)) (pa_cons (pe_ix (ixk_tup (K := K) rfl) (pe_ix (ixk_row (K := K) rfl) (pv 1) (pv 3) (fun _ _ => rfl)) pe_int (fun _ _ => rfl)) pa_nil)))))) (pss_one ps_break) pss_nil))))))
    (pss_one (ps_ret pe_non))), ?_⟩
    refine ⟨_, rfl, p, xs, rfl, hS, xs.length, rfl, by omega, by omega, ?_⟩
    refine for_range (lo := 0) (n := xs.length) (fun k σ H2 => ∃ (y2 y3 : Option V), σ = [some (.ref a), some (.ref p), y2, y3] ∧ Same H H2 ∧ XM.met (OF F) l = up k (XM.met (OF F) (l.drop k)))
      ⟨none, none, rfl, Same.refl _, by rw [List.drop_zero]; unfold up; simp⟩ (fun k σ H2 hk ⟨y2, y3, eσ, s2, em⟩ => ?_) (fun σ H2 ⟨y2, y3, eσ, s2, em⟩ => ?_)
    · subst eσ
      have hs : l[k]? = some l[k] := List.getElem?_eq_getElem (by omega)
      have ms := hN _ (List.mem_of_getElem? hs)
      generalize l[k] = s at hs ms
      rw [Int.zero_add]
      refine ⟨_, rfl, (k : Int), 1, rfl, rfl, _, rfl, p, xs, rfl, hS.same s2, _, _, rfl, by omega, ?_⟩
      have hn : ((xs.length : Int) - ((k : Int) + 1)).toNat = l.length - (k + 1) := by omega
      refine for_range (lo := (k : Int) + 1) (n := ((xs.length : Int) - ((k : Int) + 1)).toNat) (fun j σ H3 => ∃ (y3 : Option V), σ = [some (.ref a), some (.ref p), some (.int (k : Int)), y3] ∧ Same H H3 ∧ XM.near (OF F) s.1 (l.drop (k + 1)) = (XM.near (OF F) s.1 (l.drop (k + 1 + j))).map (· + j))
        ⟨y3, rfl, s2, by simp⟩ (fun j σ H3 hj ⟨y3, eσ, s3, en⟩ => ?_) (fun σ H3 ⟨y3, eσ, s3, en⟩ => ?_)
      · subst eσ
        have hy : l[k + 1 + j]? = some l[k + 1 + j] := List.getElem?_eq_getElem (by omega)
        have my := hN _ (List.mem_of_getElem? hy)
        generalize l[k + 1 + j] = y at hy my
        obtain ⟨c, hc, cc⟩ := (DpAll.tk (Tk.of s3) _ (flat_all_steps l) hD).step hy
        obtain ⟨b, hb, cb⟩ := (DpAll.tk (Tk.of s3) _ (flat_all_steps l) hD).step hs
        have ej : (k : Int) + 1 + (j : Int) = ((k + 1 + j : Nat) : Int) := by omega
        rw [ej]
        refine ⟨_, rfl, _, rfl, _, _, _, _, rfl, rfl, hS.same s3, at_of (j := k + 1 + j) rfl hc, _, _, _, _, rfl, rfl, cc, rfl, _, rfl, _, rfl, _, _, _, _, rfl, rfl, hS.same s3, at_of (j := k) rfl hb, _, _, _, _, rfl, rfl, cb, rfl, rfl, _, rfl, ?_⟩
        rw [drop_at hy] at en
        have en : _ = ((if y.1 = s.1 then some 0 else if (OF F).tc y.1 s.1 then none else (XM.near (OF F) s.1 (l.drop (k + 1 + j + 1))).map (· + 1)) : Option Nat).map (· + j) := en
        rw [show decide (V.str y.1 = V.str s.1) = decide (y.1 = s.1) from decide_eq_decide.mpr ⟨fun h => V.str.inj h, fun h => congrArg _ h⟩]
        by_cases e : y.1 = s.1
        · rw [decide_eq_true e]
          rw [if_pos e] at en
          have en : XM.near (OF F) s.1 (l.drop (k + 1)) = some (0 + j) := en
          rw [Nat.zero_add] at en
          rw [met_here hs en] at em
          rw [em] at q
          refine iteT ⟨_, rfl, _, rfl, (show 2 ≤ sizeLine by decide), fun T hT => q _ T (same_new s3 hT) (SqT.of upd_same)⟩
        · rw [decide_eq_false e]
          rw [if_neg e] at en
          refine iteF ?_
          refine ⟨_, rfl, _, rfl, _, rfl, _, _, _, _, rfl, rfl, hS.same s3, at_of (j := k) rfl hb, _, _, _, _, rfl, rfl, cb, rfl, _, rfl, _, rfl, _, _, _, _, rfl, rfl, hS.same s3, at_of (j := k + 1 + j) rfl hc, _, _, _, _, rfl, rfl, cc, rfl, ?_⟩
          refine ⟨a, s.1, y.1, rfl, Dp.tk (Tk.of s3) _ (flat_field F) hF, ok, ms, my, fun H4 s4 => ⟨_, rfl, ?_⟩⟩
          rw [(OF F).symm, tc_eq ok] at en
          cases ha : apart F s.1 y.1
          · rw [ha] at en
            have en : XM.near (OF F) s.1 (l.drop (k + 1)) = none := en
            rw [met_none hs en] at em
            exact iteT ⟨_, _, rfl, s3.trans s4, em⟩
          · rw [ha] at en
            refine iteF ⟨_, rfl, s3.trans s4, ?_⟩
            rw [en]
            show ((XM.near (OF F) s.1 (l.drop (k + 1 + j + 1))).map (· + 1)).map (· + j) = _
            rw [Option.map_map, ← Nat.add_assoc]
            congr 1
            funext n
            show n + 1 + j = n + (j + 1)
            omega
      · subst eσ
        rw [hn, show l.drop (k + 1 + (l.length - (k + 1))) = [] from List.drop_eq_nil_iff.mpr (by omega)] at en
        rw [met_none hs en] at em
        exact ⟨_, _, rfl, s3, em⟩
    · subst eσ
      rw [hlx, List.drop_length] at em
      rw [em] at q
      exact q _ s2
theorem c__law_back3 (T : Tx K mg) : Cl P w K mg base CX0 1 "_law_back" (spBack K) := by
  refine cl0 T.d__law_back (ps := ["steps"]) (fun _ _ _ _ _ _ us hl => match us, hl with | [_], _ => rfl) sc__law_back (fun vs H Q E h => ?_) (fun f cdv A outer st H vs Q E hr h => ?_)
  · obtain ⟨a, l, rfl, _⟩ := h
    rfl
  · obtain ⟨a, l, rfl, hL, hl, q⟩ := h
    have nd := sc__law_back.nd
    obtain ⟨_, xs, e, hS, hD⟩ := hL.steps
    cases e
    have hlx := hD.len
    rw [List.length_map] at hlx
    refine ⟨_, pss_one (ps_ret (pe_tupleOf (by rfl) T.b_tuple (pe_lc (own := [("name", 1), ("times", 2)]) (g := gTup K 2 (gCons (gName 1) (gCons (gName 2) gNil))) (tt := tYes) (by rfl) nd (pi_tup (pe_revT (pv 0)))
      (blkOk_by (own := [("name", 1), ("times", 2)]) (N := ["steps", "name", "times"]) (sc := defScope s__law_back) (by decide +kernel))
      (fun _ _ _ _ _ => pg_tup rfl (pgs_cons (pg_name (i := 1) nd rfl (Or.inl rfl)) (pgs_cons (pg_name (i := 2) nd rfl (Or.inl rfl)) pgs_nil))) (fun _ _ _ _ _ => pts_nil)
      (fun _ _ _ _ _ => pe_tup (pa_cons (pv 1) (pa_cons (pe_un un_neg (pv 2)) pa_nil)))))), ?_⟩
    refine ⟨_, rfl, a, xs, rfl, hS, fun p hp => ⟨p, rfl, ⟨_, SqT.of upd_same⟩, fun D hD' => ?_⟩⟩
    have s0 : Same H (upd H p (.tup xs.reverse)) := same_upd hp
    have hB : SqT K (upd H p (.tup xs.reverse)) p xs.reverse := SqT.of upd_same
    have hR : DpAll K (upd H p (.tup xs.reverse)) xs.reverse (l.reverse.map dStep) := by
      rw [List.map_reverse]
      exact (DpAll.tk (Tk.of s0) _ (flat_all_steps l) hD).rev
    generalize upd H p (.tup xs.reverse) = H1 at s0 hB hR hD' ⊢
    refine lc_it (walk_tup (xs := xs.reverse)) (fun i H' => Row1 K H' D ((l.reverse.take i).map fun x => (x.1, -x.2)) ∧ Same H1 H') ⟨⟨[], upd_same, .nil⟩, same_upd hD'⟩ (fun _ _ _ ⟨_, s'⟩ => (Tk.of s').sqT hB) (fun i x H2 H3 hi ⟨⟨ys, eD, hY⟩, s'⟩ hy => ?_) (fun H2 ⟨⟨ys, eD, hY⟩, s'⟩ => ?_)
    · obtain ⟨rfl, hx⟩ := hy
      obtain ⟨dd, g1, p1⟩ := hR.get hx
      rw [List.getElem?_map] at g1
      obtain ⟨s, k1, rfl⟩ := Option.map_eq_some_iff.mp g1
      obtain ⟨b, rfl, cb⟩ := p1.step
      have hly := hY.len
      rw [List.length_map, List.length_map, List.length_take, List.length_reverse] at hly
      refine ⟨b, _, rfl, (Tk.of s').sqT cb, rfl, _, _, rfl, _, _, rfl, rfl, rfl, yes_ ?_⟩
      refine ⟨_, rfl, _, rfl, s.2, rfl, (show 2 ≤ sizeLine by decide), fun T hT => ⟨ys, ?_, small1000 (by omega), ?_, same_put (same_new s' hT) hD'⟩⟩
      · rw [upd_ne (ne_of_none eD hT)]
        exact eD
      · refine Row1.put (xs := ys) (by rw [upd_ne (ne_of_none eD hT)]; exact eD) ?_
        rw [take_snoc k1, List.map_append, List.map_append]
        exact (DpAll.tk (Tk.of (same_upd hT)) _ (flat_all_steps _) hY).app (.cons (Dp.of_step (s := (s.1, -s.2)) (SqT.of upd_same)) .nil)
    · rw [List.length_reverse, hlx, show l.length = l.reverse.length from (List.length_reverse).symm, List.take_length] at hY
      refine .inl ⟨D, ys, rfl, SqL.of eD, fun r hr' => q _ r (same_new (s0.trans s') hr') ?_⟩
      unfold XM.back
      rw [← List.map_reverse]
      exact .tup (SqT.of upd_same) (DpAll.tk (Tk.of (same_upd hr')) _ (flat_all_steps _) hY)
end
end XB
set_option Elab.async false
set_option linter.all false
set_option maxRecDepth 100000
set_option maxHeartbeats 4000000
namespace XB
open PySem PySem.Spec PyProof.Rows L2
theorem Row2.same {K : PySem.W.Frag} {H H' : Hp} {D : Addr} {l : List (Str × Int)} (h : Row2 K H D l) (s : Same H H') : Row2 K H' D l := by
  obtain ⟨xs, e, v⟩ := h
  exact ⟨xs, s _ _ e, DpAll.tk (Tk.of s) _ (flat_all_steps l) v⟩
theorem Row2.get {K : PySem.W.Frag} {H : Hp} {D : Addr} {l : List (Str × Int)} {k : Nat} {s : Str × Int} (h : Row2 K H D l) (e : l[k]? = some s) : ∃ xs b, SqL K H D xs ∧ atI xs (k : Int) = some (.ref b) ∧ SqT K H b [.str s.1, .int s.2] := by
  obtain ⟨xs, e1, v⟩ := h
  obtain ⟨b, hb, cb⟩ := v.step e
  exact ⟨xs, b, SqL.of e1, at_of (j := k) rfl hb, cb⟩
/-- two that come together, by two cuts -/
theorem melt_eq {α : Type} {l x : List α} {i j : Nat} (h1 : i < j) (h2 : j < l.length) : ((l.take j ++ l.drop (j + 1)).take i ++ x) ++ (l.take j ++ l.drop (j + 1)).drop (i + 1) = melt l x i j := by
  have l1 : (l.take j).length = j := by rw [List.length_take]; omega
  unfold melt
  rw [List.take_append_of_le_length (by omega), List.take_take, Nat.min_eq_left (by omega), List.drop_append_of_le_length (by omega), List.drop_take]
theorem dp_rep {K : PySem.W.Frag} {H : Hp} {xs : List V} {ds : List PyData} (h : DpAll K H xs ds) : ∀ n : Nat, DpAll K H (List.replicate n xs).flatten (List.replicate n ds).flatten
  | 0 => .nil
  | n + 1 => by
    rw [List.replicate_succ, List.replicate_succ, List.flatten_cons, List.flatten_cons]
    exact h.app (dp_rep h n)
def PileInv3 (K : PySem.W.Frag) (F : Fld) (H : Hp) (a p : Addr) (l : List (Str × Int)) : Nat → L2.St → Hp → Prop := fun m σ H2 => ∃ (D : Addr) (l' : List (Str × Int)) (z : V) (y4 y5 : Option V), m = l'.length ∧ σ = [some (.ref a), some (.ref p), some (.ref D), some z, y4, y5] ∧ Same H H2 ∧ Row2 K H2 D l' ∧ H D = none ∧
        Names F l' ∧ XM.NZ l' ∧ XM.act (OF F) l' [] = XM.act (OF F) l [] ∧ l'.length ≤ l.length ∧ SpotV K H2 z (XM.met (OF F) l')
section
variable {P : Program} {w : World} {K : PySem.W.Frag} {mg : Str → Option Value} {base : Heap}
theorem rowCat {H : Hp} {a b : Addr} {l m : List (Str × Int)} {Q : VK} (h1 : Row2 K H a l) (h2 : Row2 K H b m) (hl : l.length + m.length ≤ 900) (q : ∀ H' p, Same H H' → H p = none → Row2 K H' p (l ++ m) → Q (.ref p) H') : rCat (.ref a) (.ref b) H Q := by
  obtain ⟨xs, e1, v1⟩ := h1
  obtain ⟨ys, e2, v2⟩ := h2
  have l1 := v1.len
  have l2 := v2.len
  rw [List.length_map] at l1 l2
  refine catL e1 e2 (Nat.le_of_lt (small1000 (by omega))) fun H' p s hp e => q H' p s hp ⟨_, e, ?_⟩
  rw [List.map_append]
  exact (DpAll.tk (Tk.of s) _ (flat_all_steps l) v1).app (DpAll.tk (Tk.of s) _ (flat_all_steps m) v2)
theorem rowTake {H : Hp} {a : Addr} {l : List (Str × Int)} {k : Nat} {Q : VK} (h : Row2 K H a l) (q : ∀ H' p, Same H H' → H p = none → Row2 K H' p (l.take k) → Q (.ref p) H') : rSlL K (.ref a) none (some (k : Int)) H Q := by
  obtain ⟨xs, e, v⟩ := h
  refine slL e fun H' p s hp e' => q H' p s hp ⟨xs.take k, ?_, ?_⟩
  · rw [cut_init] at e'
    exact e'
  · rw [List.map_take]
    exact (DpAll.tk (Tk.of s) _ (flat_all_steps l) v).take k
theorem rowDrop {H : Hp} {a : Addr} {l : List (Str × Int)} {k : Nat} {Q : VK} (h : Row2 K H a l) (q : ∀ H' p, Same H H' → H p = none → Row2 K H' p (l.drop k) → Q (.ref p) H') : rSlL K (.ref a) (some (k : Int)) none H Q := by
  obtain ⟨xs, e, v⟩ := h
  refine slL e fun H' p s hp e' => q H' p s hp ⟨xs.drop k, ?_, ?_⟩
  · rw [cut_from] at e'
    exact e'
  · rw [List.map_drop]
    exact (DpAll.tk (Tk.of s) _ (flat_all_steps l) v).drop k
def spPile3 (K : PySem.W.Frag) (F : Fld) : Sp := fun vs H Q _ => ∃ (a p : Addr) (xs : List V) (l : List (Str × Int)), vs = [.ref a, .ref p] ∧ Dp K H (.ref a) (dField F) ∧ F.Ok ∧ SqX K H p xs ∧ DpAll K H xs (l.map dStep) ∧ Names F l ∧ XM.NZ l ∧ l.length ≤ 200 ∧
  ∀ H' r l', Same H H' → Row2 K H' r l' → H r = none → Names F l' → XM.NZ l' → XM.pl (OF F) l' = true → XM.act (OF F) l' [] = XM.act (OF F) l [] → l'.length ≤ l.length → Q (.ref r) H'
theorem c__law_pile3 (T : Tx K mg) (F : Fld) : Cl P w K mg base CX0 3 "_law_pile" (spPile3 K F) := by
  refine cl0 T.d__law_pile (ps := ["field", "steps"]) (fun _ _ _ _ _ _ us hl => match us, hl with | [_, _], _ => rfl) sc__law_pile (fun vs H Q E h => ?_) (fun f cdv A outer st H vs Q E hr h => ?_)
  · obtain ⟨a, p, xs, l, rfl, _⟩ := h
    rfl
  · obtain ⟨a, p, xs, l, rfl, hF, ok, hS, hV, hN, hZ, hl, q⟩ := h
    have nd := sc__law_pile.nd
    refine ⟨_, (pss_cons (ps_set (i := 2) nd rfl (.inl rfl) (pe_callTy call_list_of (by rfl) T.b_list (by decide +kernel) (pa_cons (pv 1) pa_nil)))
    (pss_cons (ps_set (i := 3) nd rfl (.inl rfl) (pe_k (c__law_meet T F) hr (by decide) (by rfl) (pa_cons (pv 0) (pa_cons (pv 2) pa_nil))))
    (pss_cons (ps_while PassesOwn.never (pt_cmpR op_notN (pv 3) pe_non (nomark _))
    (pss_cons (ps_par (i := 4) (j := 5) rfl nd rfl rfl (by decide) rfl rfl (pa_cons (pe_ix (ixk_tup (K := K) rfl) (pe_ix (ixk_list (K := K) rfl) (pv 2) (pe_ix (ixk_tup (K := K) rfl) (pv 3) pe_int (fun _ _ => rfl)) (fun _ _ => rfl)) pe_int (fun _ _ => rfl)) (pa_cons (pe_op op_add (pe_ix (ixk_tup (K := K) rfl) (pe_ix (ixk_list (K := K) rfl) (pv 2) (pe_ix (ixk_tup (K := K) rfl) (pv 3) pe_int (fun _ _ => rfl)) (fun _ _ => rfl)) pe_int (fun _ _ => rfl)) (pe_ix (ixk_tup (K := K) rfl) (pe_ix (ixk_list (K := K) rfl) (pv 2) (pe_ix (ixk_tup (K := K) rfl) (pv 3) pe_int (fun _ _ => rfl)) (fun _ _ => rfl)) pe_int (fun _ _ => rfl))) pa_nil)) rfl)
    (pss_cons (ps_set (i := 2) nd rfl (.inl rfl) (pe_op op_cat (pe_slice sl_list (pv 2) po_none (po_some (pe_ix (ixk_tup (K := K) rfl) (pv 3) pe_int (fun _ _ => rfl)))) (pe_slice sl_list (pv 2) (po_some (pe_op op_add (pe_ix (ixk_tup (K := K) rfl) (pv 3) pe_int (fun _ _ => rfl)) pe_int)) po_none)))
    (pss_cons (ps_set (i := 2) nd rfl (.inl rfl) (pe_op op_cat (pe_op op_cat (pe_slice sl_list (pv 2) po_none (po_some (pe_ix (ixk_tup (K := K) rfl) (pv 3) pe_int (fun _ _ => rfl)))) (pe_op op_rep (pe_lst (pa_cons (pe_tup (pa_cons (pv 4) (pa_cons (pv 5) pa_nil))) pa_nil)) (pe_callTy call_int1 (by rfl) T.b_int (by decide +kernel) (pa_cons (pe_cmpR op_ne (pv 5) pe_int (nomark _)) pa_nil)))) (pe_slice sl_list (pv 2) (po_some (pe_op op_add (pe_ix (ixk_tup (K := K) rfl) (pv 3) pe_int (fun _ _ => rfl)) pe_int)) po_none)))
    (pss_one (ps_set (i := 3) nd rfl (.inl rfl) (pe_k (c__law_meet T F) hr (by decide) (by rfl) (pa_cons (pv 0) (pa_cons (pv 2) pa_nil)))))))))
    (pss_one (ps_ret (pv 2)))))), ?_⟩
    have K1 : ∀ {H2 : Hp}, Same H H2 → Dp K H2 (.ref a) (dField F) := fun s => Dp.tk (Tk.of s) _ (flat_field F) hF
    refine ⟨_, rfl, p, xs, rfl, hS, fun D hD0 => upd_gen hD0 fun H1 s1 e1 => ?_⟩
    have hD1 : Row2 K H1 D l := ⟨xs, e1, DpAll.tk (Tk.of s1) _ (flat_all_steps l) hV⟩
    obtain ⟨xs1, eD1, hV1⟩ := id hD1
    refine ⟨_, rfl, _, rfl, a, D, xs1, l, rfl, K1 s1, ok, .inl (SqL.of eD1), hV1, hN, hl, metV_of fun H2 z s2 hz => ?_⟩
    refine ⟨PileInv3 K F H a p l, ⟨_, D, l, z, none, none, rfl, rfl, s1.trans s2, hD1.same s2, hD0, hN, hZ, rfl, Nat.le_refl _, hz⟩, ?_⟩
    rintro m σ H3 ⟨D, l', z, y4, y5, rfl, rfl, s3, hD, hD0, hN', hZ', ea, hle, hz⟩
    refine ⟨_, rfl, rfl, _, rfl, ?_⟩
    cases hm : XM.met (OF F) l' with
    | none =>
      rw [hm] at hz
      have hz : z = .non := hz
      subst hz
      refine iteF ⟨_, rfl, q _ D l' s3 hD hD0 hN' hZ' (XM.met_pl.mp hm) ea hle⟩
    | some ij =>
      obtain ⟨i, j⟩ := ij
      rw [hm] at hz
      obtain ⟨t, rfl, ht⟩ := hz
      obtain ⟨nm, s, u, hi, hj, hij, hjl, hx⟩ := melt_step hm hZ' hN'
      obtain ⟨xs3, b1, q1, q2, q3⟩ := hD.get hi
      obtain ⟨xs4, b2, q4, q5, q6⟩ := hD.get hj
      refine iteT ⟨fun σ' H' => ∃ m', m' < l'.length ∧ PileInv3 K F H a p l m' σ' H', fun _ _ h => h, ?_⟩
      refine ⟨_, rfl, _, rfl, _, _, _, _, rfl, rfl, ht, rfl, _, _, _, _, rfl, rfl, q1, q2, _, _, _, _, rfl, rfl, q3, rfl, ?_⟩
      refine ⟨_, rfl, _, rfl, _, _, _, _, rfl, rfl, ht, rfl, _, _, _, _, rfl, rfl, q1, q2, _, _, _, _, rfl, rfl, q3, rfl, ?_⟩
      refine ⟨_, rfl, _, rfl, _, _, _, _, rfl, rfl, ht, rfl, _, _, _, _, rfl, rfl, q4, q5, _, _, _, _, rfl, rfl, q6, rfl, s, u, rfl, rfl, _, _, rfl, ?_⟩
      refine ⟨_, rfl, ?_⟩
      refine noPart ⟨_, rfl, _, _, _, _, rfl, rfl, ht, rfl, (j : Int), rfl, rowTake hD fun H4 p4 s4 n4 r4 => ?_⟩
      refine ⟨_, rfl, _, rfl, _, _, _, _, rfl, rfl, (Tk.of s4).sqT ht, rfl, _, _, rfl, rfl, ((j + 1 : Nat) : Int), rfl, ?_⟩
      refine noPart (rowDrop (hD.same s4) fun H5 p5 s5 n5 r5 => ?_)
      refine rowCat (r4.same s5) r5 (by rw [List.length_take, List.length_drop]; omega) fun H6 p6 s6 n6 r6 => ?_
      have s36 := (s4.trans s5).trans s6
      refine ⟨_, rfl, ?_⟩
      refine noPart ⟨_, rfl, _, _, _, _, rfl, rfl, (Tk.of s36).sqT ht, rfl, (i : Int), rfl, rowTake r6 fun H7 p7 s7 n7 r7 => ?_⟩
      refine ⟨_, rfl, _, rfl, two_sz, fun T hT => upd_gen hT fun H8 s8 e8 => ⟨one_sz, fun L hL => upd_gen hL fun H9 s9 e9 => ?_⟩⟩
      have rL : Row2 K H9 L [(nm, s + u)] := ⟨_, e9, .cons (Dp.of_step (s := (nm, s + u)) ((Tk.of s9).sqT (SqT.of e8))) .nil⟩
      have s79 := s8.trans s9
      refine ⟨_, rfl, rfl, .inr ⟨_, rfl, ?_⟩⟩
      obtain ⟨xsL, eL, vL⟩ := id rL
      obtain ⟨k, hk, k1, hkX⟩ : ∃ k : Nat, (if (!decide (V.int (s + u) = V.int 0)) = true then (1 : Int) else 0) = (k : Int) ∧ k ≤ 1 ∧ (if s + u = 0 then [] else [(nm, s + u)]) = (List.replicate k [(nm, s + u)]).flatten := by
        rw [dec_int]
        by_cases h0 : s + u = 0
        · exact ⟨0, by simp [h0], by omega, by rw [if_pos h0]; rfl⟩
        · exact ⟨1, by simp [h0], by omega, by rw [if_neg h0]; rfl⟩
      have lL := vL.len
      rw [List.length_map, List.length_singleton] at lL
      have lX : (if s + u = 0 then [] else [(nm, s + u)]).length ≤ 1 := by split <;> simp
      obtain ⟨f1, f2, f3, f4⟩ := hx _ rfl
      generalize (if s + u = 0 then [] else [(nm, s + u)]) = X at hkX lX f1 f2 f3 f4
      refine ⟨L, (k : Int), xsL, rfl, congrArg V.int hk, eL, by omega, by omega, Nat.le_trans (show xsL.length * (k : Int).toNat ≤ 1 * 1 from Nat.mul_le_mul (by omega) (by omega)) (by decide), fun p10 n10 => upd_gen n10 fun H10 s10 e10 => ?_⟩
      have rX : Row2 K H10 p10 X := ⟨_, e10, by
        rw [hkX, List.map_flatten, List.map_replicate]
        exact dp_rep (DpAll.tk (Tk.of s10) _ (flat_all_steps _) vL) _⟩
      have s710 := s79.trans s10
      refine rowCat (r7.same s710) rX (by rw [List.length_take, List.length_append, List.length_take, List.length_drop]; omega) fun H11 p11 s11 n11 r11 => ?_
      have s711 := s710.trans s11
      have s611 := s7.trans s711
      have s311 := s36.trans s611
      refine ⟨_, rfl, _, rfl, _, _, _, _, rfl, rfl, (Tk.of s311).sqT ht, rfl, _, _, rfl, rfl, ((i + 1 : Nat) : Int), rfl, ?_⟩
      refine noPart (rowDrop (r6.same s611) fun H12 p12 s12 n12 r12 => ?_)
      have s312 := s311.trans s12
      refine rowCat (r11.same s12) r12 (by simp only [List.length_take, List.length_append, List.length_drop]; omega) fun H13 p13 s13 n13 r13 => ?_
      have s313 := s312.trans s13
      rw [melt_eq hij hjl] at r13
      obtain ⟨xs13, e13, v13⟩ := id r13
      have n13 : H p13 = none := by
        cases e : H p13 with
        | none => rfl
        | some o =>
          rw [s312 _ _ (s3 _ _ e)] at n13
          cases n13
      refine ⟨_, rfl, _, rfl, a, p13, xs13, _, rfl, K1 (s3.trans s313), ok, .inl (SqL.of e13), v13, f2, by omega, metV_of fun H14 z s14 hz => ?_⟩
      exact ⟨_, f4, p13, _, z, _, _, rfl, rfl, (s3.trans s313).trans s14, r13.same s14, n13, f2, f1, f3.trans ea, by omega, hz⟩
end
end XB
set_option Elab.async false
set_option linter.all false
set_option maxRecDepth 100000
set_option maxHeartbeats 4000000
namespace XB
open PySem PySem.Spec PyProof.Rows L2
section
variable {P : Program} {w : World} {K : PySem.W.Frag} {mg : Str → Option Value} {base : Heap}
def spFirsts3 (K : PySem.W.Frag) (F : Fld) : Sp := fun vs H Q _ => ∃ (a p : Addr) (xs : List V) (l : List (Str × Int)), vs = [.ref a, .ref p] ∧ Dp K H (.ref a) (dField F) ∧ F.Ok ∧ SqX K H p xs ∧ DpAll K H xs (l.map dStep) ∧ Names F l ∧ l.length ≤ 200 ∧
  ∀ H' r, Same H H' → H' r = some (.lst ((firstsL F l l.length).map fun k => V.int (k : Nat))) → H r = none → Q (.ref r) H'
theorem c__law_firsts3 (T : Tx K mg) (F : Fld) : Cl P w K mg base CX0 2 "_law_firsts" (spFirsts3 K F) := by
  refine cl0 T.d__law_firsts (ps := ["field", "steps"]) (fun _ _ _ _ _ _ us hl => match us, hl with | [_, _], _ => rfl) sc__law_firsts (fun vs H Q E h => ?_) (fun f cdv A outer st H vs Q E hr h => ?_)
  · obtain ⟨a, p, xs, l, rfl, _⟩ := h
    rfl
  · obtain ⟨a, p, xs, l, rfl, hF, ok, hS, hD, hN, hl60, q⟩ := h
    have nd := sc__law_firsts.nd
    have hlx := hD.len
    rw [List.length_map] at hlx
    refine ⟨_, (pss_cons (ps_set (i := 2) nd rfl (.inl rfl) (pe_lst pa_nil))
    (pss_cons (ps_for PassesOwn.never rfl (pi_range1 (by rfl) T.b_range (pa_cons (pe_lenS (by rfl) T.b_len (pv 1)) pa_nil)) (pg_name (i := 3) nd rfl (.inr rfl))
    (pss_one (ps_if (pt_cmpR (op_eqD hr.units) (pe_lc (own := [("step", 4)]) (g := (gName 4)) (tt := _) (by rfl) nd (pi_row (pe_slice (slk_row (K := K) rfl) (pv 1) po_none (po_some (pv 3)))) (blkOk_by (own := [("step", 4)]) (N := ["field", "steps", "found", "k", "step"]) (sc := defScope s__law_firsts) (by decide +kernel)) (fun _ _ _ _ _ => (pg_name (i := 4) nd rfl (by first | exact Or.inl rfl | exact Or.inr rfl))) (fun _ _ _ _ _ => pts_one (pt_not (pt_val (pe_k (c__law_apart2 T F) hr (by decide) (by rfl) (pa_cons (pv 0) (pa_cons (pe_ix (ixk_tup (K := K) rfl) (pv 4) pe_int (fun _ _ => rfl)) (pa_cons (pe_ix (ixk_tup (K := K) rfl) (pe_ix (ixk_row (K := K) rfl) (pv 1) (pv 3) (fun _ _ => rfl)) pe_int (fun _ _ => rfl)) pa_nil))))))) (fun _ _ _ _ _ => (pv 4))) (pe_lst pa_nil) (nomark _)) (pss_one (ps_expr (pe_bm PySem.F.plainAttrs_list PySem.F.slot_list_append PySem.F.type_list_append mt_append (pv 2) (pa_cons (pv 3) pa_nil)))) pss_nil)))
    (pss_one (ps_ret (pv 2))))), ?_⟩
    refine ⟨by decide, fun D hD0 => upd_gen hD0 fun H1 s1 e1 => ?_⟩
    refine ⟨_, rfl, p, xs, rfl, hS.same s1, xs.length, rfl, by omega, by omega, ?_⟩
    refine for_range (lo := 0) (n := xs.length) (fun k σ H2 => ∃ (y3 y4 : Option V), σ = [some (.ref a), some (.ref p), some (.ref D), y3, y4] ∧ Same H H2 ∧ H2 D = some (.lst ((firstsL F l k).map fun k => V.int (k : Nat))))
      ⟨none, none, rfl, s1, e1⟩ (fun k σ H2 hk ⟨y3, y4, eσ, s2, eD⟩ => ?_) (fun σ H2 ⟨y3, y4, eσ, s2, eD⟩ => ?_)
    · subst eσ
      have hs : l[k]? = some l[k] := List.getElem?_eq_getElem (by omega)
      have ms := hN _ (List.mem_of_getElem? hs)
      generalize l[k] = s at hs ms
      obtain ⟨b, hb, cb⟩ := (DpAll.tk (Tk.of s2) _ (flat_all_steps l) hD).step hs
      rw [Int.zero_add]
      refine ⟨_, rfl, ?_⟩
      refine noPart ?_
      refine ⟨_, rfl, (k : Int), rfl, p, xs, rfl, hS.same s2, fun H3 r s3 hr3 => ?_⟩
      rw [cut_init] at hr3
      have hlk : (xs.take k).length = k := by
        rw [List.length_take]
        omega
      have hDk : DpAll K H (xs.take k) ((l.take k).map dStep) := by
        rw [List.map_take]
        exact hD.take k
      refine ⟨r, _, rfl, hr3, fun J G hG W => fun D2 hD2 => ?_⟩
      refine lc_it W (fun i H' => Row2 K H' D2 (((l.take k).take i).filter fun y => (OF F).tc y.1 s.1) ∧ Same H3 H') ⟨⟨[], upd_same, .nil⟩, same_upd hD2⟩ (fun _ _ _ ⟨_, s'⟩ => hG _ s') (fun i x H4 H5 hi ⟨⟨ys, eD2, hY⟩, s'⟩ hy => ?_) (fun H4 ⟨⟨ys, eD2, hY⟩, s'⟩ => ?_)
      · obtain ⟨rfl, hx⟩ := hy
        obtain ⟨dd, g1, p1⟩ := hDk.get hx
        rw [List.getElem?_map] at g1
        obtain ⟨y, k1, rfl⟩ := Option.map_eq_some_iff.mp g1
        obtain ⟨c, rfl, cc⟩ := p1.step
        have my : y.1 ∈ F.names := hN _ (List.mem_of_mem_take (List.mem_of_getElem? k1))
        have s5 := (s2.trans s3).trans s'
        have hly := hY.len
        rw [List.length_map] at hly
        have hlf := List.length_filter_le (fun y => (OF F).tc y.1 s.1) ((l.take k).take i)
        rw [List.length_take, List.length_take] at hlf
        refine ⟨rfl, _, rfl, _, rfl, _, _, _, _, rfl, rfl, (Tk.of s5).sqT cc, rfl, _, rfl, _, rfl, _, _, _, _, rfl, rfl, hS.same s5, at_of (j := k) rfl hb, _, _, _, _, rfl, rfl, (Tk.of (s3.trans s')).sqT cb, rfl, ?_⟩
        refine ⟨a, y.1, s.1, rfl, Dp.tk (Tk.of s5) _ (flat_field F) hF, ok, my, ms, fun H6 s6 => ⟨_, rfl, ?_⟩⟩
        rw [take_snoc k1, List.filter_append]
        have et := tc_eq ok y.1 s.1
        cases ha : apart F y.1 s.1
        · rw [ha] at et
          have et : (OF F).tc y.1 s.1 = true := et
          have eD6 := s6 _ _ eD2
          refine iteT ⟨_, rfl, ys, eD6, small1000 (by omega), ?_, same_put (s'.trans s6) hD2⟩
          refine ⟨_, upd_same, ?_⟩
          rw [show List.filter (fun y => (OF F).tc y.1 s.1) [y] = [y] by simp [et], List.map_append]
          have t6 : Tk H5 (upd H6 D2 (.lst (ys ++ [.ref c]))) := (Tk.of s6).lst eD6
          exact (DpAll.tk t6 _ (flat_all_steps _) hY).app (.cons (Dp.of_step (s := y) (t6.sqT ((Tk.of s5).sqT cc))) .nil)
        · rw [ha] at et
          have et : (OF F).tc y.1 s.1 = false := et
          refine iteF ⟨?_, s'.trans s6⟩
          refine ⟨ys, s6 _ _ eD2, ?_⟩
          rw [show List.filter (fun y => (OF F).tc y.1 s.1) [y] = [] by simp [et], List.append_nil]
          exact DpAll.tk (Tk.of s6) _ (flat_all_steps _) hY
      · rw [hlk, List.take_of_length_le (by rw [List.length_take]; omega)] at hY
        refine ⟨by decide, fun E hE => upd_gen hE fun H5 s6 eE => ?_⟩
        have s26 := (s2.trans s3).trans (s'.trans s6)
        have eDD := (s3.trans (s'.trans s6)) _ _ eD
        have hYE := DpAll.tk (Tk.of s6) _ (flat_all_steps _) hY
        refine ⟨.list (((l.take k).filter fun y : Str × Int => (OF F).tc y.1 s.1).map dStep), .list [], .lst (SqL.of (s6 _ _ eD2)) hYE, .lst (SqL.of eE) .nil, sh_steps (fun y hy => ok.sgn _ (hN y (List.mem_of_mem_take (List.mem_filter.mp hy).1))), rfl, _, rfl, ?_⟩
        rw [ne_steps, firsts_snoc]
        have ef : free1 F l k = ((l.take k).filter fun y => (OF F).tc y.1 s.1).isEmpty := by
          unfold free1
          rw [hs]
          show (l.take k).all _ = _
          rw [Bool.eq_iff_iff, List.all_eq_true, List.isEmpty_iff, List.filter_eq_nil_iff]
          simp
        rw [← ef]
        cases hfr : free1 F l k
        · refine iteF ⟨_, _, rfl, s26, ?_⟩
          rw [eDD, if_neg Bool.false_ne_true, List.append_nil]
        · refine iteT ⟨_, rfl, Or.inl ⟨rfl, _, SqL.of eDD⟩, _, rfl, D, _, _, rfl, rfl, eDD, ?_, ?_⟩
          · rw [List.length_map]
            have := firsts_len (F := F) (l := l) (n := k)
            exact small1000 (by omega)
          · refine ⟨_, _, rfl, same_put s26 hD0, ?_⟩
            rw [upd_same, if_pos rfl, List.map_append]
            rfl
    · subst eσ
      rw [hlx] at eD
      exact ⟨_, rfl, q _ D s2 eD hD0⟩
end
end XB
set_option Elab.async false
set_option linter.all false
set_option maxRecDepth 100000
set_option maxHeartbeats 4000000
/-! min of a list of alike data -/
namespace XB
open PySem PySem.Spec PyProof.Rows L2
theorem cr_minD {X : Cx} {K : PySem.W.Frag} (hk : X.K = K) (hc : X.calm = true) (hu : X.A.units + 65 < cLine) : CallR X (.builtin "min") (fun vs H Q => ∃ (a : Addr) (ys : List V) (x : PyData) (xs : List PyData), vs = [.ref a] ∧ SqL K H a ys ∧ DpAll K H ys (x :: xs) ∧ PySem.W.AlikeAll (x :: xs) ∧ PyData.depthAll (x :: xs) < 64 ∧
    ∀ (i : Nat) v, ys[i]? = some v → (x :: xs)[i]? = some (PySem.W.minD x xs) → Q v H) := by
  subst hk
  intro pins s σ H vs us Q I r h
  obtain ⟨a, ys, x, xs, rfl, hs, hD, ha, hdp, q⟩ := h
  obtain ⟨its, rv, hl, _⟩ := I.list hs
  rw [Vals.ref1 r]
  obtain ⟨as, rs⟩ := Dp.readsAll I (x :: xs) ys its hD rv
  refine PySem.W.min_list_data (I.ok.hd hc) hl.isList rs ha (by omega) fun i v h' tk bs hi r hk => ?_
  have hi' : its[i]? = some v := by simpa using hi
  obtain ⟨cs, r2, hlt, _, _⟩ := PySem.W.readsAll_at rs i v hi'
  have e := (PyProof.Rows.reads_det (fun b o e _ => hk b o e) r2 r).1
  have hyl : i < ys.length := by
    rw [rv.length]
    exact (List.getElem?_eq_some_iff.mp hi').1
  obtain ⟨u, h1, h2⟩ := Vals.get rv (List.getElem?_eq_getElem hyl)
  rw [hi'] at h1
  cases h1
  refine ⟨_, H, I.kept hk, h2, q i _ (List.getElem?_eq_getElem hyl) ?_⟩
  rw [e, List.getElem?_eq_getElem hlt, List.getD_eq_getElem?_getD, List.getElem?_eq_getElem hlt]
  rfl
theorem lt_step (a b : Str) (i j : Int) : PySem.W.dataLt (.tuple [.str a, .int i]) (.tuple [.str b, .int j]) = if a = b then decide (i < j) else sLt a b := by
  unfold PySem.W.dataLt
  have e : ∀ (a : Str) (i : Int), PySem.W.keyToks (.tuple [.str a, .int i]) = [.inl 1, .inr a.cps.toList, .inl 1, .inl i, .inl 0] := fun a i => by
    simp [PySem.W.keyToks, PySem.W.keyToksAll]
  rw [e, e, lex_self]
  by_cases h : a = b
  · rw [if_pos h, h, lex_self, lex_self]
    by_cases h2 : i = j
    · rw [h2, lex_self, lex_self]
      simp
      rfl
    · rw [lex_diff (O := itemOrd) (fun q => h2 (Sum.inl.inj q))]
      rfl
  · rw [if_neg h, lex_diff (O := itemOrd) (fun q => h (PySem.W.str_of_cps (Sum.inr.inj q)))]
    rfl
end XB
set_option Elab.async false
set_option linter.all false
set_option maxRecDepth 100000
set_option maxHeartbeats 4000000
namespace XB
open PySem PySem.Spec PyProof.Rows L2
/-- the least pile of steps -/
def lpile (F : Fld) (l : List (Str × Int)) : List (Str × Int) := (XM.act (OF F) l []).reverse
/-- what stands fast while the least pile is drawn from a pile -/
structure LJ (F : Fld) (l fl ll : List (Str × Int)) : Prop where
  srt : XM.Srt (OF F) fl ll
  pl : XM.pl (OF F) (fl ++ ll) = true
  nf : XM.NZ fl
  nl : XM.NZ ll
  act : XM.act (OF F) (fl ++ ll) [] = XM.act (OF F) l []
  nm : Names F ll
  len : fl.length + ll.length ≤ 200
theorem LJ.step {F : Fld} {l fl p q : List (Str × Int)} {s : Str × Int} (I : LJ F l fl (p ++ s :: q)) (L : XM.LeastFirst (OF F) p s q) : LJ F l (fl ++ [s]) (p ++ q) := by
  have zs : s.2 ≠ 0 := I.nl s (by simp)
  have zp : XM.NZ p := fun y hy => I.nl y (by simp [hy])
  have zq : XM.NZ q := fun y hy => I.nl y (by simp [hy])
  refine ⟨I.srt.step L, ?_, I.nf.app fun y hy => by rw [List.mem_singleton.mp hy]; exact zs, zp.app zq, ?_, fun y hy => I.nm y ?_, ?_⟩
  · rw [List.append_assoc, List.singleton_append, ← XM.pl_move L.free]
    exact I.pl
  · rw [List.append_assoc, List.singleton_append, ← XM.act_move L.free I.nf zp (show XM.NF (OF F) [] from trivial)]
    exact I.act
  · rw [List.mem_append] at hy
    rcases hy with h | h <;> simp [h]
  · have := I.len
    simp at this ⊢
    omega
theorem LJ.done {F : Fld} {l fl : List (Str × Int)} (I : LJ F l fl []) : lpile F l = fl := by
  have h := I.pl
  have nf : XM.NF (OF F) fl.reverse := XM.nf_of (left := []) _ fl rfl I.srt h I.nf
  have a := XM.act_fix nf
  rw [List.reverse_reverse] at a
  have := I.act
  rw [List.append_nil, a] at this
  unfold lpile
  rw [← this, List.reverse_reverse]
/-- the pair of a first piece -/
def pr (l : List (Str × Int)) (k : Nat) : Str × Int := (nm1 l k, (k : Int))
theorem min_mem {x : PyData} : ∀ {xs : List PyData}, PySem.W.minD x xs ∈ x :: xs
  | [] => List.mem_cons_self
  | y :: xs => by
    show PySem.W.minD (if PySem.W.dataLt y x then y else x) xs ∈ _
    have := min_mem (x := if PySem.W.dataLt y x then y else x) (xs := xs)
    rcases List.mem_cons.mp this with h | h
    · rw [h]
      split <;> simp
    · exact List.mem_cons_of_mem _ (List.mem_cons_of_mem _ h)
theorem min_steps {x : Str × Int} : ∀ {xs : List (Str × Int)}, ∃ m ∈ x :: xs, PySem.W.minD (dStep x) (xs.map dStep) = dStep m ∧ ∀ y ∈ x :: xs, y.1 = m.1 ∨ sLt m.1 y.1 = true
  | [] => ⟨x, List.mem_cons_self, rfl, fun y hy => .inl (by rw [List.mem_singleton.mp hy])⟩
  | y :: xs => by
    have hd : PySem.W.dataLt (dStep y) (dStep x) = if y.1 = x.1 then decide (y.2 < x.2) else sLt y.1 x.1 := lt_step y.1 x.1 y.2 x.2
    show ∃ m ∈ x :: y :: xs, PySem.W.minD (if PySem.W.dataLt (dStep y) (dStep x) then dStep y else dStep x) (xs.map dStep) = dStep m ∧ _
    by_cases h : PySem.W.dataLt (dStep y) (dStep x) = true
    · rw [if_pos h]
      obtain ⟨m, h1, h2, h3⟩ := min_steps (x := y) (xs := xs)
      refine ⟨m, List.mem_cons_of_mem _ h1, h2, fun z hz => ?_⟩
      rcases List.mem_cons.mp hz with e | hz
      · rw [e]
        rw [hd] at h
        have hy := h3 y List.mem_cons_self
        by_cases e2 : y.1 = x.1
        · rw [← e2]
          exact hy
        · rw [if_neg e2] at h
          rcases hy with q | q
          · right
            rw [← q]
            exact h
          · exact .inr (sLt_trans _ _ _ q h)
      · exact h3 z hz
    · rw [if_neg h]
      obtain ⟨m, h1, h2, h3⟩ := min_steps (x := x) (xs := xs)
      refine ⟨m, ?_, h2, fun z hz => ?_⟩
      · rcases List.mem_cons.mp h1 with q | q
        · rw [q]
          exact List.mem_cons_self
        · exact List.mem_cons_of_mem _ (List.mem_cons_of_mem _ q)
      · rcases List.mem_cons.mp hz with e | hz
        · rw [e]
          exact h3 x List.mem_cons_self
        · rcases List.mem_cons.mp hz with e | hz
          · rw [e]
            rw [hd] at h
            have hx := h3 x List.mem_cons_self
            by_cases e2 : y.1 = x.1
            · rw [e2]
              exact hx
            · rw [if_neg e2] at h
              have : sLt x.1 y.1 = true := sLt_tot _ _ (fun q => e2 q) (by simpa using h)
              rcases hx with q | q
              · right
                rw [← q]
                exact this
              · exact .inr (sLt_trans _ _ _ q this)
          · exact h3 z (List.mem_cons_of_mem _ hz)
theorem least_of {F : Fld} {l : List (Str × Int)} {k : Nat} (hk : k ∈ firstsL F l l.length) (hm : ∀ j ∈ firstsL F l l.length, nm1 l j = nm1 l k ∨ sLt (nm1 l k) (nm1 l j) = true) :
    ∃ s, l[k]? = some s ∧ l = l.take k ++ s :: l.drop (k + 1) ∧ XM.LeastFirst (OF F) (l.take k) s (l.drop (k + 1)) := by
  obtain ⟨s, hs, hf⟩ := firsts_at hk
  have e2 : l = l.take k ++ s :: l.drop (k + 1) := by
    rw [← drop_at hs, List.take_append_drop]
  refine ⟨s, hs, e2, hf, fun p' z q' e hp hz => ?_⟩
  rw [← e2] at e
  have hz' : l[p'.length]? = some z := by
    rw [e, List.getElem?_append_right (Nat.le_refl _), Nat.sub_self]
    rfl
  have m : p'.length ∈ firstsL F l l.length := by
    refine mem_firsts.mpr ⟨(List.getElem?_eq_some_iff.mp hz').1, ?_⟩
    unfold free1
    rw [hz']
    show (l.take p'.length).all _ = true
    rw [e, List.take_left' rfl, List.all_eq_true]
    intro w hw
    rw [hp w hw]
    rfl
  have := hm _ m
  rw [nm1_of hz', nm1_of hs] at this
  exact this.resolve_left hz
def LJInv3 (K : PySem.W.Frag) (F : Fld) (H : Hp) (a p : Addr) (l : List (Str × Int)) : Nat → L2.St → Hp → Prop := fun m σ H2 => ∃ (D E : Addr) (ll fl : List (Str × Int)) (y4 y5 : Option V), m = ll.length ∧ σ = [some (.ref a), some (.ref p), some (.ref D), some (.ref E), y4, y5] ∧ Same H H2 ∧
  Row2 K H2 D ll ∧ Dp K H2 (.ref E) (dSteps fl) ∧ LJ F l fl ll
section
variable {P : Program} {w : World} {K : PySem.W.Frag} {mg : Str → Option Value} {base : Heap}
def spLawLeast3 (K : PySem.W.Frag) (F : Fld) : Sp := fun vs H Q _ => ∃ (a p : Addr) (xs : List V) (l : List (Str × Int)), vs = [.ref a, .ref p] ∧ Dp K H (.ref a) (dField F) ∧ F.Ok ∧ SqX K H p xs ∧ DpAll K H xs (l.map dStep) ∧ Names F l ∧ XM.NZ l ∧ l.length ≤ 200 ∧
  ∀ H' r, Same H H' → Dp K H' (.ref r) (dSteps (lpile F l)) → Q (.ref r) H'
theorem c__law_least3 (T : Tx K mg) (F : Fld) : Cl P w K mg base CX0 4 "_law_least" (spLawLeast3 K F) := by
  refine cl0 T.d__law_least (ps := ["field", "steps"]) (fun _ _ _ _ _ _ us hl => match us, hl with | [_, _], _ => rfl) sc__law_least (fun vs H Q E h => ?_) (fun fa cdv A outer st H vs Q E hr h => ?_)
  · obtain ⟨a, p, xs, l, rfl, _⟩ := h
    rfl
  · obtain ⟨a, p, xs, l, rfl, hF, ok, hS, hV, hN, hZ, hl, q⟩ := h
    have nd := sc__law_least.nd
    have hu := u65 hr
    refine ⟨_, (pss_cons (ps_asg (pe_tup (pa_cons (pe_k (c__law_pile3 T F) hr (by decide) (by rfl) (pa_cons (pv 0) (pa_cons (pv 1) pa_nil))) (pa_cons (pe_tup pa_nil) pa_nil))) (pg_tup rfl (pgs_cons (pg_name (i := 2) nd rfl (.inr rfl)) (pgs_cons (pg_name (i := 3) nd rfl (.inl rfl)) pgs_nil))))
    (pss_cons (ps_while PassesOwn.never (pt_cmpR (op_neD hr.units) (pv 2) (pe_lst pa_nil) (nomark _))
    (pss_cons (ps_set (i := 4) nd rfl (.inl rfl) (pe_ix (ixk_tup (K := K) rfl) (pe_callB (cr_minD (K := K) rfl rfl hu) (by rfl) T.b_min (by decide +kernel) (pa_cons (pe_lc (own := [("far", 5)]) (g := (gName 5)) (tt := tYes) (by rfl) nd (pi_list (pe_k (c__law_firsts3 T F) hr (by decide) (by rfl) (pa_cons (pv 0) (pa_cons (pv 2) pa_nil)))) (blkOk_by (own := [("far", 5)]) (N := ["field", "steps", "left", "found", "k", "far"]) (sc := defScope s__law_least) (by decide +kernel)) (fun _ _ _ _ _ => (pg_name (i := 5) nd rfl (by first | exact Or.inl rfl | exact Or.inr rfl))) (fun _ _ _ _ _ => pts_nil) (fun _ _ _ _ _ => (pe_tup (pa_cons (pe_ix (ixk_tup (K := K) rfl) (pe_ix (ixk_list (K := K) rfl) (pv 2) (pv 5) (fun _ _ => rfl)) pe_int (fun _ _ => rfl)) (pa_cons (pv 5) pa_nil))))) pa_nil)) pe_int (fun _ _ => rfl)))
    (pss_one (ps_asg (pe_tup (pa_cons (pe_op (op_catAk (K := K) rfl) (pv 3) (pe_tup (pa_cons (pe_ix (ixk_list (K := K) rfl) (pv 2) (pv 4) (fun _ _ => rfl)) pa_nil))) (pa_cons (pe_op op_cat (pe_slice sl_list (pv 2) po_none (po_some (pv 4))) (pe_slice sl_list (pv 2) (po_some (pe_op op_add (pv 4) pe_int)) po_none)) pa_nil))) (pg_tup rfl (pgs_cons (pg_name (i := 3) nd rfl (.inl rfl)) (pgs_cons (pg_name (i := 2) nd rfl (.inr rfl)) pgs_nil)))))))
    (pss_one (ps_ret (pv 3))))), ?_⟩
    refine ⟨_, rfl, _, rfl, a, p, xs, l, rfl, hF, ok, hS, hV, hN, hZ, hl, fun H1 D f s1 hR hD0 nf zf pf af lf => ⟨Nat.zero_le _, fun E hE => upd_gen hE fun H2 s2 e2 => ⟨two_sz, fun TT hT => upd_gen hT fun H3 s3 e3 => ⟨TT, _, rfl, SqT.of e3, rfl, _, _, rfl, _, _, rfl, rfl, ?_⟩⟩⟩⟩
    have s13 := (s1.trans s2).trans s3
    refine ⟨LJInv3 K F H a p l, ⟨_, D, E, f, [], none, none, rfl, rfl, s13, hR.same (s2.trans s3), .tup ((Tk.of s3).sqT (SqT.of e2)) .nil, XM.Srt.nil _, pf, (fun _ h => nomatch h), zf, af, nf, by simp; omega⟩, ?_⟩
    rintro m σ H4 ⟨D, E, ll, fl, y4, y5, rfl, rfl, s4, hR, hE, I⟩
    refine ⟨_, rfl, Nat.zero_le _, fun p0 h0 => upd_gen h0 fun H5 s5 e5 => ?_⟩
    have s05 := s4.trans s5
    have hR5 := hR.same s5
    have hE5 := tS hE s5
    obtain ⟨xs5, eD5, hX⟩ := id hR5
    have lI := I.len
    refine ⟨.list (ll.map dStep), .list [], .lst (SqL.of eD5) hX, .lst (SqL.of e5) .nil, sh_steps (fun s hs => ok.sgn _ (I.nm s hs)), rfl, _, rfl, ?_⟩
    rw [ne_steps]
    by_cases hne : ll = []
    · subst hne
      refine iteF ⟨_, rfl, q _ E s05 ?_⟩
      rw [I.done]
      exact hE5
    · rw [show (!ll.isEmpty) = true by cases ll with | nil => exact absurd rfl hne | cons _ _ => rfl]
      refine iteT ⟨fun σ' H' => ∃ m', m' < ll.length ∧ LJInv3 K F H a p l m' σ' H', fun _ _ h => h, ?_⟩
      have hlen0 := firsts_len (F := F) (l := ll) (n := ll.length)
      refine ⟨_, rfl, _, rfl, a, D, xs5, ll, rfl, Dp.tk (Tk.of s05) _ (flat_field F) hF, ok, .inl (SqL.of eD5), hX, I.nm, by omega, fun H6 r1 s6 e6 h6 => ⟨r1, rfl, ⟨_, SqL.of e6⟩, fun D2 hD2 => ?_⟩⟩
      refine lc_it (walk_list (xs := (firstsL F ll ll.length).map fun k => V.int (k : Nat))) (fun i H' => Row2 K H' D2 (((firstsL F ll ll.length).take i).map (pr ll)) ∧ Same H6 H') ⟨⟨[], upd_same, .nil⟩, same_upd hD2⟩ (fun _ H' _ ⟨_, s'⟩ => SqL.of (s' _ _ e6)) (fun i x H7o H7 hi ⟨r7, s7⟩ hy => ?_) (fun H7 ⟨r7, s7⟩ => ?_)
      · obtain ⟨rfl, hx⟩ := hy
        rw [List.getElem?_map] at hx
        obtain ⟨k, hk, rfl⟩ := Option.map_eq_some_iff.mp hx
        obtain ⟨s, hs, _⟩ := firsts_at (List.mem_of_getElem? hk)
        obtain ⟨xs7, b, q1, q2, q3⟩ := (hR5.same (s6.trans s7)).get hs
        obtain ⟨ys, e7, hY⟩ := id r7
        have lY := hY.len
        rw [List.length_map, List.length_map, List.length_take] at lY
        refine ⟨rfl, yes_ ⟨_, rfl, _, rfl, _, _, _, _, rfl, rfl, q1, q2, _, _, _, _, rfl, rfl, q3, rfl, _, rfl, two_sz, fun T hT => upd_gen hT fun H8 s8 e8 => ⟨ys, s8 _ _ e7, small1000 (by omega), ⟨_, upd_same, ?_⟩, same_put (s7.trans s8) hD2⟩⟩⟩
        have t8 : Tk H8 (upd H8 D2 (.lst (ys ++ [.ref T]))) := Tk.refl.lst (s8 _ _ e7)
        rw [take_snoc hk, List.map_append, List.map_append]
        refine (DpAll.tk ((Tk.of s8).trans t8) _ (flat_all_steps _) hY).app (.cons (Dp.of_step (s := pr ll k) (t8.sqT ?_)) .nil)
        show SqT K H8 T [.str (nm1 ll k), .int (k : Int)]
        rw [nm1_of hs]
        exact SqT.of e8
      · rw [List.length_map, List.take_length] at r7
        obtain ⟨ys, e7, hY⟩ := id r7
        obtain ⟨k0, kr, ef⟩ : ∃ k0 kr, firstsL F ll ll.length = k0 :: kr := by
          cases e : firstsL F ll ll.length with
          | nil =>
            have := firsts_some (F := F) hne
            rw [e] at this
            cases this
          | cons x r => exact ⟨x, r, rfl⟩
        rw [ef, List.map_cons, List.map_cons] at hY
        obtain ⟨mm, m1, m2, m3⟩ := min_steps (x := pr ll k0) (xs := kr.map (pr ll))
        have mf : mm ∈ (firstsL F ll ll.length).map (pr ll) := by
          rw [ef, List.map_cons]
          exact m1
        obtain ⟨k, mk, rfl⟩ := List.mem_map.mp mf
        obtain ⟨s, hs, esp, hL⟩ := least_of mk fun j hj => by
          have : pr ll j ∈ pr ll k0 :: kr.map (pr ll) := by
            rw [← List.map_cons, ← ef]
            exact List.mem_map_of_mem hj
          exact m3 _ this
        have dep : ∀ {l : List (Str × Int)}, PyData.depthAll (l.map dStep) < 64 := fun {l} => by
          have := deep_steps l
          omega
        refine ⟨D2, ys, dStep (pr ll k0), (kr.map (pr ll)).map dStep, rfl, SqL.of e7, hY, ⟨fun x hx y hy => ?_, fun x hx => ?_⟩, by rw [← List.map_cons (f := dStep)]; exact dep, fun i v hv hm => ?_⟩
        · rw [← List.map_cons (f := dStep)] at hx hy
          obtain ⟨u, _, rfl⟩ := List.mem_map.mp hx
          obtain ⟨w, _, rfl⟩ := List.mem_map.mp hy
          rfl
        · rw [← List.map_cons (f := dStep)] at hx
          obtain ⟨u, _, rfl⟩ := List.mem_map.mp hx
          intro q
          cases q
        · obtain ⟨d, g1, p1⟩ := hY.get hv
          rw [hm, m2] at g1
          cases g1
          obtain ⟨b, rfl, cb⟩ := p1.step
          refine ix1 cb ?_
          have s07 := (s05.trans s6).trans s7
          have hR7 := hR5.same (s6.trans s7)
          have hE7 := tS hE5 (s6.trans s7)
          obtain ⟨xs8, c, q1, q2, q3⟩ := hR7.get hs
          have kl : k < ll.length := (mem_firsts.mp mk).1
          refine ⟨_, rfl, _, rfl, _, rfl, _, _, _, _, rfl, rfl, q1, q2, one_sz, fun T8 n8 => upd_gen n8 fun H8 s8 e8 => ?_⟩
          refine catD (m := [s]) (tS hE7 s8) (.tup (SqT.of e8) (.cons (Dp.of_step (s := s) ((Tk.of s8).sqT q3)) .nil)) (by rw [List.length_singleton]; omega) fun H9 p9 s9 h9 => ?_
          have s79 := s8.trans s9
          refine ⟨_, rfl, ?_⟩
          refine noPart ?_
          refine ⟨_, rfl, (k : Int), rfl, rowTake (hR7.same s79) fun H10 p10 s10 h10 r10 => ?_⟩
          have s710 := s79.trans s10
          refine ⟨_, rfl, _, rfl, _, _, rfl, rfl, ((k + 1 : Nat) : Int), rfl, ?_⟩
          refine noPart ?_
          refine rowDrop (hR7.same s710) fun H11 p11 s11 h11 r11 => ?_
          refine rowCat (r10.same s11) r11 (by rw [List.length_take, List.length_drop]; omega) fun H12 p12 s12 h12 r12 => ?_
          have s912 := (s10.trans s11).trans s12
          refine ⟨two_sz, fun T13 n13 => upd_gen n13 fun H13 s13 e13 => ⟨T13, _, rfl, SqT.of e13, rfl, _, _, rfl, _, _, rfl, rfl, ?_⟩⟩
          have I2 : LJ F l fl (ll.take k ++ s :: ll.drop (k + 1)) := by
            rw [← esp]
            exact I
          exact ⟨_, by rw [List.length_append, List.length_take, List.length_drop]; omega, p12, p9, _, _, _, _, rfl, rfl, (s07.trans s79).trans (s912.trans s13), r12.same s13, tS h9 (s912.trans s13), I2.step hL⟩
end
end XB
set_option Elab.async false
set_option linter.all false
set_option maxRecDepth 100000
set_option maxHeartbeats 4000000
namespace XB
open PySem PySem.Spec PyProof.Rows L2
/-! the law's own sheet: steps left out; what holds a step -/
section
variable {P : Program} {w : World} {K : PySem.W.Frag} {mg : Str → Option Value} {base : Heap}
def spWithout (K : PySem.W.Frag) : Sp := fun vs H Q _ => ∃ (o r : Addr) (F : Fld) (h : Sh) (ns : List Nat) (N : Addr → Prop), vs = [.ref o, .ref r] ∧ OwnAt K H o F h N ∧ H r = some (.lst (nums ns)) ∧ h.past.length ≤ 900 ∧ h.now.row.length ≤ 60 ∧ (∀ x, H x = none → N x) ∧
  ∀ H', Sb [o] H H' → Tk H H' → OwnAt K H' o F ⟨⟨without h.now.row ns, h.now.cnt⟩, h.past ++ [h.now], []⟩ N → Q .non H'
theorem c__law_without (T : Tx K mg) : Cl P w K mg base CX0 3 "_law_without" (spWithout K) := by
  refine cl0 T.d__law_without (ps := ["own", "numbers"]) (fun _ _ _ _ _ _ us hl => match us, hl with | [_, _], _ => rfl) sc__law_without (fun vs H Q E h => ?_) (fun fa cdv A outer st H vs Q E hr h => ?_)
  · obtain ⟨o, r, F, h, ns, N, rfl, _⟩ := h
    rfl
  · obtain ⟨o, r, F, h, ns, N, rfl, hO, hR, hl, hw, hN, q_⟩ := h
    have nd := sc__law_without.nd
    have hu := hu_of hr
    obtain ⟨f, n, p, q, ps, qs, e, h1, h2, h3, h4, h5, h6, h7, h8⟩ := id hO
    refine ⟨_, (pss_cons (ps_set (i := 2) nd rfl (.inl rfl) (pe_tupleOf (by rfl) T.b_tuple (pe_lc (own := [("pair", 3)]) (g := (gName 3)) (tt := _) (by rfl) nd (pi_tup (pe_ix (ixk_tup (K := K) rfl) (pe_dget hu (pv 0) pe_str (fun _ _ => rfl)) pe_int (fun _ _ => rfl))) (blkOk_by (own := [("pair", 3)]) (N := ["own", "numbers", "row", "pair"]) (sc := defScope s__law_without) (by decide +kernel)) (fun _ _ _ _ _ => (pg_name (i := 3) nd rfl (by first | exact Or.inl rfl | exact Or.inr rfl))) (fun _ _ _ _ _ => pts_one (pt_cmpR (op_notInDk (K := K) rfl (u65 hr)) (pe_ix (ixk_tup (K := K) rfl) (pv 3) pe_int (fun _ _ => rfl)) (pv 1) (by rfl))) (fun _ _ _ _ _ => (pv 3)))))
    (pss_one (ps_expr (pe_k (c__law_kept T) hr (by decide) (by rfl) (pa_cons (pv 0) (pa_cons (pe_tup (pa_cons (pv 2) (pa_cons (pe_ix (ixk_tup (K := K) rfl) (pe_dget hu (pv 0) pe_str (fun _ _ => rfl)) pe_int (fun _ _ => rfl)) pa_nil))) pa_nil)))))), ?_⟩
    --@
    obtain ⟨_, ra, ee, g7, g8⟩ := h2.ss
    cases ee
    obtain ⟨_, xs, ee, hX, hV⟩ := g8.row
    cases ee
    have lx := hV.len
    rw [List.length_map] at lx
    refine ⟨_, rfl, o, .ref n, rfl, DGet.k (k := .inr "now") e, ix0 g7 ⟨_, rfl, ⟨_, hX⟩, fun D hD => ?_⟩⟩
    refine lc_it (walk_tup (xs := xs)) (fun i H' => ∃ ys, H' D = some (.lst ys) ∧ DpAll K H' ys ((without (h.now.row.take i) ns).map dItm) ∧ Same H H') ⟨[], upd_same, .nil, same_upd hD⟩ (fun _ _ _ ⟨_, _, _, s'⟩ => (Tk.of s').sqT hX) (fun i x H2 H3 hi ⟨ys, eD, hY, s'⟩ hy => ?_) (fun H2 ⟨ys, eD, hY, s'⟩ => ?_)
    · obtain ⟨rfl, hx⟩ := hy
      obtain ⟨d, g1, p1⟩ := hV.get hx
      rw [List.getElem?_map] at g1
      obtain ⟨p, k1, rfl⟩ := Option.map_eq_some_iff.mp g1
      have p1 := Dp.sm s' _ p1
      obtain ⟨t, b, rfl, g1, g2⟩ := id p1.itm
      have et : without (h.now.row.take (i + 1)) ns = without (h.now.row.take i) ns ++ if !ns.contains p.1 then [p] else [] := by
        unfold without
        rw [take_snoc k1, List.filter_append]
        congr 1
        rw [List.filter_cons, List.filter_nil]
      have ly := hY.len
      have lw : (without (h.now.row.take i) ns).length ≤ 60 := by
        unfold without
        have := List.length_filter_le (fun p => !ns.contains p.1) (h.now.row.take i)
        rw [List.length_take] at this
        omega
      rw [List.length_map] at ly
      have shl : SeqAt.shaped (.list (ns.map fun k : Nat => PyData.int (k : Int))) = true := sh_nums ns
      refine ⟨rfl, _, rfl, ix0 g1 ⟨_, rfl, .int (p.1 : Int), _, .int _, .lst (SqL.of (s' _ _ hR)) (dp_nums ns), rfl, shl, _, rfl, ?_⟩⟩
      rw [any_nums]
      rw [et]
      cases hc : (!ns.contains p.1)
      · refine iteF ⟨ys, eD, ?_, s'⟩
        rw [if_neg Bool.false_ne_true, List.append_nil]
        exact hY
      · refine iteT ⟨_, rfl, _, eD, small1000 (by omega), _, upd_same, ?_, same_put s' hD⟩
        rw [if_pos rfl, List.map_append]
        have tt : Tk H3 (upd H3 D (.lst (ys ++ [.ref t]))) := Tk.refl.lst eD
        exact (DpAll.tk tt _ (flat_items _) hY).app (.cons (Dp.tk tt _ (flat_itm p) p1) .nil)
    · rw [List.take_of_length_le (by omega)] at hY
      refine .inl ⟨D, ys, rfl, SqL.of eD, fun u nu => upd_gen nu fun H3 s3 e3 => ?_⟩
      have s13 := s'.trans s3
      refine ⟨_, rfl, _, rfl, _, rfl, o, .ref n, rfl, DGet.k (k := .inr "now") (s13 _ _ e), ix1 ((Tk.of s13).sqT g7) ⟨two_sz, fun u2 n2 => upd_gen n2 fun H4 s4 e4 => ?_⟩⟩
      have s14 := s13.trans s4
      refine ⟨o, u2, F, h, ⟨without h.now.row ns, h.now.cnt⟩, N, rfl, hO.same s14, ?_, hl, sub_fresh hN s14, fun H5 sb tk hO5 => q_ H5 ((Sb.of s14).trans sb) ((Tk.of s14).trans tk) hO5⟩
      exact .tup (SqT.of e4) (.cons (.tup ((Tk.of s4).sqT (SqT.of e3)) (DpAll.sm (s3.trans s4) _ hY)) (.cons (.int _) .nil))
end
end XB
set_option Elab.async false
set_option linter.all false
set_option maxRecDepth 100000
set_option maxHeartbeats 4000000
namespace XB
open PySem PySem.Spec PyProof.Rows L2
/-! what holds a step, by the law -/
theorem asc_ne {row : List Itm} (h : (row.map Prod.fst).Pairwise (· < ·)) {i j : Nat} {p q : Itm} (hi : row[i]? = some p) (hj : row[j]? = some q) (n : j ≠ i) : q.1 ≠ p.1 := by
  have g := List.pairwise_iff_getElem.mp h
  have li := (List.getElem?_eq_some_iff.mp hi)
  have lj := (List.getElem?_eq_some_iff.mp hj)
  obtain ⟨li, ei⟩ := li
  obtain ⟨lj, ej⟩ := lj
  have li' : i < (row.map Prod.fst).length := by rw [List.length_map]; exact li
  have lj' : j < (row.map Prod.fst).length := by rw [List.length_map]; exact lj
  rcases Nat.lt_or_gt_of_ne n with h1 | h1
  · have := g j i lj' li' h1
    rw [List.getElem_map, List.getElem_map, ej, ei] at this
    omega
  · have := g i j li' lj' h1
    rw [List.getElem_map, List.getElem_map, ej, ei] at this
    omega
/-- what is found while the row is walked -/
def HI (F : Fld) (row : List Itm) (i : Nat) (p : Itm) (j : Nat) (hs : List Str) (fnd : List Nat) : Prop :=
  (j ≤ i ∧ hs = [] ∧ fnd = []) ∨ (i < j ∧ ∃ g, fnd = p.1 :: g ∧ holdN F [p.2.1] (row.drop (i + 1)) = g ++ holdN F hs (row.drop j))
theorem hi_step {F : Fld} {row : List Itm} {i j : Nat} {p y : Itm} {hs : List Str} {fnd : List Nat} (asc : (row.map Prod.fst).Pairwise (· < ·)) (hp : row[i]? = some p) (hy : row[j]? = some y) (h : HI F row i p j hs fnd) :
    HI F row i p (j + 1) (if decide (y.1 = p.1) || hs.any (fun x => (OF F).tc x y.2.1) then hs ++ [y.2.1] else hs) (if decide (y.1 = p.1) || hs.any (fun x => (OF F).tc x y.2.1) then fnd ++ [y.1] else fnd) := by
  have hd : row.drop j = y :: row.drop (j + 1) := by
    obtain ⟨l, e⟩ := List.getElem?_eq_some_iff.mp hy
    rw [List.drop_eq_getElem_cons l, e]
  rcases h with ⟨hj, rfl, rfl⟩ | ⟨hj, g, rfl, e⟩
  · by_cases hij : j = i
    · subst hij
      rw [hp] at hy
      cases hy
      rw [decide_eq_true rfl, Bool.true_or, if_pos rfl, if_pos rfl]
      exact .inr ⟨Nat.lt_succ_self _, [], rfl, rfl⟩
    · have ne := asc_ne asc hp hy hij
      rw [decide_eq_false ne]
      exact .inl ⟨by omega, rfl, rfl⟩
  · have ne := asc_ne asc hp hy (by omega)
    rw [decide_eq_false ne, Bool.false_or]
    have e0 : holdN F hs (y :: row.drop (j + 1)) = if hs.any (fun x => (OF F).tc x y.2.1) then y.1 :: holdN F (hs ++ [y.2.1]) (row.drop (j + 1)) else holdN F hs (row.drop (j + 1)) := rfl
    rw [hd, e0] at e
    refine .inr ⟨by omega, ?_⟩
    by_cases c : (hs.any fun x => (OF F).tc x y.2.1) = true
    · rw [if_pos c] at e
      rw [if_pos c, if_pos c]
      refine ⟨g ++ [y.1], by rw [List.cons_append], ?_⟩
      rw [e, List.append_assoc]
      rfl
    · rw [if_neg c] at e
      rw [if_neg c, if_neg c]
      exact ⟨g, rfl, e⟩
theorem hi_end {F : Fld} {row : List Itm} {i : Nat} {p : Itm} {hs : List Str} {fnd : List Nat} (hp : row[i]? = some p) (h : HI F row i p row.length hs fnd) : fnd = p.1 :: holdAt F row i := by
  have hi := (List.getElem?_eq_some_iff.mp hp).1
  rcases h with ⟨hj, _⟩ | ⟨_, g, rfl, e⟩
  · omega
  · rw [List.drop_length] at e
    have e0 : holdN F hs [] = [] := rfl
    rw [e0, List.append_nil] at e
    unfold holdAt
    rw [hp]
    show p.1 :: g = p.1 :: holdN F [p.2.1] (row.drop (i + 1))
    rw [e]
theorem any_filter {α : Type} (f : α → Bool) : ∀ l : List α, (!(l.filter f).isEmpty) = l.any f
  | [] => rfl
  | a :: l => by
    have ih := any_filter f l
    rw [List.filter_cons, List.any_cons]
    cases h : f a
    · rw [if_neg Bool.false_ne_true, Bool.false_or]
      exact ih
    · rw [if_pos rfl, Bool.true_or]
      rfl
section
variable {P : Program} {w : World} {K : PySem.W.Frag} {mg : Str → Option Value} {base : Heap}
def spHeld (K : PySem.W.Frag) : Sp := fun vs H Q _ => ∃ (o : Addr) (F : Fld) (h : Sh) (N : Addr → Prop) (i : Nat) (p : Itm), vs = [.ref o, .int (p.1 : Int)] ∧ OwnAt K H o F h N ∧ F.Ok ∧ SOk F h.now ∧ h.now.row[i]? = some p ∧
  ∀ H' L, Same H H' → H L = none → H' L = some (.lst (nums (holdAt F h.now.row i))) → Q (.ref L) H'
theorem c__law_held (T : Tx K mg) : Cl P w K mg base CX0 3 "_law_held" (spHeld K) := by
  refine cl0 T.d__law_held (ps := ["own", "number"]) (fun _ _ _ _ _ _ us hl => match us, hl with | [_, _], _ => rfl) sc__law_held (fun vs H Q E h => ?_) (fun fa cdv A outer st H vs Q E hr h => ?_)
  · obtain ⟨o, F, h, N, i, p, rfl, _⟩ := h
    rfl
  · obtain ⟨o, F, h, N, i, p, rfl, hO, ok, so, hp, q_⟩ := h
    have nd := sc__law_held.nd
    have hu := hu_of hr
    obtain ⟨f, n, ap, aq, ps, qs, e, h1, h2, h3, h4, h5, h6, h7, h8⟩ := id hO
    refine ⟨_, (pss_cons (ps_par (i := 2) (j := 3) rfl nd rfl rfl (by decide) rfl rfl (pa_cons (pe_lst pa_nil) (pa_cons (pe_lst pa_nil) pa_nil)) rfl)
    (pss_cons (ps_for PassesOwn.never rfl (pi_tup (pe_ix (ixk_tup (K := K) rfl) (pe_dget hu (pv 0) pe_str (fun _ _ => rfl)) pe_int (fun _ _ => rfl))) (pg_tup rfl (pgs_cons (pg_name (i := 4) nd rfl (.inl rfl)) (pgs_cons (pg_name (i := 5) nd rfl (.inr rfl)) pgs_nil)))
    (pss_cons (ps_set (i := 6) nd rfl (.inl rfl) (pe_cmpR (op_neD hr.units) (pe_lc (own := [("name", 7)]) (g := (gName 7)) (tt := _) (by rfl) nd (pi_list (pv 3)) (blkOk_by (own := [("name", 7)]) (N := ["own", "number", "found", "names", "far", "step", "holds", "name"]) (sc := defScope s__law_held) (by decide +kernel)) (fun _ _ _ _ _ => (pg_name (i := 7) nd rfl (by first | exact Or.inl rfl | exact Or.inr rfl))) (fun _ _ _ _ _ => pts_one (pt_not (pt_val (pe_k (c__law_apart2 T F) hr (by decide) (by rfl) (pa_cons (pe_dget hu (pv 0) pe_str (fun _ _ => rfl)) (pa_cons (pv 7) (pa_cons (pe_ix (ixk_tup (K := K) rfl) (pv 5) pe_int (fun _ _ => rfl)) pa_nil))))))) (fun _ _ _ _ _ => (pv 7))) (pe_lst pa_nil) (nomark _)))
    (pss_one (ps_if (PW.pt (pw_or (pt_cmpR op_eq (pv 4) (pv 1) (nomark _)) (pw_or1 (pt_val (pv 6))))) (pss_cons (ps_expr (pe_bm PySem.F.plainAttrs_list PySem.F.slot_list_append PySem.F.type_list_append mt_append (pv 3) (pa_cons (pe_ix (ixk_tup (K := K) rfl) (pv 5) pe_int (fun _ _ => rfl)) pa_nil)))
    (pss_one (ps_expr (pe_bm PySem.F.plainAttrs_list PySem.F.slot_list_append PySem.F.type_list_append mt_append (pv 2) (pa_cons (pv 4) pa_nil))))) pss_nil))))
    (pss_one (ps_ret (pe_slice sl_list (pv 2) (po_some pe_int) po_none))))), ?_⟩
    --@
    obtain ⟨_, ra, ee, g7, g8⟩ := h2.ss
    cases ee
    obtain ⟨_, xs, ee, hX, hV⟩ := g8.row
    cases ee
    have lx := hV.len
    rw [List.length_map] at lx
    refine ⟨Nat.zero_le _, fun L1 hL1 => upd_gen hL1 fun H1 s1 e1 => ⟨Nat.zero_le _, fun L2 hL2 => upd_gen hL2 fun H2 s2 e2 => ⟨_, _, rfl, ?_⟩⟩⟩
    have s12 := s1.trans s2
    have n12 : L1 ≠ L2 := fun z => by
      rw [← z, e1] at hL2
      cases hL2
    have hL2H : H L2 = none := fresh_of s1 hL2
    have e1b := s2 _ _ e1
    have ls := so.len
    refine ⟨_, rfl, o, .ref n, rfl, DGet.k (k := .inr "now") (s12 _ _ e), ix0 ((Tk.of s12).sqT g7) ⟨_, rfl, ⟨_, (Tk.of s12).sqT hX⟩, ?_⟩⟩
    refine for_it (walk_tup (xs := xs)) (fun j σ H' => ∃ (y4 y5 y6 y7 : Option V) (hs : List Str) (fnd : List Nat), σ = [some (.ref o), some (.int (p.1 : Int)), some (.ref L1), some (.ref L2), y4, y5, y6, y7] ∧
        H' L1 = some (.lst (nums fnd)) ∧ H' L2 = some (.lst (hs.map V.str)) ∧ Same H H' ∧ HI F h.now.row i p j hs fnd ∧ hs.length ≤ j ∧ fnd.length ≤ j ∧ ∀ x ∈ hs, x ∈ F.names)
      ⟨_, _, _, _, [], [], rfl, e1b, e2, s12, .inl ⟨Nat.zero_le _, rfl, rfl⟩, Nat.le_refl _, Nat.le_refl _, fun x hx => nomatch hx⟩ (fun j σ H4 hj ⟨y4, y5, y6, y7, hs, fnd, eσ, eL, e6, s4, hh, l1, l2, hm⟩ => (Tk.of s4).sqT hX) (fun j x σ H4 H5 hj ⟨y4, y5, y6, y7, hs, fnd, eσ, eL, e6, s4, hh, l1, l2, hm⟩ hy => ?_) (fun σ H4 ⟨y4, y5, y6, y7, hs, fnd, eσ, eL, e6, s4, hh, l1, l2, hm⟩ => ?_)
    · obtain ⟨rfl, hx⟩ := hy
      subst eσ
      obtain ⟨d, g1, p1⟩ := hV.get hx
      rw [List.getElem?_map] at g1
      obtain ⟨y, k1, rfl⟩ := Option.map_eq_some_iff.mp g1
      obtain ⟨ta, tb, rfl, b1, b2⟩ := (Dp.sm s4 _ p1).itm
      have my := (so.good y (List.mem_of_getElem? k1)).1
      have lj : j < 60 := by
        have := (List.getElem?_eq_some_iff.mp k1).1
        omega
      have hst := hi_step so.asc hp k1 hh
      refine ⟨_, _, rfl, b1, rfl, _, _, rfl, _, _, rfl, rfl, ?_⟩
      refine ⟨_, rfl, L2, rfl, ⟨_, SqL.of e6⟩, fun D hD => ?_⟩
      refine lc_it (walk_list (xs := hs.map V.str)) (fun k H' => H' D = some (.lst (((hs.take k).filter fun x => (OF F).tc x y.2.1).map V.str)) ∧ Same H5 H') ⟨upd_same, same_upd hD⟩ (fun _ _ _ ⟨_, s'⟩ => SqL.of (s' _ _ e6)) (fun k x H6 H7 hk ⟨eD, s'⟩ hz => ?_) (fun H6 ⟨eD, s'⟩ => ?_)
      · obtain ⟨rfl, hz⟩ := hz
        obtain ⟨z, kz, rfl⟩ := str_at hz
        have mz := hm z (List.mem_of_getElem? kz)
        have s7 := s4.trans s'
        refine ⟨rfl, _, rfl, o, .ref f, rfl, DGet.k (k := .inr "field") (s7 _ _ e), _, rfl, _, rfl, ix0 ((Tk.of s').sqT b2) ⟨f, z, y.2.1, rfl, Dp.sm s7 _ h1, ok, mz, my, fun H8 s8 => ⟨_, rfl, ?_⟩⟩⟩
        have et : ((hs.take (k + 1)).filter fun x => (OF F).tc x y.2.1) = ((hs.take k).filter fun x => (OF F).tc x y.2.1) ++ if (OF F).tc z y.2.1 then [z] else [] := by
          rw [take_snoc kz, List.filter_append]
          congr 1
          rw [List.filter_cons, List.filter_nil]
        rw [et, tc_eq ok]
        have lk : ((hs.take k).filter fun x => (OF F).tc x y.2.1).length ≤ 60 := by
          have := List.length_filter_le (fun x => (OF F).tc x y.2.1) (hs.take k)
          rw [List.length_take] at this
          omega
        have s9 := s'.trans s8
        cases hc : apart F z y.2.1
        · refine iteT ⟨_, rfl, _, s8 _ _ eD, small1000 (by rw [List.length_map]; omega), ?_, same_put s9 hD⟩
          rw [upd_same]
          show some (HO.lst (_ ++ [V.str z])) = some (HO.lst ((_ ++ [z]).map V.str))
          rw [List.map_append]
          rfl
        · refine iteF ⟨?_, s9⟩
          show _ = some (HO.lst ((_ ++ []).map V.str))
          rw [List.append_nil]
          exact s8 _ _ eD
      · have lh : (hs.map V.str).length = hs.length := List.length_map ..
        rw [lh, List.take_length] at eD
        refine ⟨Nat.zero_le _, fun u nu => upd_gen nu fun H7 s7 e7 => ?_⟩
        have s57 := s'.trans s7
        have s47 := s4.trans s57
        refine ⟨.list (((hs.filter fun x => (OF F).tc x y.2.1)).map PyData.str), .list [], .lst (SqL.of (s7 _ _ eD)) (DpAll.strs _), .lst (SqL.of e7) .nil, (okd_lst (j := 0) (n := 6) (okd_strs fun x hx => ok.sgn _ (hm x (List.mem_filter.mp hx).1)) (Nat.le_refl _)).shaped (by decide), rfl, ?_⟩
        have eE : PyData.eqv (.list ((hs.filter fun x => (OF F).tc x y.2.1).map PyData.str)) (.list []) = (hs.filter fun x => (OF F).tc x y.2.1).isEmpty := by cases hs.filter fun x => (OF F).tc x y.2.1 <;> rfl
        have eA : (!(hs.filter fun x => (OF F).tc x y.2.1).isEmpty) = hs.any fun x => (OF F).tc x y.2.1 := by
          exact any_filter _ _
        rw [eE, eA]
        have eV : (decide (V.int (y.1 : Int) = V.int (p.1 : Int))) = decide (y.1 = p.1) := decide_eq_decide.mpr ⟨fun h => by injection h with h; omega, fun h => by rw [h]⟩
        refine ⟨_, rfl, _, rfl, rfl, _, rfl, ?_⟩
        rw [eV]
        generalize (hs.any fun x => (OF F).tc x y.2.1) = ba at hst ⊢
        generalize decide (y.1 = p.1) = bb at hst ⊢
        cases bb
        · refine iteF ⟨_, rfl, _, rfl, ?_⟩
          cases ba
          · exact iteF ⟨_, _, _, _, hs, fnd, rfl, s57 _ _ eL, s57 _ _ e6, s47, hst, by omega, by omega, hm⟩
          refine iteT ?_
          have e6b := s57 _ _ e6
          have eLb := s57 _ _ eL
          refine ⟨_, rfl, .inl ⟨rfl, _, SqL.of e6b⟩, _, rfl, ix0 ((Tk.of s57).sqT b2) ⟨L2, _, .str y.2.1, rfl, rfl, e6b, small1000 (by rw [List.length_map]; omega), ?_⟩⟩
          have sA : Same H (upd H7 L2 (.lst (hs.map V.str ++ [.str y.2.1]))) := same_put s47 hL2H
          have eA1 : upd H7 L2 (.lst (hs.map V.str ++ [.str y.2.1])) L1 = some (.lst (nums fnd)) := by
            rw [upd_ne n12]
            exact eLb
          have eA2 : upd H7 L2 (.lst (hs.map V.str ++ [.str y.2.1])) L2 = some (.lst ((hs ++ [y.2.1]).map V.str)) := by
            rw [upd_same, List.map_append]
            rfl
          generalize upd H7 L2 (.lst (hs.map V.str ++ [.str y.2.1])) = H8 at sA eA1 eA2 ⊢
          refine ⟨_, rfl, .inl ⟨rfl, _, SqL.of eA1⟩, _, rfl, L1, _, _, rfl, rfl, eA1, small1000 (by unfold nums; rw [List.length_map]; omega), ?_⟩
          refine ⟨_, _, _, _, hs ++ [y.2.1], fnd ++ [y.1], rfl, ?_, ?_, same_put sA hL1, hst, by rw [List.length_append, List.length_singleton]; omega, by rw [List.length_append, List.length_singleton]; omega, fun x hx => ?_⟩
          · rw [upd_same]
            unfold nums
            rw [List.map_append]
            rfl
          · rw [upd_ne n12.symm]
            exact eA2
          · rcases List.mem_append.mp hx with q | q
            · exact hm x q
            · rw [List.mem_singleton.mp q]
              exact my
        · refine iteT ?_
          have e6b := s57 _ _ e6
          have eLb := s57 _ _ eL
          refine ⟨_, rfl, .inl ⟨rfl, _, SqL.of e6b⟩, _, rfl, ix0 ((Tk.of s57).sqT b2) ⟨L2, _, .str y.2.1, rfl, rfl, e6b, small1000 (by rw [List.length_map]; omega), ?_⟩⟩
          have sA : Same H (upd H7 L2 (.lst (hs.map V.str ++ [.str y.2.1]))) := same_put s47 hL2H
          have eA1 : upd H7 L2 (.lst (hs.map V.str ++ [.str y.2.1])) L1 = some (.lst (nums fnd)) := by
            rw [upd_ne n12]
            exact eLb
          have eA2 : upd H7 L2 (.lst (hs.map V.str ++ [.str y.2.1])) L2 = some (.lst ((hs ++ [y.2.1]).map V.str)) := by
            rw [upd_same, List.map_append]
            rfl
          generalize upd H7 L2 (.lst (hs.map V.str ++ [.str y.2.1])) = H8 at sA eA1 eA2 ⊢
          refine ⟨_, rfl, .inl ⟨rfl, _, SqL.of eA1⟩, _, rfl, L1, _, _, rfl, rfl, eA1, small1000 (by unfold nums; rw [List.length_map]; omega), ?_⟩
          refine ⟨_, _, _, _, hs ++ [y.2.1], fnd ++ [y.1], rfl, ?_, ?_, same_put sA hL1, hst, by rw [List.length_append, List.length_singleton]; omega, by rw [List.length_append, List.length_singleton]; omega, fun x hx => ?_⟩
          · rw [upd_same]
            unfold nums
            rw [List.map_append]
            rfl
          · rw [upd_ne n12.symm]
            exact eA2
          · rcases List.mem_append.mp hx with q | q
            · exact hm x q
            · rw [List.mem_singleton.mp q]
              exact my
    · subst eσ
      rw [lx] at hh
      have ef := hi_end hp hh
      subst ef
      refine ⟨_, rfl, _, rfl, noPart ⟨L1, _, rfl, SqL.of eL, fun u nu => upd_gen nu fun H5 s5 e5 => q_ H5 u (s4.trans s5) (fresh_of s4 nu) ?_⟩⟩
      have ec : cutV (nums (p.1 :: holdAt F h.now.row i)) (some 1) none = nums (holdAt F h.now.row i) := cut_from _ 1
      rw [ec] at e5
      exact e5
end
end XB
set_option Elab.async false
set_option linter.all false
set_option maxRecDepth 100000
set_option maxHeartbeats 4000000
namespace XB
open PySem PySem.Spec PyProof.Rows L2
/-! whether a sheet shows what the law's own one has -/
theorem okd_stepW {s : Str × Int} (h : GoodName s.1) (hz : s.2.natAbs < 10 ^ 50) : Okd 1 8 (dStep s) := okd_two (okd_str h) (okd_int hz)
theorem okd_pile {F : Fld} (ok : F.Ok) {l : List Stp} (h : ∀ s ∈ l, s.1 ∈ F.names ∧ GoodTimes s.2) (hl : l.length ≤ 60) : Okd 2 540 (dSteps (XM.act (OF F) l []).reverse) := by
  have hb : ∀ y ∈ XM.act (OF F) l [], y.2.natAbs ≤ 0 + l.length * 10 ^ 30 := act_bound (fun y hy => by
    obtain ⟨_, h1, h2⟩ := (h y hy).2
    omega) (fun _ h => nomatch h)
  have hn : Names F l := fun s hs => (h s hs).1
  refine okd_tup (j := 1) (n := 8) (k := 60) (ds := (XM.act (OF F) l []).reverse.map dStep) (fun d hd => ?_) ?_
  · obtain ⟨s, hs, rfl⟩ := List.mem_map.mp hd
    refine okd_stepW (good_pile ok hn s hs) ?_
    have h1 := hb s (List.mem_reverse.mp hs)
    have h2 : l.length * 10 ^ 30 ≤ 60 * 10 ^ 30 := Nat.mul_le_mul_right _ hl
    have h3 : 60 * 10 ^ 30 < 10 ^ 50 := by decide
    omega
  · rw [List.length_map]
    exact Nat.le_trans act_len1 hl
theorem flat_nums (l : List Nat) : flatD (.tuple (l.map fun n : Nat => PyData.int (n : Int))) = true := by
  simp only [flatD]
  exact flatAll_of fun d hd => by
    obtain ⟨n, _, rfl⟩ := List.mem_map.mp hd
    rfl
theorem hasN_nat (row : List Itm) (k : Nat) : hasN row (k : Int) = (row.map Prod.fst).contains k := by
  unfold hasN
  induction row with
  | nil => rfl
  | cons p row ih =>
    rw [List.any_cons, ih, List.map_cons, List.contains_cons]
    congr 1
    by_cases h : k = p.1
    · simp [h]
    · rw [beq_eq_false_iff_ne.mpr h, beq_eq_false_iff_ne]
      omega
theorem okd_nums {l : List Nat} (hl : l.length ≤ 60) (hb : ∀ n ∈ l, n ≤ 900) : Okd 1 60 (.tuple (l.map fun n : Nat => PyData.int (n : Int))) :=
  okd_tup (j := 0) (n := 0) (k := 60) (fun d hd => by
    obtain ⟨n, hn, rfl⟩ := List.mem_map.mp hd
    refine okd_int ?_
    have := hb n hn
    have : ((n : Int)).natAbs ≤ 900 := by omega
    exact Nat.lt_of_le_of_lt this (by decide +kernel)) (by rw [List.length_map]; exact hl)
section
variable {P : Program} {w : World} {K : PySem.W.Frag} {mg : Str → Option Value} {base : Heap}
def spStands (K : PySem.W.Frag) (mg : Str → Option Value) : Sp := fun vs H Q _ => ∃ (a o : Addr) (F : Fld) (h : Sh) (N : Addr → Prop), vs = [.ref a, .ref o] ∧ SheetAt K mg H a F h ∧ OwnAt K H o F h N ∧ F.Ok ∧ SOk F h.now ∧ ∀ H', Same H H' → Q (.bl true) H'
theorem c__law_stands (T : Tx K mg) : Cg P w K mg base CX0 7 "_law_stands" (spStands K mg) := by
  refine cg0 T.d__law_stands (ps := ["sheet", "own"]) (fun _ _ _ _ _ _ us hl => match us, hl with | [_, _], _ => rfl) sc__law_stands (fun vs H Q E h => ?_) (fun f cdv A outer st H vs Q E hgu hr h => ?_)
  · obtain ⟨a, o, F, h, N, rfl, _⟩ := h
    rfl
  · obtain ⟨a, o, F, h, N, rfl, hA, hO, ok, so, q_⟩ := h
    have nd := sc__law_stands.nd
    have hu := hu_of hr
    refine ⟨_, (pss_cons (ps_set (i := 2) nd rfl (.inl rfl) (pe_ix (ixk_tup (K := K) rfl) (pe_dget hu (pv 1) pe_str (fun _ _ => rfl)) pe_int (fun _ _ => rfl)))
    (pss_cons (ps_asg (pe_tup (pa_cons (pe_tupleOf (by rfl) T.b_tuple (pe_lc (own := [("pair", 8)]) (g := (gName 8)) (tt := tYes) (by rfl) nd (pi_tup (pv 2)) (blkOk_by (own := [("pair", 8)]) (N := ["sheet", "own", "row", "steps", "numbers", "told_so", "due", "some", "pair", "number", "k"]) (sc := defScope s__law_stands) (by decide +kernel)) (fun _ _ _ _ _ => (pg_name (i := 8) nd rfl (by first | exact Or.inl rfl | exact Or.inr rfl))) (fun _ _ _ _ _ => pts_nil) (fun _ _ _ _ _ => (pe_ix (ixk_tup (K := K) rfl) (pv 8) pe_int (fun _ _ => rfl))))) (pa_cons (pe_lc (own := [("pair", 8)]) (g := (gName 8)) (tt := tYes) (by rfl) nd (pi_tup (pv 2)) (blkOk_by (own := [("pair", 8)]) (N := ["sheet", "own", "row", "steps", "numbers", "told_so", "due", "some", "pair", "number", "k"]) (sc := defScope s__law_stands) (by decide +kernel)) (fun _ _ _ _ _ => (pg_name (i := 8) nd rfl (by first | exact Or.inl rfl | exact Or.inr rfl))) (fun _ _ _ _ _ => pts_nil) (fun _ _ _ _ _ => (pe_ix (ixk_tup (K := K) rfl) (pv 8) pe_int (fun _ _ => rfl)))) pa_nil))) (pg_tup rfl (pgs_cons (pg_name (i := 3) nd rfl (.inl rfl)) (pgs_cons (pg_name (i := 4) nd rfl (.inr rfl)) pgs_nil))))
    (pss_cons (ps_set (i := 5) nd rfl (.inl rfl) (pe_lst (pa_cons (pe_ptO T.o_Sheet (c_Sheet_field T) (pv 0) hr (by decide) (E := E0) passL rfl) (pa_cons (pe_ptO T.o_Sheet (c_Sheet_row T) (pv 0) hr (by decide) (E := E0) passL rfl) (pa_cons (pe_ptO T.o_Sheet (c_Sheet_steps T) (pv 0) hr (by decide) (E := E0) passL rfl) (pa_cons (pe_mtO0 T.o_Sheet (c_Sheet_least T) (pv 0) hr (by decide) (E := E0) passL) (pa_cons (pe_callB (call_lenO (c_Sheet_len T) hr (by decide) (E := E0) passL) (by rfl) T.b_len (by decide +kernel) (pa_cons (pv 0) pa_nil)) (pa_cons (pe_mtO0 T.o_Sheet (c_Sheet_free T) (pv 0) hr (by decide) (E := E0) passL) pa_nil))))))))
    (pss_cons (ps_set (i := 6) nd rfl (.inl rfl) (pe_lst (pa_cons (pe_dget hu (pv 1) pe_str (fun _ _ => rfl)) (pa_cons (pv 2) (pa_cons (pv 3) (pa_cons (pe_k (c__law_least3 T F) hr (by decide) (by rfl) (pa_cons (pe_dget hu (pv 1) pe_str (fun _ _ => rfl)) (pa_cons (pv 3) pa_nil))) (pa_cons (pe_lenS (by rfl) T.b_len (pv 2)) pa_nil)))))))
    (pss_cons (ps_expr (pe_bm PySem.F.plainAttrs_list PySem.F.slot_list_append PySem.F.type_list_append mt_append (pv 6) (pa_cons (pe_tupleOf (by rfl) T.b_tuple (pe_lc (own := [("number", 9)]) (g := (gName 9)) (tt := _) (by rfl) nd (pi_list (pv 4)) (blkOk_by (own := [("number", 9)]) (N := ["sheet", "own", "row", "steps", "numbers", "told_so", "due", "some", "pair", "number", "k"]) (sc := defScope s__law_stands) (by decide +kernel)) (fun _ _ _ _ _ => (pg_name (i := 9) nd rfl (by first | exact Or.inl rfl | exact Or.inr rfl))) (fun _ _ _ _ _ => pts_one (pt_cmpR (op_eqDk (K := K) rfl hr.units) (pe_k (c__law_held T) hr (by decide) (by rfl) (pa_cons (pv 1) (pa_cons (pv 9) pa_nil))) (pe_lst pa_nil) (nomark _))) (fun _ _ _ _ _ => (pv 9)))) pa_nil)))
    (pss_cons (ps_set (i := 7) nd rfl (.inl rfl) (pe_listRg (by rfl) (by rfl) T.b_list (prg_1 (by rfl) T.b_range (pe_op op_add (pe_ix (ixk_tup (K := K) rfl) (pe_dget hu (pv 1) pe_str (fun _ _ => rfl)) pe_int (fun _ _ => rfl)) pe_int))))
    (pss_cons (ps_set (i := 5) nd rfl (.inl rfl) (pe_op op_cat (pe_op op_cat (pv 5) (pe_lc (own := [("k", 10)]) (g := (gName 10)) (tt := tYes) (by rfl) nd (pi_list (pv 7)) (blkOk_by (own := [("k", 10)]) (N := ["sheet", "own", "row", "steps", "numbers", "told_so", "due", "some", "pair", "number", "k"]) (sc := defScope s__law_stands) (by decide +kernel)) (fun _ _ _ _ _ => (pg_name (i := 10) nd rfl (by first | exact Or.inl rfl | exact Or.inr rfl))) (fun _ _ _ _ _ => pts_nil) (fun _ _ _ _ _ => (pe_cmpR (op_inOk (K := K) (mg := mg) rfl rfl (c_Sheet_in T) hr (by decide) (E := E0) passL) (pv 10) (pv 0) (by rfl))))) (pe_lst (pa_cons (pe_cmpR (op_inO (c_Sheet_in T) hr (by decide) (E := E0) passL) pe_non (pv 0) (by rfl)) (pa_cons (pe_cmpR (op_inO (c_Sheet_in T) hr (by decide) (E := E0) passL) pe_bl (pv 0) (by rfl)) (pa_cons (pe_cmpR (op_inO (c_Sheet_in T) hr (by decide) (E := E0) passL) pe_str (pv 0) (by rfl)) pa_nil))))))
    (pss_one (ps_ret (pe_g (g__law_like T) hgu hr (by decide) (by rfl) (pa_cons (pv 5) (pa_cons (pe_op op_cat (pe_op op_cat (pv 6) (pe_lc (own := [("k", 10)]) (g := (gName 10)) (tt := tYes) (by rfl) nd (pi_list (pv 7)) (blkOk_by (own := [("k", 10)]) (N := ["sheet", "own", "row", "steps", "numbers", "told_so", "due", "some", "pair", "number", "k"]) (sc := defScope s__law_stands) (by decide +kernel)) (fun _ _ _ _ _ => (pg_name (i := 10) nd rfl (by first | exact Or.inl rfl | exact Or.inr rfl))) (fun _ _ _ _ _ => pts_nil) (fun _ _ _ _ _ => (pe_cmpR (op_inDk (K := K) rfl (u65 hr)) (pv 10) (pv 4) (by rfl))))) (pe_op op_rep (pe_lst (pa_cons pe_bl pa_nil)) pe_int)) pa_nil)))))))))))), ?_⟩
    --@
    obtain ⟨f1, n, ap, aq, ps, qs, e, h1, h2, h3, h4, h5, h6, h7, h8⟩ := id hO
    obtain ⟨ff, fs1, hi, hF, hS⟩ := id hA
    obtain ⟨_, ra, ee, g7, g8⟩ := h2.ss
    cases ee
    obtain ⟨_, xs, ee, hX, hV⟩ := g8.row
    cases ee
    have lx := hV.len
    rw [List.length_map] at lx
    have ls := so.len
    refine ⟨_, rfl, o, .ref n, rfl, DGet.k (k := .inr "now") e, ix0 g7 ⟨_, rfl, _, rfl, ⟨_, hX⟩, fun D hD => ?_⟩⟩
    refine lc_it (walk_tup (xs := xs)) (fun i H' => ∃ ys, H' D = some (.lst ys) ∧ DpAll K H' ys ((h.now.row.take i).map fun p => dStep p.2) ∧ Same H H') ⟨[], upd_same, .nil, same_upd hD⟩ (fun _ _ _ ⟨_, _, _, s'⟩ => (Tk.of s').sqT hX) (fun i x H2 H3 hi ⟨ys, eD, hY, s'⟩ hy => ?_) (fun H2 ⟨ys, eD, hY, s2⟩ => ?_)
    · obtain ⟨rfl, hx⟩ := hy
      obtain ⟨d, g1, p1⟩ := hV.get hx
      rw [List.getElem?_map] at g1
      obtain ⟨p, k1, rfl⟩ := Option.map_eq_some_iff.mp g1
      obtain ⟨t, b, rfl, b1, b2⟩ := (Dp.sm s' _ p1).itm
      have ly := hY.len
      rw [List.length_map, List.length_take] at ly
      refine ⟨rfl, yes_ ⟨_, rfl, ix1 b1 ⟨_, eD, small1000 (by omega), ys ++ [.ref b], upd_same, ?_, same_put s' hD⟩⟩⟩
      rw [take_snoc k1, List.map_append]
      have tt : Tk H3 (upd H3 D (.lst (ys ++ [.ref b]))) := Tk.refl.lst eD
      exact (DpAll.tk tt _ (flatAll_of fun d hd => by obtain ⟨z, _, rfl⟩ := List.mem_map.mp hd; rfl) hY).app (.cons (Dp.of_step (s := p.2) (tt.sqT b2)) .nil)
    rw [List.take_of_length_le (by omega)] at hY
    refine .inl ⟨D, ys, rfl, SqL.of eD, fun st nt => upd_gen nt fun H3 s3 e3 => ?_⟩
    have s03 := s2.trans s3
    have hSt : Dp K H3 (.ref st) (dSteps (h.now.row.map Prod.snd)) := by
      refine .tup (SqT.of e3) ?_
      rw [List.map_map]
      exact DpAll.sm s3 _ hY
    clear e3 hY eD
    refine ⟨_, rfl, _, rfl, ⟨_, (Tk.of s03).sqT hX⟩, fun D2 hD2 => ?_⟩
    refine lc_it (walk_tup (xs := xs)) (fun i H' => H' D2 = some (.lst (nums ((h.now.row.take i).map Prod.fst))) ∧ Same H3 H') ⟨upd_same, same_upd hD2⟩ (fun _ _ _ ⟨_, s'⟩ => (Tk.of (s03.trans s')).sqT hX) (fun i x H4 H5 hi ⟨eD, s'⟩ hy => ?_) (fun H4 ⟨eN, s4⟩ => ?_)
    · obtain ⟨rfl, hx⟩ := hy
      obtain ⟨d, g1, p1⟩ := hV.get hx
      rw [List.getElem?_map] at g1
      obtain ⟨p, k1, rfl⟩ := Option.map_eq_some_iff.mp g1
      obtain ⟨t, b, rfl, b1, b2⟩ := (Dp.sm (s03.trans s') _ p1).itm
      refine ⟨rfl, yes_ ⟨_, rfl, ix0 b1 ⟨_, eD, small1000 (by unfold nums; rw [List.length_map, List.length_map, List.length_take]; omega), ?_, same_put s' hD2⟩⟩⟩
      rw [upd_same, take_snoc k1, List.map_append]
      unfold nums
      rw [List.map_append]
      rfl
    rw [List.take_of_length_le (by omega)] at eN
    refine ⟨two_sz, fun tp np => upd_gen np fun H5 s5 e5 => ⟨tp, _, rfl, SqT.of e5, rfl, _, _, rfl, _, _, rfl, rfl, ?_⟩⟩
    have s35 := s4.trans s5
    have s05 := s03.trans s35
    have hSt := Dp.sm s35 _ hSt
    have eN := s5 _ _ eN
    clear e5
    -- what the sheet tells
    have hi0 : Ins mg "Sheet" H a [("_field", .ref ff), ("_state", .ref fs1)] := hi
    refine ⟨_, rfl, a, _, rfl, Ins.same hi0 s05, a, F, h, rfl, hA.same s05, fun f5 hf5 => ⟨_, rfl, a, _, rfl, Ins.same hi0 s05, a, F, h, rfl, hA.same s05, fun r5 hr5 => ⟨_, rfl, a, _, rfl, Ins.same hi0 s05, a, F, h, rfl, hA.same s05, by omega, fun H6 st6 s6 hst6 => ?_⟩⟩⟩
    have s06 := s05.trans s6
    refine ⟨_, rfl, a, _, rfl, Ins.same hi0 s06, rfl, a, F, h, rfl, hA.same s06, ok, so, fun H7 l7 s7 hl7 => ?_⟩
    have s07 := s06.trans s7
    refine ⟨_, rfl, a, _, rfl, Ins.same hi0 s07, a, F, h, rfl, hA.same s07, _, rfl, by omega, ?_⟩
    refine ⟨_, rfl, a, _, rfl, Ins.same hi0 s07, rfl, a, F, h, rfl, hA.same s07, ok, so, fun H8 fr8 s8 hfr8 => ⟨(by decide : 6 ≤ sizeLine), fun T1 nT1 => upd_gen nT1 fun H9 s9 e9 => ?_⟩⟩
    have s89 := s8.trans s9
    have s79 := s7.trans s89
    have s69 := s6.trans s79
    have s09 := s05.trans s69
    have DT : DpAll K H9 [.ref f5, .ref r5, .ref st6, .ref l7, .int h.now.row.length, .ref fr8] [dField F, dRow h.now.row, dSteps (h.now.row.map Prod.snd), dSteps (XM.act (OF F) (h.now.row.map Prod.snd) []).reverse, .int (h.now.row.length : Int), .tuple ((freeN F h.now.row h.now.row.length).map fun n : Nat => PyData.int (n : Int))] :=
      .cons (Dp.sm s69 _ hf5) (.cons (Dp.sm s69 _ hr5) (.cons (Dp.sm s79 _ hst6) (.cons (Dp.sm s89 _ hl7) (.cons (.int _) (.cons (.tup ((Tk.of s9).sqT hfr8) (dp_nums _)) .nil)))))
    have e9 : H9 T1 = some (.lst [.ref f5, .ref r5, .ref st6, .ref l7, .int h.now.row.length, .ref fr8]) := e9
    have hSt := Dp.sm s69 _ hSt
    have eN := s69 _ _ eN
    clear hf5 hr5 hst6 hl7 hfr8
    -- what is due
    have s0 := s09
    have hnm : Names F (h.now.row.map Prod.snd) := fun x hx => by
      obtain ⟨p, hp, rfl⟩ := List.mem_map.mp hx
      exact (so.good p hp).1
    have hnz : XM.NZ (h.now.row.map Prod.snd) := fun x hx => by
      obtain ⟨p, hp, rfl⟩ := List.mem_map.mp hx
      exact (so.good p hp).2.1
    obtain ⟨_, xst, ee, hX2, hV2⟩ := hSt.steps
    cases ee
    refine ⟨_, rfl, o, .ref f1, rfl, DGet.k (k := .inr "field") (s09 _ _ e), _, rfl, _, rfl, _, rfl, o, .ref f1, rfl, DGet.k (k := .inr "field") (s09 _ _ e), _, rfl, f1, st, xst, h.now.row.map Prod.snd, rfl, Dp.sm s09 _ h1, ok, .inr hX2, hV2, hnm, hnz, by rw [List.length_map]; omega, fun Ha la sa hla => ?_⟩
    have s0a := s09.trans sa
    refine ⟨_, rfl, _, _, rfl, .inr ((Tk.of s0a).sqT hX), (by decide : 5 ≤ sizeLine), fun U1 nU1 => upd_gen nU1 fun Hb sb eb => ?_⟩
    have s0b := s0a.trans sb
    have s9b := sa.trans sb
    have eNH := eN
    have eN := s9b _ _ eN
    have eb : Hb U1 = some (.lst [.ref f1, .ref ra, .ref st, .ref la, .int xs.length]) := eb
    rw [lx] at eb
    have DU : DpAll K Hb [.ref f1, .ref ra, .ref st, .ref la, .int h.now.row.length] [dField F, dRow h.now.row, dSteps (h.now.row.map Prod.snd), dSteps (XM.act (OF F) (h.now.row.map Prod.snd) []).reverse, .int (h.now.row.length : Int)] :=
      .cons (Dp.sm s0b _ h1) (.cons (Dp.sm s0b _ g8) (.cons (Dp.sm s9b _ hSt) (.cons (Dp.sm sb _ hla) (.cons (.int _) .nil))))
    have DT := DpAll.sm s9b _ DT
    have e9H := e9
    have e9 := s9b _ _ e9
    clear hX2 hV2 hla
    refine ⟨_, rfl, .inl ⟨rfl, _, SqL.of eb⟩, _, rfl, D2, rfl, ⟨_, SqL.of eN⟩, fun D3 hD3 => ?_⟩
    refine lc_it (walk_list (xs := nums (h.now.row.map Prod.fst))) (fun i H' => H' D3 = some (.lst (nums (freeN F h.now.row i))) ∧ Same Hb H') ⟨upd_same, same_upd hD3⟩ (fun _ _ _ ⟨_, s'⟩ => SqL.of (s' _ _ eN)) (fun i x H4 H5 hi ⟨eD, s'⟩ hy => ?_) (fun H4 ⟨eD, s4⟩ => ?_)
    · obtain ⟨rfl, hx⟩ := hy
      obtain ⟨p, k1, rfl⟩ : ∃ p, h.now.row[i]? = some p ∧ x = .int (p.1 : Int) := by
        unfold nums at hx
        rw [List.getElem?_map, List.getElem?_map] at hx
        cases hp : h.now.row[i]? with
        | none =>
          rw [hp] at hx
          cases hx
        | some p =>
          rw [hp] at hx
          cases hx
          exact ⟨p, rfl, rfl⟩
      have s05 := s0b.trans s'
      have hil := (List.getElem?_eq_some_iff.mp k1).1
      refine ⟨rfl, _, rfl, _, rfl, o, F, h, N, i, p, rfl, hO.same s05, ok, so, k1, fun H6 L s6 nL eL => ⟨Nat.zero_le _, fun z nz => upd_gen nz fun H7 s7 e7 => ?_⟩⟩
      have s67 := s6.trans s7
      have s57 := s'.trans s67
      have lh := hold_len (F := F) (i := i) ls
      have shl : SeqAt.shaped (.list ((holdAt F h.now.row i).map fun k : Nat => PyData.int (k : Int))) = true := sh_nums _
      refine ⟨_, _, .lst (SqL.of (s7 _ _ eL)) (dp_nums _), .lst (SqL.of e7) .nil, shl, rfl, ?_⟩
      have eE : PyData.eqv (.list ((holdAt F h.now.row i).map fun n : Nat => PyData.int (n : Int))) (.list []) = (holdAt F h.now.row i).isEmpty := by
        cases holdAt F h.now.row i <;> rfl
      rw [eE, free_snoc k1]
      have eD5 := s67 _ _ eD
      have lf := free_len (F := F) (row := h.now.row) (k := i)
      cases hc : (holdAt F h.now.row i).isEmpty
      · refine ⟨_, rfl, iteF ⟨?_, s57⟩⟩
        rw [if_neg Bool.false_ne_true, List.append_nil]
        exact eD5
      · refine ⟨_, rfl, iteT ⟨_, rfl, _, eD5, small1000 (by unfold nums; rw [List.length_map]; omega), ?_, same_put s57 hD3⟩⟩
        rw [if_pos rfl, upd_same]
        unfold nums
        rw [List.map_append]
        rfl
    have ln : (nums (h.now.row.map Prod.fst)).length = h.now.row.length := by
      unfold nums
      rw [List.length_map, List.length_map]
    rw [ln] at eD
    refine .inl ⟨D3, _, rfl, SqL.of eD, fun fv nv => upd_gen nv fun H5 s5 e5 => ?_⟩
    have sb5 := s4.trans s5
    have e6 := sb5 _ _ eb
    refine ⟨U1, _, .ref fv, rfl, rfl, e6, (by decide : 5 < sizeLine), ?_⟩
    have nU9 : H U1 = none := fresh_of s0a nU1
    have kq : Tk H5 (upd H5 U1 (.lst ([.ref f1, .ref ra, .ref st, .ref la, .int h.now.row.length] ++ [.ref fv]))) := Tk.refl.lst e6
    have sq : Same H (upd H5 U1 (.lst ([.ref f1, .ref ra, .ref st, .ref la, .int h.now.row.length] ++ [.ref fv]))) := same_put (s0b.trans sb5) nU9
    have eq : upd H5 U1 (.lst ([.ref f1, .ref ra, .ref st, .ref la, .int h.now.row.length] ++ [.ref fv])) U1 = some (.lst [.ref f1, .ref ra, .ref st, .ref la, .int h.now.row.length, .ref fv]) := upd_same
    have nT : T1 ≠ U1 := fun z => by
      have := sa _ _ e9H
      rw [z, nU1] at this
      cases this
    have nD : D2 ≠ U1 := fun z => by
      have := sa _ _ eNH
      rw [z, nU1] at this
      cases this
    have eT : upd H5 U1 (.lst ([.ref f1, .ref ra, .ref st, .ref la, .int h.now.row.length] ++ [.ref fv])) T1 = some (.lst [.ref f5, .ref r5, .ref st6, .ref l7, .int h.now.row.length, .ref fr8]) := by
      rw [upd_ne nT]
      exact sb5 _ _ e9
    have eN : upd H5 U1 (.lst ([.ref f1, .ref ra, .ref st, .ref la, .int h.now.row.length] ++ [.ref fv])) D2 = some (.lst (nums (h.now.row.map Prod.fst))) := by
      rw [upd_ne nD]
      exact sb5 _ _ eN
    have fT : ∀ l : List PyData, l = [dField F, dRow h.now.row, dSteps (h.now.row.map Prod.snd), dSteps (XM.act (OF F) (h.now.row.map Prod.snd) []).reverse, .int (h.now.row.length : Int), .tuple ((freeN F h.now.row h.now.row.length).map fun n : Nat => PyData.int (n : Int))] → flatAll l = true := fun l hl => flatAll_of fun d hd => by
      rw [hl] at hd
      simp only [List.mem_cons, List.not_mem_nil, or_false] at hd
      rcases hd with q | q | q | q | q | q <;> rw [q]
      · exact flat_field F
      · exact flat_row _
      · exact flat_steps _
      · exact flat_steps _
      · rfl
      · exact flat_nums _
    have DT := DpAll.tk kq _ (fT _ rfl) (DpAll.sm sb5 _ DT)
    have DU : DpAll K (upd H5 U1 (.lst ([.ref f1, .ref ra, .ref st, .ref la, .int h.now.row.length] ++ [.ref fv]))) [.ref f1, .ref ra, .ref st, .ref la, .int h.now.row.length, .ref fv] [dField F, dRow h.now.row, dSteps (h.now.row.map Prod.snd), dSteps (XM.act (OF F) (h.now.row.map Prod.snd) []).reverse, .int (h.now.row.length : Int), .tuple ((freeN F h.now.row h.now.row.length).map fun n : Nat => PyData.int (n : Int))] :=
      DpAll.tk kq _ (fT _ rfl) (DpAll.app (DpAll.sm sb5 _ DU) (.cons (.tup (SqT.of e5) (dp_nums _)) .nil))
    generalize upd H5 U1 (.lst ([.ref f1, .ref ra, .ref st, .ref la, .int h.now.row.length] ++ [.ref fv])) = J0 at sq eq eT eN DT DU ⊢
    clear kq e6 e5 eD
    -- numbers in the sheet
    refine ⟨_, rfl, o, .ref n, rfl, DGet.k (k := .inr "now") (sq _ _ e), ix1 ((Tk.of sq).sqT g7) ⟨_, _, rfl, rfl, _, rfl, RgOk.of_le (by omega) (by have := so.cn; omega) (by omega) (by omega), fun S1 nS1 => upd_gen nS1 fun J1 j1 eS => ?_⟩⟩
    have eR : rgV 0 ((h.now.cnt : Int) + 1) = (List.range (h.now.cnt + 1)).map fun i : Nat => V.int (i : Int) := by
      unfold rgV
      have e0 : ((h.now.cnt : Int) + 1 - 0).toNat = h.now.cnt + 1 := by omega
      rw [e0]
      congr 1
      funext i
      rw [Int.zero_add]
    rw [eR] at eS
    have sq1 := sq.trans j1
    have lR : ((List.range (h.now.cnt + 1)).map fun i : Nat => V.int (i : Int)).length = h.now.cnt + 1 := by rw [List.length_map, List.length_range]
    have cn := so.cn
    refine ⟨_, rfl, _, rfl, S1, rfl, ⟨_, SqL.of eS⟩, fun E1 hE1 => ?_⟩
    refine lc_it (walk_list (xs := (List.range (h.now.cnt + 1)).map fun i : Nat => V.int (i : Int))) (fun i H' => H' E1 = some (.lst ((List.range i).map fun k : Nat => V.bl (hasN h.now.row (k : Int)))) ∧ Same J1 H') ⟨upd_same, same_upd hE1⟩ (fun _ _ _ ⟨_, s'⟩ => SqL.of (s' _ _ eS)) (fun i x G4 G5 hi ⟨eD, s'⟩ hy => ?_) (fun J2 ⟨eB, j2⟩ => ?_)
    · obtain ⟨rfl, hx⟩ := hy
      have hi : i < h.now.cnt + 1 := by
        rw [lR] at hi
        exact hi
      have hx : x = .int (i : Int) := by
        rw [List.getElem?_map, List.getElem?_range hi] at hx
        exact (Option.some.inj hx).symm
      subst hx
      have s05 := sq1.trans s'
      refine ⟨rfl, yes_ ⟨_, rfl, _, rfl, a, _, rfl, Ins.same hi0 s05, a, .int (i : Int), F, h, rfl, hA.same s05, by omega, .inr ⟨_, rfl, fun H6 s6 => ⟨_, rfl, _, s6 _ _ eD, ?_, ?_, same_put (s'.trans s6) hE1⟩⟩⟩⟩
      · rw [List.length_map, List.length_range]
        exact small1000 (by omega)
      · rw [upd_same, List.range_succ, List.map_append]
        rfl
    rw [lR] at eB
    have lB : ((List.range (h.now.cnt + 1)).map fun k : Nat => V.bl (hasN h.now.row (k : Int))).length = h.now.cnt + 1 := by rw [List.length_map, List.length_range]
    have j02 := j1.trans j2
    refine catL (j02 _ _ eT) eB (Nat.le_of_lt (small1e4 (by rw [lB]; simp; omega))) fun J3 T2 j3 nT2 eT2 => ?_
    have sq3 := sq1.trans (j2.trans j3)
    have noN : ∀ (v : V) (d : PyData), Dp K J3 v d → wholeD d = false → NoWhole K J3 v := fun v d h1 h2 => .inl ⟨d, h1, h2⟩
    refine ⟨_, rfl, a, _, rfl, Ins.same hi0 sq3, a, .non, F, h, rfl, hA.same sq3, by omega, .inl ⟨noN _ .none .non rfl, _, rfl, _, rfl, a, _, rfl, Ins.same hi0 sq3, a, .bl true, F, h, rfl, hA.same sq3, by omega, .inl ⟨noN _ (.bool true) (.bl true) rfl, _, rfl, _, rfl, a, _, rfl, Ins.same hi0 sq3, a, .str "0", F, h, rfl, hA.same sq3, by omega, .inl ⟨noN _ (.str "0") (.str _) rfl, _, rfl, (by decide : 3 ≤ sizeLine), fun T3 nT3 => upd_gen nT3 fun J4 j4 eT3 => ?_⟩⟩⟩⟩
    have sq4 := sq3.trans j4
    have eT3 : J4 T3 = some (.lst [.bl false, .bl false, .bl false]) := eT3
    refine catL (j4 _ _ eT2) eT3 (Nat.le_of_lt (small1e4 (by rw [List.length_append, lB]; simp; omega))) fun J5 T4 j5 nT4 eT4 => ?_
    have j15 := j2.trans (j3.trans (j4.trans j5))
    have j05 := j1.trans j15
    have sq5 := sq4.trans j5
    refine ⟨_, rfl, _, rfl, _, rfl, S1, rfl, ⟨_, SqL.of (j15 _ _ eS)⟩, fun E2 hE2 => ?_⟩
    refine lc_it (walk_list (xs := (List.range (h.now.cnt + 1)).map fun i : Nat => V.int (i : Int))) (fun i H' => H' E2 = some (.lst ((List.range i).map fun k : Nat => V.bl (hasN h.now.row (k : Int)))) ∧ Same J5 H') ⟨upd_same, same_upd hE2⟩ (fun _ _ _ ⟨_, s'⟩ => SqL.of (s' _ _ (j15 _ _ eS))) (fun i x G4 G5 hi ⟨eD, s'⟩ hy => ?_) (fun J6 ⟨eC, j6⟩ => ?_)
    · obtain ⟨rfl, hx⟩ := hy
      have hi : i < h.now.cnt + 1 := by
        rw [lR] at hi
        exact hi
      have hx : x = .int (i : Int) := by
        rw [List.getElem?_map, List.getElem?_range hi] at hx
        exact (Option.some.inj hx).symm
      subst hx
      have shl : SeqAt.shaped (.list ((h.now.row.map Prod.fst).map fun k : Nat => PyData.int (k : Int))) = true := sh_nums _
      refine ⟨rfl, yes_ ⟨_, rfl, _, rfl, .int (i : Int), _, .int _, .lst (SqL.of ((j05.trans s') _ _ eN)) (dp_nums _), rfl, shl, ?_⟩⟩
      rw [any_nums, ← hasN_nat]
      refine ⟨_, eD, ?_, ?_, same_put s' hE2⟩
      · rw [List.length_map, List.length_range]
        exact small1000 (by omega)
      · rw [upd_same, List.range_succ, List.map_append]
        rfl
    rw [lR] at eC
    have j06 := j05.trans j6
    refine catL (j06 _ _ eq) eC (Nat.le_of_lt (small1e4 (by rw [lB]; simp; omega))) fun J7 T5 j7 nT5 eT5 => ?_
    refine ⟨one_sz, fun q1 m1 => upd_gen m1 fun J8 j8 e8 => ⟨q1, 3, _, rfl, rfl, e8, by decide, by decide, (by decide : 1 * 3 ≤ sizeLine), fun q2 m2 => upd_gen m2 fun J9 j9 e9' => ?_⟩⟩
    have e9' : J9 q2 = some (.lst [.bl false, .bl false, .bl false]) := e9'
    refine catL ((j8.trans j9) _ _ eT5) e9' (Nat.le_of_lt (small1e4 (by rw [List.length_append, lB]; simp; omega))) fun Jx T6 jx nT6 eT6 => ?_
    have j5x := j6.trans (j7.trans (j8.trans (j9.trans jx)))
    have j0x := j05.trans j5x
    have dB : ∀ {H : Hp} (l : List Nat), DpAll K H (l.map fun k : Nat => V.bl (hasN h.now.row (k : Int))) (l.map fun k : Nat => PyData.bool (hasN h.now.row (k : Int))) := fun {H} l => by
      induction l with
      | nil => exact .nil
      | cons x l ih => exact .cons (.bl _) ih
    have d3 : ∀ {H : Hp}, DpAll K H [V.bl false, .bl false, .bl false] [.bool false, .bool false, .bool false] := .cons (.bl _) (.cons (.bl _) (.cons (.bl _) .nil))
    refine ⟨.ref T4, .ref T6, .list (([dField F, dRow h.now.row, dSteps (h.now.row.map Prod.snd), dSteps (XM.act (OF F) (h.now.row.map Prod.snd) []).reverse, .int (h.now.row.length : Int), .tuple ((freeN F h.now.row h.now.row.length).map fun n : Nat => PyData.int (n : Int))] ++ (List.range (h.now.cnt + 1)).map fun k : Nat => PyData.bool (hasN h.now.row (k : Int))) ++ [.bool false, .bool false, .bool false]), rfl,
      .lst (SqL.of (j5x _ _ eT4)) (((DpAll.sm j0x _ DT).app (dB _)).app d3), .lst (SqL.of eT6) (((DpAll.sm j0x _ DU).app (dB _)).app d3), ?_, q_ _ (sq.trans j0x)⟩
    refine ((okd_lst (j := 3) (n := 1600) (k := 80) (fun d hd => ?_) ?_).sz (by decide)).mono (by decide)
    · rcases List.mem_append.mp hd with hd | hd
      · rcases List.mem_append.mp hd with hd | hd
        · simp only [List.mem_cons, List.not_mem_nil, or_false] at hd
          have gd : ∀ s ∈ h.now.row.map Prod.snd, s.1 ∈ F.names ∧ GoodTimes s.2 := fun s hs => by
            obtain ⟨p, hp, rfl⟩ := List.mem_map.mp hs
            exact so.good p hp
          have gl : (h.now.row.map Prod.snd).length ≤ 60 := by rw [List.length_map]; exact ls
          rcases hd with q | q | q | q | q | q <;> rw [q]
          · exact (fld_okd ok).mono (Nat.le_refl _) (by decide)
          · exact (okd_row ok so).mono (Nat.le_refl _) (by decide)
          · exact (okd_steps gl fun s hs => ⟨ok.sgn _ (gd s hs).1, (good_abs (gd s hs).2).2⟩).mono (by decide) (by decide)
          · exact (okd_pile ok gd gl).mono (by decide) (by decide)
          · refine (okd_int ?_).mono (by decide) (by decide)
            have : ((h.now.row.length : Int)).natAbs ≤ 60 := by omega
            exact Nat.lt_of_le_of_lt this (by decide +kernel)
          · refine (okd_nums (Nat.le_trans free_len ls) fun n hn => ?_).mono (by decide) (by decide)
            unfold freeN at hn
            obtain ⟨x, hx, rfl⟩ := List.mem_map.mp hn
            have hx := (List.mem_filter.mp hx).1
            rw [List.take_length] at hx
            have hm := List.fst_mem_of_mem_zipIdx hx
            have := so.lt _ hm
            omega
        · obtain ⟨k, _, rfl⟩ := List.mem_map.mp hd
          cases hasN h.now.row (k : Int) <;> exact okd_dec (by decide +kernel)
      · simp only [List.mem_cons, List.not_mem_nil, or_false] at hd
        rcases hd with q | q | q <;> rw [q] <;> exact okd_dec (by decide +kernel)
    · rw [List.length_append, List.length_append, List.length_map, List.length_range]
      simp
      omega
end
end XB
set_option Elab.async false
set_option linter.all false
set_option maxRecDepth 100000
set_option maxHeartbeats 4000000
namespace XB
open PySem PySem.Spec PyProof.Rows L2
/-! sheet, own sheet and drawing stand beside one another -/
theorem Sb.kp {m g : Addr} {H H' : Hp} (k : Kp m g H H') : Sb [m, g] H H' := fun b u n e => k b u (fun z => n (by rw [z]; exact List.mem_cons_self)) (fun z => n (by rw [z]; exact List.mem_cons_of_mem _ List.mem_cons_self)) e
section
variable {K : PySem.W.Frag} {mg : Str → Option Value} {H H' : Hp} {a o m c g : Addr} {F : Fld} {h h2 : Sh} {N : Addr → Prop} {s : Int}
theorem SheetAt.sb {A : List Addr} (hA : SheetAt K mg H a F h) (x : Sb A H H') (t : Tk H H') (n : a ∉ A) : SheetAt K mg H' a F h := by
  obtain ⟨f, st, ⟨C, dx, hC, e⟩, hF, hS⟩ := hA
  exact ⟨f, st, ⟨C, dx, hC, x _ _ n e⟩, Dp.tk t _ (flat_field F) hF, Dp.tk t _ (flat_sh h) hS⟩
theorem OwnAt.sb {A : List Addr} (w : OwnAt K H o F h N) (x : Sb A H H') (t : Tk H H') (n : o ∉ A) (nl : ∀ b ∈ A, ¬ N b ∨ ∀ xs, H b ≠ some (.lst xs)) : OwnAt K H' o F h N := by
  obtain ⟨f, nw, p, q, ps, qs, e, h1, h2, h3, h4, h5, h6, h7, h8⟩ := w
  refine ⟨f, nw, p, q, ps, qs, x _ _ n e, Dp.tk t _ (flat_field F) h1, Dp.tk t _ (flat_ss _) h2, x _ _ (fun z => ?_) h3, DpAll.tk t _ (flat_sss _) h4, x _ _ (fun z => ?_) h5, DpAll.tk t _ (flat_sss _) h6, h7, h8⟩
  · rcases nl _ z with q | q
    · exact q h7
    · exact q _ h3
  · rcases nl _ z with q | q
    · exact q h8
    · exact q _ h5
theorem Dr.sb {A : List Addr} (R : Dr H m c g s) (x : Sb A H H') (n : m ∉ A) (nl : ∀ b ∈ A, ∀ xs, H b ≠ some (.lst xs)) : Dr H' m c g s := by
  obtain ⟨⟨cs, gs, em, ec, eg, r⟩, u, v⟩ := R
  exact ⟨⟨cs, gs, x _ _ n em, x _ _ (fun z => nl _ z _ ec) ec, x _ _ (fun z => nl _ z _ eg) eg, r⟩, u, v⟩
/-- the three stand apart -/
structure Apart3 (mg : Str → Option Value) (H : Hp) (a o m g : Addr) : Prop where
  ao : a ≠ o
  am : a ≠ m
  ag : a ≠ g
  om : o ≠ m
  og : o ≠ g
theorem apart3 (hA : SheetAt K mg H a F h) (w : OwnAt K H o F h2 N) (R : Dr H m c g s) : Apart3 mg H a o m g := by
  obtain ⟨f, st, ⟨C, dx, hC, ea⟩, _⟩ := hA
  obtain ⟨f', nw, p, q, ps, qs, eo, _⟩ := w
  obtain ⟨⟨cs, gs, em, ec, eg, _⟩, _⟩ := R
  refine ⟨fun z => ?_, fun z => ?_, fun z => ?_, fun z => ?_, fun z => ?_⟩
  · rw [z, eo] at ea
    cases ea
  · rw [z, em] at ea
    cases ea
  · rw [z, eg] at ea
    cases ea
  · rw [z, em] at eo
    injection eo with eo
    injection eo with eo
    have := congrArg List.length eo
    cases this
  · rw [z, eg] at eo
    cases eo
theorem sheet_noL (hA : SheetAt K mg H a F h) : ∀ b ∈ [a], ∀ xs, H b ≠ some (.lst xs) := fun b hb xs e => by
  obtain ⟨f, st, ⟨C, dx, hC, ea⟩, _⟩ := hA
  rw [List.mem_singleton.mp hb, ea] at e
  cases e
theorem own_noL (w : OwnAt K H o F h N) : ∀ b ∈ [o], ∀ xs, H b ≠ some (.lst xs) := fun b hb xs e => by
  obtain ⟨f', nw, p, q, ps, qs, eo, _⟩ := w
  rw [List.mem_singleton.mp hb, eo] at e
  cases e
/-- all three, behind a draw -/
theorem three_kp (hA : SheetAt K mg H a F h) (w : OwnAt K H o F h2 (· ≠ g)) (R : Dr H m c g s) (k : Kp m g H H') : SheetAt K mg H' a F h ∧ OwnAt K H' o F h2 (· ≠ g) := by
  have d := apart3 hA w R
  refine ⟨hA.sb (Sb.kp k) (R.tk k) ?_, w.sb (Sb.kp k) (R.tk k) ?_ ?_⟩
  · simp [d.am, d.ag]
  · simp [d.om, d.og]
  · intro b hb
    rcases List.mem_cons.mp hb with z | hb
    · right
      intro xs e
      obtain ⟨⟨cs, gs, em, _⟩, _⟩ := R
      rw [z, em] at e
      cases e
    · left
      rw [List.mem_singleton.mp hb]
      exact fun q => q rfl
/-- the sheet is written: own sheet and drawing stand -/
theorem two_sheet (hA : SheetAt K mg H a F h) (w : OwnAt K H o F h2 N) (R : Dr H m c g s) (x : Sb [a] H H') (t : Tk H H') : OwnAt K H' o F h2 N ∧ Dr H' m c g s := by
  have d := apart3 hA w R
  refine ⟨w.sb x t (by simp [d.ao.symm]) fun b hb => .inr (sheet_noL hA b hb), R.sb x (by simp [d.am.symm]) (sheet_noL hA)⟩
theorem two_own (hA : SheetAt K mg H a F h) (w : OwnAt K H o F h2 N) (R : Dr H m c g s) (x : Sb [o] H H') (t : Tk H H') : SheetAt K mg H' a F h ∧ Dr H' m c g s := by
  have d := apart3 hA w R
  exact ⟨hA.sb x t (by simp [d.ao]), R.sb x (by simp [d.om.symm]) (own_noL w)⟩
theorem SheetAt.ext (hA : SheetAt K mg H a F h) (x : LamX.ExtN H H') : SheetAt K mg H' a F h := by
  obtain ⟨f, st, ⟨C, dx, hC, e⟩, hF, hS⟩ := hA
  exact ⟨f, st, ⟨C, dx, hC, x _ _ e (fun ps z => nomatch z)⟩, Dp.ext x _ hF, Dp.ext x _ hS⟩
theorem OwnAt.ext (w : OwnAt K H o F h N) (x : LamX.ExtN H H') : OwnAt K H' o F h N := by
  obtain ⟨f, nw, p, q, ps, qs, e, h1, h2, h3, h4, h5, h6, h7⟩ := w
  exact ⟨f, nw, p, q, ps, qs, x _ _ e (fun ps z => nomatch z), Dp.ext x _ h1, Dp.ext x _ h2, extN_lst x h3, DpAll.ext x _ h4, extN_lst x h5, DpAll.ext x _ h6, h7⟩
theorem OwnAt.names {N' : Addr → Prop} (w : OwnAt K H o F h N) (i : ∀ x, N x → N' x) : OwnAt K H o F h N' := by
  obtain ⟨f, nw, p, q, ps, qs, e, h1, h2, h3, h4, h5, h6, h7, h8⟩ := w
  exact ⟨f, nw, p, q, ps, qs, e, h1, h2, h3, h4, h5, h6, i _ h7, i _ h8⟩
theorem fresh_g (R : Dr H m c g s) : ∀ x, H x = none → x ≠ g := fun x e z => by
  obtain ⟨⟨cs, gs, em, ec, eg, _⟩, _⟩ := R
  rw [z, eg] at e
  cases e
/-- tables stand when the sheet, or the own sheet, is written -/
theorem tabs_sheet {TT : List (Addr × Str)} (t : LamX.Tabs TT H) (hA : SheetAt K mg H a F h) (x : Sb [a] H H') : LamX.Tabs TT H' := tabs_sb t x fun b hb o' e => by
  obtain ⟨f, st, ⟨C, dx, hC, ea⟩, _⟩ := hA
  rw [List.mem_singleton.mp hb, ea] at e
  cases e
  exact ⟨fun _ q => (nomatch q), fun _ q => (nomatch q)⟩
theorem tabs_own {TT : List (Addr × Str)} (t : LamX.Tabs TT H) (w : OwnAt K H o F h N) (x : Sb [o] H H') : LamX.Tabs TT H' := tabs_sb t x fun b hb o' e => by
  obtain ⟨f', nw, p, q, ps, qs, eo, _⟩ := w
  rw [List.mem_singleton.mp hb, eo] at e
  cases e
  exact ⟨fun _ q => (nomatch q), fun _ q => (nomatch q)⟩
theorem tabs_kp {TT : List (Addr × Str)} (t : LamX.Tabs TT H) (R : Dr H m c g s) (k : Kp m g H H') : LamX.Tabs TT H' := tabs_sb t (Sb.kp k) fun b hb o' e => by
  obtain ⟨⟨cs, gs, em, ec, eg, _⟩, _⟩ := R
  rcases List.mem_cons.mp hb with z | hb
  · rw [z, em] at e
    cases e
    exact ⟨fun _ q => (nomatch q), fun _ q => (nomatch q)⟩
  · rw [List.mem_singleton.mp hb, eg] at e
    cases e
    exact ⟨fun _ q => (nomatch q), fun _ q => (nomatch q)⟩
end
/-- bounds of a sheet behind so many deeds -/
structure ShB (F : Fld) (h : Sh) (n : Nat) : Prop where
  ok : ShOk F h
  now : h.now.row.length ≤ n ∧ h.now.cnt ≤ n
  past : ∀ s ∈ h.past, s.row.length ≤ n ∧ s.cnt ≤ n
  fut : ∀ s ∈ h.fut, s.row.length ≤ n ∧ s.cnt ≤ n
  len : h.past.length + h.fut.length ≤ n
  org : (h.past ++ [h.now]).head? = some ⟨[], 0⟩
theorem head_app {α : Type} {l : List α} {x : α} (m : List α) (h : l.head? = some x) : (l ++ m).head? = some x := by
  cases l with
  | nil => cases h
  | cons a l => exact h
theorem sok_do {F : Fld} {s : SS} {x : Stp} {n : Nat} (so : SOk F s) (hx : x.1 ∈ F.names ∧ GoodTimes x.2) (h1 : s.row.length ≤ n) (h2 : s.cnt ≤ n) (hn : n < 60) : SOk F ⟨s.row ++ [(s.cnt, x)], s.cnt + 1⟩ := by
  refine ⟨fun p hp => ?_, ?_, fun p hp => ?_, ?_, ?_⟩
  · rcases List.mem_append.mp hp with q | q
    · exact so.good p q
    · rw [List.mem_singleton.mp q]
      exact hx
  · show ((s.row ++ [(s.cnt, x)]).map Prod.fst).Pairwise (· < ·)
    rw [List.map_append]
    refine List.pairwise_append.mpr ⟨so.asc, List.pairwise_singleton _ _, fun u hu v hv => ?_⟩
    obtain ⟨p, hp, rfl⟩ := List.mem_map.mp hu
    have hv : v ∈ [s.cnt] := hv
    rw [List.mem_singleton.mp hv]
    exact so.lt p hp
  · show p.1 < s.cnt + 1
    rcases List.mem_append.mp hp with q | q
    · have := so.lt p q
      omega
    · rw [List.mem_singleton.mp q]
      exact Nat.lt_succ_self _
  · show (s.row ++ [(s.cnt, x)]).length ≤ 60
    rw [List.length_append, List.length_singleton]
    omega
  · show s.cnt + 1 ≤ 70
    omega
theorem sok_without {F : Fld} {s : SS} (so : SOk F s) (ns : List Nat) : SOk F ⟨without s.row ns, s.cnt⟩ := by
  have sub : (without s.row ns).Sublist s.row := List.filter_sublist
  refine ⟨fun p hp => so.good p (sub.subset hp), so.asc.sublist (sub.map Prod.fst), fun p hp => so.lt p (sub.subset hp), Nat.le_trans sub.length_le so.len, so.cn⟩
theorem ShB.grow {F : Fld} {h : Sh} {n : Nat} {s : SS} (b : ShB F h n) (so : SOk F s) (h1 : s.row.length ≤ n + 1) (h2 : s.cnt ≤ n + 1) : ShB F ⟨s, h.past ++ [h.now], []⟩ (n + 1) := by
  refine ⟨⟨so, fun x hx => ?_, fun x hx => (nomatch hx)⟩, ⟨h1, h2⟩, fun x hx => ?_, fun x hx => (nomatch hx), ?_, ?_⟩
  · rcases List.mem_append.mp hx with q | q
    · exact b.ok.past x q
    · rw [List.mem_singleton.mp q]
      exact b.ok.now
  · rcases List.mem_append.mp hx with q | q
    · have := b.past x q
      omega
    · rw [List.mem_singleton.mp q]
      have := b.now
      omega
  · show (h.past ++ [h.now]).length + 0 ≤ n + 1
    rw [List.length_append, List.length_singleton]
    have := b.len
    omega
  · exact head_app _ b.org
theorem ShB.back {F : Fld} {h : Sh} {n : Nat} {ps : List SS} {s : SS} (b : ShB F h n) (e : h.past = ps ++ [s]) : ShB F ⟨s, ps, h.now :: h.fut⟩ n := by
  have hm : ∀ x, x ∈ ps ∨ x = s → x ∈ h.past := fun x hx => by
    rw [e]
    rcases hx with q | q
    · exact List.mem_append_left _ q
    · rw [q]
      exact List.mem_append_right _ List.mem_cons_self
  refine ⟨⟨b.ok.past s (hm s (.inr rfl)), fun x hx => b.ok.past x (hm x (.inl hx)), fun x hx => ?_⟩, b.past s (hm s (.inr rfl)), fun x hx => b.past x (hm x (.inl hx)), fun x hx => ?_, ?_, ?_⟩
  · rcases List.mem_cons.mp hx with q | q
    · rw [q]
      exact b.ok.now
    · exact b.ok.fut x q
  · rcases List.mem_cons.mp hx with q | q
    · rw [q]
      exact b.now
    · exact b.fut x q
  · have := b.len
    rw [e, List.length_append, List.length_singleton] at this
    show ps.length + (h.now :: h.fut).length ≤ n
    rw [List.length_cons]
    omega
  · have o := b.org
    show (ps ++ [s]).head? = some ⟨[], 0⟩
    rw [e] at o
    cases ps with
    | nil => exact o
    | cons y ps => exact o
theorem ShB.forth {F : Fld} {h : Sh} {n : Nat} {fs : List SS} {s : SS} (b : ShB F h n) (e : h.fut = s :: fs) : ShB F ⟨s, h.past ++ [h.now], fs⟩ n := by
  have hm : ∀ x, x ∈ fs ∨ x = s → x ∈ h.fut := fun x hx => by
    rw [e]
    rcases hx with q | q
    · exact List.mem_cons_of_mem _ q
    · rw [q]
      exact List.mem_cons_self
  refine ⟨⟨b.ok.fut s (hm s (.inr rfl)), fun x hx => ?_, fun x hx => b.ok.fut x (hm x (.inl hx))⟩, b.fut s (hm s (.inr rfl)), fun x hx => ?_, fun x hx => b.fut x (hm x (.inl hx)), ?_, head_app _ b.org⟩
  · rcases List.mem_append.mp hx with q | q
    · exact b.ok.past x q
    · rw [List.mem_singleton.mp q]
      exact b.ok.now
  · rcases List.mem_append.mp hx with q | q
    · exact b.past x q
    · rw [List.mem_singleton.mp q]
      exact b.now
  · have := b.len
    rw [e, List.length_cons] at this
    show (h.past ++ [h.now]).length + fs.length ≤ n
    rw [List.length_append, List.length_singleton]
    omega
theorem ShB.mono {F : Fld} {h : Sh} {n k : Nat} (b : ShB F h n) (hk : n ≤ k) : ShB F h k := ⟨b.ok, by have := b.now; omega, fun s hs => by have := b.past s hs; omega, fun s hs => by have := b.fut s hs; omega, by have := b.len; omega, b.org⟩
end XB
set_option Elab.async false
set_option linter.all false
set_option maxRecDepth 100000
set_option maxHeartbeats 4000000
/-! 'except x as n', the exception kept, where nothing is known of the def's own names but how many there are -/
namespace XB
open PySem PySem.Spec PyProof.Rows L2
/-- what the clause 'except x as n' wishes, the exception being kept -/
def wKeepN (n : Nat) (K : PySem.W.Frag) (c : Value) (i : Nat) (ts : Addr → Value → Option Addr → TS) (Wout : WX) (D : Ends) : WX := fun cls d σ H => σ.length = n →
  ∃ b, PySem.W.exmOne K cls c = some b ∧ (b = true → ∀ a, H a = none → ts a cls d { nx := fun σ' H' => D.nx (σ'.set i none) (upd H' a (exg a cls d)), rt := fun v H' => D.rt v (upd H' a (exg a cls d)), bk := fun σ' H' => D.bk (σ'.set i none) (upd H' a (exg a cls d)), ct := fun σ' H' => D.ct (σ'.set i none) (upd H' a (exg a cls d)) } (σ.set i (some (.ref a))) H) ∧
    (b = false → Wout cls d σ H)
section
variable {X : Cx} {x n : Str} {c : Value} {i : Nat} {body suite : List Stmt} {b₀ : Stmt} {np pos pos' : Pos} {tb : WX → TS} {ts : Addr → Value → Option Addr → TS} {Wout : WX}
theorem ps_keepN (hx : X.ex = []) (hs : X.stack = X.env :: X.outer) (hf : X.env.frame = some X.env.locals) (hN : X.N.Nodup) (hi : X.N[i]? = some n) (hln : X.env.kindOf n = some .local) (hc : L2.Names X x c) (tk : Takes X Wout)
    (hb : ∀ (W : WX) (pn : List (Addr × Obj)) (xe : Value → Shared → Prop), Takes (X.tr pn xe) W → PassesOwn (model X.prog X.w) X.A X.env xe → PSs (X.tr pn xe) body (tb W))
    (hsu : ∀ (a : Addr) (oe : Obj) (cls : Value) (d : Option Addr) (pn : List (Addr × Obj)), Zc cls d oe → (∃ vs, oe.data = .fields vs) → PSs (X.suite a ((a, oe) :: pn)) (b₀ :: suite) (ts a cls d)) :
    PS X (.Try body [.ExceptHandler (some (.Name x np)) (some n) (b₀ :: suite) pos'] [] [] pos) (fun D σ H => tb (wKeepN X.N.length X.K c i ts Wout D) D σ H) := by
  constructor
  intro pins s σ H D I h
  have kk := I.ok
  have frm : X.A.frames = some (X.env :: X.outer) := by rw [kk.frames, hs]
  have lo : Loc X.env.scope n := .inl hln
  refine wpAny_Try_except (wpAny_mono ((hb (wKeepN X.N.length X.K c i ts Wout D) (X.pn ++ pins) (fun e s₁ => wpAny (model X.prog X.w) X.A (noteFrame e X.env) (fun _ s₂ => wpAny (model X.prog X.w) X.A (setFlight e none) (fun _ s₃ => wpAny (model X.prog X.w) X.A (handleBy e X.env [.ExceptHandler (some (.Name x np)) (some n) (b₀ :: suite) pos']) (SP X pins D) X.xe s₃) X.xe s₂) X.xe s₁) ?_ PassesOwn.looking).run [] s σ H D (I.toTry _) h) ?_ (fun _ _ he => he))
  · rintro u s' ⟨a, B, sI, pins', σ', H', cls, d, rfl, J', nb, up, sky, na, os, ag, hlen⟩
    obtain ⟨b, hb1, hyes, hno⟩ := hlen J'.len
    have J : Inv X pins σ' H' sI := J'.ofTry kk
    rw [hs] at sky
    show wpAny (model X.prog X.w) X.A (noteFrame (.ref a) X.env) _ _ _
    refine Sky.land Zc.steady frm hf sky fun h3 fl3 up3 => ?_
    have J3 : Inv X pins σ' H' { s' with heap := h3 } := J.landed nb fl3.1 (up.trans up3) os ag
    obtain ⟨oe3, vs3, he3, hz3, hd3⟩ := fl3.there
    have nfr : a ∉ frs (X.env :: X.outer) := fun hm => by
      obtain ⟨_, o', e', hnf⟩ := fl3.2.2.1.mem hm
      rw [he3] at e'
      cases e'
      exact hnf _ hd3
    have nL : a ≠ X.env.locals := fun z => nfr (List.mem_filterMap.mpr ⟨X.env, List.mem_cons_self, by rw [hf, z]⟩)
    have nF : a ∉ X.fs := fun hm => by
      obtain ⟨e, he, q⟩ := List.mem_filterMap.mp hm
      exact nfr (List.mem_filterMap.mpr ⟨e, List.mem_cons_of_mem _ he, q⟩)
    have Ba : B.get? a = none := fl3.2.1
    have gone : sI.heap.get? a = none := by
      cases q : sI.heap.get? a with
      | none => rfl
      | some o =>
        have z := nb a o q (by rw [hs]; exact nfr)
        rw [Ba] at z
        cases z
    have g0 : X.s_0.heap.get? a = none := by
      cases q : X.s_0.heap.get? a with
      | none => rfl
      | some o =>
        obtain ⟨o', z⟩ := J.base.there a o q (by rw [hx]; simp)
        rw [gone] at z
        cases z
    have gc : ∀ x c, X.env.cells.lookup x = some c → c ≠ a := fun x c e z => by
      obtain ⟨v, o, ho, _⟩ := J.cell x c e
      rw [z, gone] at ho
      cases ho
    have gp : ∀ p ∈ X.pn ++ pins, p.1 ≠ a := fun p hp z => by
      have w := (J.pin p hp).1
      rw [z, gone] at w
      cases w
    have S3 := J3.suite he3 hd3 na nL nF
    refine wpAny_handleBy_cons (codeAny_handlers_test ?_) (by intro q; cases q)
    have LT : PySem.W.Looks (model X.prog X.w) h3 (typeOf (.ref a)) cls := fun A Q E s k q => wpAny_typeOf_ref (k _ _ he3) (by rw [hz3.1]; exact q)
    have LM := PySem.W.exm_one (M := model X.prog X.w) J3.kIn LT hb1
    have tst : ∀ {Q : Value → Shared → Prop} {E : Value → Shared → Prop}, Q c { s' with heap := h3 } → wpAny (model X.prog X.w) (X.A.mark (some (.ref a))) (eval (.Name x np) X.env) Q E { s' with heap := h3 } := fun {Q E} q => by
      obtain ⟨hg, hdbg, hm | ⟨hm, hv, hnn⟩⟩ := hc
      · exact ld_glob (X := X.suite a ((a, oe3) :: (X.pn ++ pins))) S3 hg hm q hdbg
      · exact ld_blt (X := X.suite a ((a, oe3) :: (X.pn ++ pins))) S3 hg hm hv q hnn hdbg
    refine tst (LM.here ?_)
    cases b with
    | true =>
      refine codeAny_handlers_suite_as (HandSPX.lands_againZ fl3 fun h4 fl4 up4 => ?_)
      have J4 : Inv X pins σ' H' { s' with heap := h4 } := J.landed nb fl4.1 ((up.trans up3).trans up4) os ag
      obtain ⟨oe4, vs4, he4, hz4, hd4⟩ := fl4.there
      have S4 := J4.suite he4 hd4 na nL nF
      refine store_ok (X := X.suite a ((a, oe4) :: (X.pn ++ pins))) (v := .ref a) S4 hN hi lo rfl (fun s5 S5 => ?_) (.inr hln)
      refine wpAny_mono ((hsu a oe4 cls d (X.pn ++ pins) hz4 ⟨_, hd4⟩).run [] s5 _ H' _ S5 (hyes rfl a na)) ?_ (fun _ _ z => False.elim z)
      have fin : ∀ {s6 : Shared} {σ6 : L2.St} {H6 : Hp} {Q : Shared → Prop}, Inv (X.suite a ((a, oe4) :: (X.pn ++ pins))) [] σ6 H6 s6 → (∀ s7, Inv X pins (σ6.set i none) (upd H6 a (exg a cls d)) s7 → Q s7) →
          wpAny (model X.prog X.w) X.A (do bindName X.env n .none; unbindBehindTheSuite X.env n pos') (fun _ s7 => Q s7) X.xe s6 := fun {s6 σ6 H6 Q} S6 hq => by
        obtain ⟨w1, w2, _⟩ := S6.pin (a, oe4) (List.mem_append_left _ List.mem_cons_self)
        exact gone_ok (adopt (S6.unsuite kk) w2 g0 nL gc gp (exg_ok w1 hz4.1 hz4.2 hd4)) hN hi hln hq
      intro f s6 hsp
      cases f with
      | next =>
        obtain ⟨σ6, H6, S6, q6⟩ := hsp
        exact fin S6 fun s7 J7 => ⟨_, _, J7, q6⟩
      | brk =>
        obtain ⟨σ6, H6, S6, q6⟩ := hsp
        exact fin S6 fun s7 J7 => ⟨_, _, J7, q6⟩
      | cont =>
        obtain ⟨σ6, H6, S6, q6⟩ := hsp
        exact fin S6 fun s7 J7 => ⟨_, _, J7, q6⟩
      | ret u =>
        obtain ⟨v6, σ6, H6, S6, r6, q6⟩ := hsp
        exact fin S6 fun s7 J7 => ⟨_, _, _, J7, r6, q6⟩
    | false =>
      show wpAny _ X.A (handleBy (.ref a) X.env []) _ _ _
      refine wpAny_handleBy_nil ?_
      obtain ⟨k1, k2, k3, oe, vs, Tb, oT, tss, he, hz, hd, h1, hr⟩ := id fl3
      unfold PySem.passOn
      refine wpAny_bind (wpAny_field he hd h1 ?_)
      rw [if_neg (show ¬ ((Value.ref Tb == Value.none) = true) from by simp)]
      have last : wpAny (model X.prog X.w) X.A (setFlight (.ref a) X.env.frame) (fun _ s4 => wpAny (model X.prog X.w) X.A (throw (.ref a) : Sem Flow) (SP X pins D) X.xe s4) X.xe { s' with heap := h3 } := by
        rw [hf]
        refine HandSPX.setFlight_upZ fl3 fun h4 hh4 up4 => wpAny_throw (tk _ _ ⟨a, B, sI, pins, σ', H', cls, d, rfl, J, nb, (up.trans up3).trans up4, .inr (.inr ?_), na, os, ag, hno rfl⟩)
        rw [hs]
        exact hh4
      first
        | exact wpAny_bind (wpAny_pure (wpAny_bind last))
        | exact wpAny_bind last
  · intro f s1 hsp
    cases f with
    | next =>
      obtain ⟨σ', H', J', q⟩ := hsp
      exact wpAny_execs_nil ⟨σ', H', J'.ofTry kk, q⟩
    | brk =>
      obtain ⟨σ', H', J', q⟩ := hsp
      exact ⟨σ', H', J'.ofTry kk, q⟩
    | cont =>
      obtain ⟨σ', H', J', q⟩ := hsp
      exact ⟨σ', H', J'.ofTry kk, q⟩
    | ret u =>
      obtain ⟨v, σ', H', J', r, q⟩ := hsp
      exact ⟨v, σ', H', J'.ofTry kk, r, q⟩
end
end XB
set_option Elab.async false
set_option linter.all false
set_option maxRecDepth 100000
set_option maxHeartbeats 4000000
/-! 'except (x, y) as n', the exception kept: as XT2's, for a tuple of two classes -/
namespace XB
open PySem PySem.Spec PyProof.Rows L2
/-- what the clause 'except (x, y) as n' wishes, the exception being kept -/
def wKeepT (n : Nat) (K : PySem.W.Frag) (c1 c2 : Value) (i : Nat) (ts : Addr → Value → Option Addr → TS) (Wout : WX) (D : Ends) : WX := fun cls d σ H => σ.length = n →
  ∃ b, PySem.W.exmAny K cls [c1, c2] = some b ∧ (b = true → ∀ a, H a = none → ts a cls d { nx := fun σ' H' => D.nx (σ'.set i none) (upd H' a (exg a cls d)), rt := fun v H' => D.rt v (upd H' a (exg a cls d)), bk := fun σ' H' => D.bk (σ'.set i none) (upd H' a (exg a cls d)), ct := fun σ' H' => D.ct (σ'.set i none) (upd H' a (exg a cls d)) } (σ.set i (some (.ref a))) H) ∧
    (b = false → Wout cls d σ H)
theorem FlyingZ.grow {base h h' : Heap} {l : List Env} {e : Addr} {Z : Obj → Prop} (k : ∀ b o, h.get? b = some o → h'.get? b = some o) (f : HandSPX.FlyingZ base l e Z h) : HandSPX.FlyingZ base l e Z h' := by
  obtain ⟨hkb, hen, hl, oe, vs, T, oT, ts, he, hz, hd, h1, hnT, hTe, hT, hdT, h3⟩ := f
  exact ⟨fun b o q => k b o (hkb b o q), hen, hl.of_keeps fun b o hb _ => ⟨o, k b o hb, rfl⟩, oe, vs, T, oT, ts, k _ _ he, hz, hd, h1, hnT, hTe, k _ _ hT, hdT, h3⟩
section
variable {X : Cx} {x y n : Str} {c c2 : Value} {i : Nat} {body suite : List Stmt} {b₀ : Stmt} {np np2 tp pos pos' : Pos} {kt : Nat} {tb : WX → TS} {ts : Addr → Value → Option Addr → TS} {Wout : WX}
theorem ps_keepT (hx : X.ex = []) (hs : X.stack = X.env :: X.outer) (hf : X.env.frame = some X.env.locals) (hN : X.N.Nodup) (hi : X.N[i]? = some n) (hln : X.env.kindOf n = some .local) (hc : L2.Names X x c) (hc2 : L2.Names X y c2) (tk : Takes X Wout)
    (hb : ∀ (W : WX) (pn : List (Addr × Obj)) (xe : Value → Shared → Prop), Takes (X.tr pn xe) W → PassesOwn (model X.prog X.w) X.A X.env xe → PSs (X.tr pn xe) body (tb W))
    (hsu : ∀ (a : Addr) (oe : Obj) (cls : Value) (d : Option Addr) (pn : List (Addr × Obj)), Zc cls d oe → (∃ vs, oe.data = .fields vs) → PSs (X.suite a ((a, oe) :: pn)) (b₀ :: suite) (ts a cls d)) :
    PS X (.Try body [.ExceptHandler (some (.Tuple [.Name x np, .Name y np2] kt tp)) (some n) (b₀ :: suite) pos'] [] [] pos) (fun D σ H => tb (wKeepT X.N.length X.K c c2 i ts Wout D) D σ H) := by
  constructor
  intro pins s σ H D I h
  have kk := I.ok
  have frm : X.A.frames = some (X.env :: X.outer) := by rw [kk.frames, hs]
  have lo : Loc X.env.scope n := .inl hln
  refine wpAny_Try_except (wpAny_mono ((hb (wKeepT X.N.length X.K c c2 i ts Wout D) (X.pn ++ pins) (fun e s₁ => wpAny (model X.prog X.w) X.A (noteFrame e X.env) (fun _ s₂ => wpAny (model X.prog X.w) X.A (setFlight e none) (fun _ s₃ => wpAny (model X.prog X.w) X.A (handleBy e X.env [.ExceptHandler (some (.Tuple [.Name x np, .Name y np2] kt tp)) (some n) (b₀ :: suite) pos']) (SP X pins D) X.xe s₃) X.xe s₂) X.xe s₁) ?_ PassesOwn.looking).run [] s σ H D (I.toTry _) h) ?_ (fun _ _ he => he))
  · rintro u s' ⟨a, B, sI, pins', σ', H', cls, d, rfl, J', nb, up, sky, na, os, ag, hlen⟩
    obtain ⟨b, hb1, hyes, hno⟩ := hlen J'.len
    have J : Inv X pins σ' H' sI := J'.ofTry kk
    rw [hs] at sky
    show wpAny (model X.prog X.w) X.A (noteFrame (.ref a) X.env) _ _ _
    refine Sky.land Zc.steady frm hf sky fun h3 fl3 up3 => ?_
    have J3 : Inv X pins σ' H' { s' with heap := h3 } := J.landed nb fl3.1 (up.trans up3) os ag
    obtain ⟨oe3, vs3, he3, hz3, hd3⟩ := fl3.there
    have nfr : a ∉ frs (X.env :: X.outer) := fun hm => by
      obtain ⟨_, o', e', hnf⟩ := fl3.2.2.1.mem hm
      rw [he3] at e'
      cases e'
      exact hnf _ hd3
    have nL : a ≠ X.env.locals := fun z => nfr (List.mem_filterMap.mpr ⟨X.env, List.mem_cons_self, by rw [hf, z]⟩)
    have nF : a ∉ X.fs := fun hm => by
      obtain ⟨e, he, q⟩ := List.mem_filterMap.mp hm
      exact nfr (List.mem_filterMap.mpr ⟨e, List.mem_cons_of_mem _ he, q⟩)
    have Ba : B.get? a = none := fl3.2.1
    have gone : sI.heap.get? a = none := by
      cases q : sI.heap.get? a with
      | none => rfl
      | some o =>
        have z := nb a o q (by rw [hs]; exact nfr)
        rw [Ba] at z
        cases z
    have g0 : X.s_0.heap.get? a = none := by
      cases q : X.s_0.heap.get? a with
      | none => rfl
      | some o =>
        obtain ⟨o', z⟩ := J.base.there a o q (by rw [hx]; simp)
        rw [gone] at z
        cases z
    have gc : ∀ x c, X.env.cells.lookup x = some c → c ≠ a := fun x c e z => by
      obtain ⟨v, o, ho, _⟩ := J.cell x c e
      rw [z, gone] at ho
      cases ho
    have gp : ∀ p ∈ X.pn ++ pins, p.1 ≠ a := fun p hp z => by
      have w := (J.pin p hp).1
      rw [z, gone] at w
      cases w
    have S3 := J3.suite he3 hd3 na nL nF
    refine wpAny_handleBy_cons (codeAny_handlers_test ?_) (by intro q; cases q)
    have LT : PySem.W.Looks (model X.prog X.w) h3 (typeOf (.ref a)) cls := fun A Q E s k q => wpAny_typeOf_ref (k _ _ he3) (by rw [hz3.1]; exact q)
    have nam : ∀ {z : Str} {v : Value} {zp : Pos} {s0 : Shared} {Q : Value → Shared → Prop} {E : Value → Shared → Prop}, L2.Names X z v → Inv (X.suite a ((a, oe3) :: (X.pn ++ pins))) [] σ' H' s0 → Q v s0 → wpAny (model X.prog X.w) (X.A.mark (some (.ref a))) (eval (.Name z zp) X.env) Q E s0 := fun {z v zp s0 Q E} hz I0 q => by
      obtain ⟨hg, hdbg, hm | ⟨hm, hv, hnn⟩⟩ := hz
      · exact ld_glob (X := X.suite a ((a, oe3) :: (X.pn ++ pins))) I0 hg hm q hdbg
      · exact ld_blt (X := X.suite a ((a, oe3) :: (X.pn ++ pins))) I0 hg hm hv q hnn hdbg
    refine wpAny_Tuple_spliced ?_
    show wpAny _ _ (spliced ((false, eval (.Name x np) X.env) :: backTo tp ((false, eval (.Name y np2) X.env) :: starEach [] X.env))) _ _ _
    refine Calls.spliced_cons (nam hc S3 ?_)
    refine Calls.spliced_cons (nam hc2 S3 ?_)
    refine Calls.spliced_nil ⟨(show 2 ≤ sizeLine from by decide), ?_⟩
    have kp : ∀ b o, h3.get? b = some o → (h3.push { cls := .type "tuple", data := .seq [c, c2].toArray }).get? b = some o := fun b o e => Heap.get?_push_of_some _ e
    have LM := PySem.W.exm_tup2 (M := model X.prog X.w) (h := h3.push { cls := .type "tuple", data := .seq [c, c2].toArray }) (tp := h3.objs.size) (J3.kIn.keeps kp) (LT.keeps kp) (Heap.get?_push_size _ rfl) hb1
    refine LM.here ?_
    have up3' : s'.heap.UpToSlots (h3.push { cls := .type "tuple", data := .seq [c, c2].toArray }) := up3.trans fun b o hb _ => ⟨o.slots, kp b o hb⟩
    replace fl3 := FlyingZ.grow kp fl3
    replace J3 := (J3.kept (t' := s'.toks) (h' := h3.push { cls := .type "tuple", data := .seq [c, c2].toArray }) kp)
    clear S3 up3 he3 LT LM nam
    revert J3 fl3 up3'
    generalize h3.push { cls := .type "tuple", data := .seq [c, c2].toArray } = h5
    intro up3 fl3 J3
    cases b with
    | true =>
      refine codeAny_handlers_suite_as (HandSPX.lands_againZ fl3 fun h4 fl4 up4 => ?_)
      have J4 : Inv X pins σ' H' { s' with heap := h4 } := J.landed nb fl4.1 ((up.trans up3).trans up4) os ag
      obtain ⟨oe4, vs4, he4, hz4, hd4⟩ := fl4.there
      have S4 := J4.suite he4 hd4 na nL nF
      refine store_ok (X := X.suite a ((a, oe4) :: (X.pn ++ pins))) (v := .ref a) S4 hN hi lo rfl (fun s5 S5 => ?_) (.inr hln)
      refine wpAny_mono ((hsu a oe4 cls d (X.pn ++ pins) hz4 ⟨_, hd4⟩).run [] s5 _ H' _ S5 (hyes rfl a na)) ?_ (fun _ _ z => False.elim z)
      have fin : ∀ {s6 : Shared} {σ6 : L2.St} {H6 : Hp} {Q : Shared → Prop}, Inv (X.suite a ((a, oe4) :: (X.pn ++ pins))) [] σ6 H6 s6 → (∀ s7, Inv X pins (σ6.set i none) (upd H6 a (exg a cls d)) s7 → Q s7) →
          wpAny (model X.prog X.w) X.A (do bindName X.env n .none; unbindBehindTheSuite X.env n pos') (fun _ s7 => Q s7) X.xe s6 := fun {s6 σ6 H6 Q} S6 hq => by
        obtain ⟨w1, w2, _⟩ := S6.pin (a, oe4) (List.mem_append_left _ List.mem_cons_self)
        exact gone_ok (adopt (S6.unsuite kk) w2 g0 nL gc gp (exg_ok w1 hz4.1 hz4.2 hd4)) hN hi hln hq
      intro f s6 hsp
      cases f with
      | next =>
        obtain ⟨σ6, H6, S6, q6⟩ := hsp
        exact fin S6 fun s7 J7 => ⟨_, _, J7, q6⟩
      | brk =>
        obtain ⟨σ6, H6, S6, q6⟩ := hsp
        exact fin S6 fun s7 J7 => ⟨_, _, J7, q6⟩
      | cont =>
        obtain ⟨σ6, H6, S6, q6⟩ := hsp
        exact fin S6 fun s7 J7 => ⟨_, _, J7, q6⟩
      | ret u =>
        obtain ⟨v6, σ6, H6, S6, r6, q6⟩ := hsp
        exact fin S6 fun s7 J7 => ⟨_, _, _, J7, r6, q6⟩
    | false =>
      show wpAny _ X.A (handleBy (.ref a) X.env []) _ _ _
      refine wpAny_handleBy_nil ?_
      obtain ⟨k1, k2, k3, oe, vs, Tb, oT, tss, he, hz, hd, h1, hr⟩ := id fl3
      unfold PySem.passOn
      refine wpAny_bind (wpAny_field he hd h1 ?_)
      rw [if_neg (show ¬ ((Value.ref Tb == Value.none) = true) from by simp)]
      have last : wpAny (model X.prog X.w) X.A (setFlight (.ref a) X.env.frame) (fun _ s4 => wpAny (model X.prog X.w) X.A (throw (.ref a) : Sem Flow) (SP X pins D) X.xe s4) X.xe { s' with heap := h5 } := by
        rw [hf]
        refine HandSPX.setFlight_upZ fl3 fun h4 hh4 up4 => wpAny_throw (tk _ _ ⟨a, B, sI, pins, σ', H', cls, d, rfl, J, nb, (up.trans up3).trans up4, .inr (.inr ?_), na, os, ag, hno rfl⟩)
        rw [hs]
        exact hh4
      first
        | exact wpAny_bind (wpAny_pure (wpAny_bind last))
        | exact wpAny_bind last
  · intro f s1 hsp
    cases f with
    | next =>
      obtain ⟨σ', H', J', q⟩ := hsp
      exact wpAny_execs_nil ⟨σ', H', J'.ofTry kk, q⟩
    | brk =>
      obtain ⟨σ', H', J', q⟩ := hsp
      exact ⟨σ', H', J'.ofTry kk, q⟩
    | cont =>
      obtain ⟨σ', H', J', q⟩ := hsp
      exact ⟨σ', H', J'.ofTry kk, q⟩
    | ret u =>
      obtain ⟨v, σ', H', J', r, q⟩ := hsp
      exact ⟨v, σ', H', J'.ofTry kk, r, q⟩
end
end XB
set_option Elab.async false
set_option linter.all false
set_option maxRecDepth 100000
set_option maxHeartbeats 4000000
/-! repr of data with empty dicts in it -/
namespace XB
open PySem PySem.Spec PyProof.Rows L2
inductive De (H : Hp) : V → PyData → Prop
  | non : De H .non .none
  | bl (b : Bool) : De H (.bl b) (.bool b)
  | int (i : Int) : De H (.int i) (.int i)
  | str (x : Str) : De H (.str x) (.str x)
  | emp {a : Addr} : H a = some (.dK []) → De H (.ref a) (.dict [])
section
variable {X : Cx} {pins : List (Addr × Obj)} {σ : L2.St} {H : Hp} {s : Shared}
theorem De.reads (I : Inv X pins σ H s) {v : V} {d : PyData} {u : Value} (h : De H v d) (r : RelV v u) : ∃ as, Reads s.heap u d as ∧ sysModules ∉ as := by
  cases h with
  | non =>
    cases r
    exact ⟨_, .none, by simp⟩
  | bl b =>
    cases r
    exact ⟨_, .bool b, by simp⟩
  | int i =>
    obtain ⟨t, rfl⟩ := r
    exact ⟨_, .int i t, by simp⟩
  | str x =>
    obtain ⟨t, rfl⟩ := r
    exact ⟨_, .str x t, by simp⟩
  | @emp a e =>
    obtain rfl : u = Value.ref a := r
    obtain ⟨_, hd, vs, rel, dd⟩ := dk_of I.hok e
    have hv : vs = [] := by
      have := Paired.length rel
      exact List.length_eq_zero_iff.mp this.symm
    subst hv
    obtain ⟨o, es, ep, h1, h2, h3, h4⟩ := dd
    have hes : es.toList = [] := List.length_eq_zero_iff.mp (h4.2.1.length)
    refine ⟨a :: [] ++ [], Reads.dict (kvs := []) h1 h2.1 h3 ?_ ?_, ?_⟩
    · rw [hes]
      exact .nil
    · rw [hes]
      exact .nil
    · intro z
      have z : sysModules = a := by simpa using z
      rw [z] at hd
      simp at hd
theorem De.readsAll (I : Inv X pins σ H s) : ∀ {vs : List V} {ds : List PyData} {us : List Value}, Paired (De H) vs ds → Vals vs us → ∃ as, ReadsAll s.heap us ds as ∧ sysModules ∉ as
  | _, _, _, .nil, .nil => ⟨_, .nil, by simp⟩
  | _, _, _, .cons h t, .cons r rr => by
    obtain ⟨as, q1, n1⟩ := De.reads I h r
    obtain ⟨bs, q2, n2⟩ := De.readsAll I t rr
    refine ⟨_, .cons q1 q2, fun z => ?_⟩
    rcases List.mem_append.mp z with z | z
    · exact n1 z
    · exact n2 z
/-- such data, or a tuple of such -/
inductive De2 (K : PySem.W.Frag) (H : Hp) : V → PyData → Prop
  | one {v : V} {d : PyData} : De H v d → De2 K H v d
  | tup {a : Addr} {xs : List V} {ds : List PyData} : SqT K H a xs → Paired (De H) xs ds → De2 K H (.ref a) (.tuple ds)
theorem De2.reads (I : Inv X pins σ H s) {v : V} {d : PyData} {u : Value} (h : De2 X.K H v d) (r : RelV v u) : ∃ as, Reads s.heap u d as ∧ sysModules ∉ as := by
  cases h with
  | one h => exact h.reads I r
  | tup hs ha =>
    cases r
    obtain ⟨its, rv, ⟨o, ho, hc, n, hd⟩, _⟩ := I.tuple hs
    obtain ⟨as, hr, na⟩ := De.readsAll I ha rv
    exact ⟨_, Reads.tuple ho hc hd hr, na⟩
end
section
variable {X : Cx}
theorem call_reprE {K : PySem.W.Frag} (hk : X.K = K) (hgu : X.A.guards = some []) (hu : X.A.units + 70 < cLine) : CallR X (.builtin "repr") (fun xs H Q => ∃ x d, xs = [x] ∧ De2 K H x d ∧ d.showable = true ∧ d.depth ≤ 64 ∧ d.shown.length ≤ sizeLine ∧ Q (.str d.shown) H) := by
  subst hk
  intro pins s σ H xs us Q I r h
  obtain ⟨x, d, rfl, hd, hs, hdp, hz, q⟩ := h
  obtain ⟨u, rfl, rx⟩ := r.one
  obtain ⟨as, hr, na⟩ := hd.reads I rx
  cases hr with
  | none => exact PySem.P.repr_of_none ⟨.str _, H, I.tok _, ⟨_, rfl⟩, q⟩
  | bool b => exact PySem.P.repr_of_bool ⟨.str _, H, I.tok _, ⟨_, rfl⟩, q⟩
  | int i t => exact PySem.P.repr_of_int (of_decide_eq_true hs) ⟨.str _, H, I.tok _, ⟨_, rfl⟩, q⟩
  | str z t => exact PySem.P.repr_of_str ⟨.str _, H, I.tok _, ⟨_, rfl⟩, q⟩ hz
  | list h1 h2 h3 h4 => exact repr_of_reads' (Reads.list h1 h2 h3 h4) hs (fun _ => na) hgu (by omega) (fun _ _ e => e) (fun h' u tk k => ⟨.str _, H, I.kept k, ⟨_, rfl⟩, q⟩) hz
  | tuple h1 h2 h3 h4 => exact repr_of_reads' (Reads.tuple h1 h2 h3 h4) hs (fun _ => na) hgu (by omega) (fun _ _ e => e) (fun h' u tk k => ⟨.str _, H, I.kept k, ⟨_, rfl⟩, q⟩) hz
  | dict h1 h2 h3 h4 h5 => exact repr_of_reads' (Reads.dict h1 h2 h3 h4 h5) hs (fun _ => na) hgu (by omega) (fun _ _ e => e) (fun h' u tk k => ⟨.str _, H, I.kept k, ⟨_, rfl⟩, q⟩) hz
end
end XB
namespace XB
open PySem PySem.Spec PyProof.Rows L2
section
variable {X : Cx}
/-- data without dicts, or with empty ones beside flat things -/
def Dx (K : PySem.W.Frag) (H : Hp) (x : V) (d : PyData) : Prop := (Dp K H x d ∧ d.hasDict = false) ∨ De2 K H x d
theorem call_reprX {K : PySem.W.Frag} (hk : X.K = K) (hgu : X.A.guards = some []) (hu : X.A.units + 70 < cLine) : CallR X (.builtin "repr") (fun xs H Q => ∃ x d, xs = [x] ∧ Dx K H x d ∧ d.showable = true ∧ d.depth ≤ 64 ∧ d.shown.length ≤ sizeLine ∧ Q (.str d.shown) H) := by
  subst hk
  intro pins s σ H xs us Q I r h
  obtain ⟨x, d, rfl, hd, hs, hdp, hz, q⟩ := h
  rcases hd with ⟨hd, nd⟩ | hd
  · exact call_reprD hgu hu pins s σ H [x] us Q I r ⟨x, d, rfl, hd, hs, nd, hdp, hz, q⟩
  · exact call_reprE rfl hgu hu pins s σ H [x] us Q I r ⟨x, d, rfl, hd, hs, hdp, hz, q⟩
end
end XB
namespace XB
open PySem PySem.Spec PyProof.Rows L2
theorem sqT_same {K : PySem.W.Frag} {H H' : Hp} {a : Addr} {xs : List V} (s : Same H H') (h : SqT K H a xs) : SqT K H' a xs := by
  rcases h with h | h
  · rcases h with h | ⟨o, h⟩
    · exact .inl (.inl (s _ _ h))
    · exact .inl (.inr ⟨o, s _ _ h⟩)
  · exact .inr h
mutual
theorem dp_same {K : PySem.W.Frag} {H H' : Hp} (s : Same H H') : ∀ (d : PyData) {v : V}, Dp K H v d → Dp K H' v d
  | .none, _, h => by cases h; exact .non
  | .bool b, _, h => by cases h; exact .bl b
  | .int i, _, h => by cases h; exact .int i
  | .str x, _, h => by cases h; exact .str x
  | .tuple ds, _, h => by
    cases h with
    | tup hs ha => exact .tup (sqT_same s hs) (dpAll_same s ds ha)
  | .list ds, _, h => by
    cases h with
    | lst hs ha => exact .lst (s.seq hs) (dpAll_same s ds ha)
  | .dict _, _, h => by cases h
theorem dpAll_same {K : PySem.W.Frag} {H H' : Hp} (s : Same H H') : ∀ (ds : List PyData) {vs : List V}, DpAll K H vs ds → DpAll K H' vs ds
  | [], _, h => by cases h; exact .nil
  | d :: ds, _, h => by
    cases h with
    | cons h1 h2 => exact .cons (dp_same s d h1) (dpAll_same s ds h2)
end
theorem De.same {H H' : Hp} {v : V} {d : PyData} (h : De H v d) (s : Same H H') : De H' v d := by
  cases h with
  | non => exact .non
  | bl b => exact .bl b
  | int i => exact .int i
  | str x => exact .str x
  | emp e => exact .emp (s _ _ e)
end XB
set_option Elab.async false
set_option linter.all false
set_option maxRecDepth 100000
set_option maxHeartbeats 4000000
/-! lists that are told not to be the table of modules; repr of data with empty dicts in them -/
namespace XB
open PySem PySem.Spec PyProof.Rows L2
mutual
inductive Df (K : PySem.W.Frag) (H : Hp) : V → PyData → Prop
  | non : Df K H .non .none
  | bl (b : Bool) : Df K H (.bl b) (.bool b)
  | int (i : Int) : Df K H (.int i) (.int i)
  | str (x : Str) : Df K H (.str x) (.str x)
  | emp {a : Addr} : H a = some (.dK []) → Df K H (.ref a) (.dict [])
  | lst {a : Addr} {xs : List V} {ds : List PyData} : SqL K H a xs → a ≠ sysModules → DfAll K H xs ds → Df K H (.ref a) (.list ds)
  | tup {a : Addr} {xs : List V} {ds : List PyData} : SqT K H a xs → DfAll K H xs ds → Df K H (.ref a) (.tuple ds)
inductive DfAll (K : PySem.W.Frag) (H : Hp) : List V → List PyData → Prop
  | nil : DfAll K H [] []
  | cons {v : V} {vs : List V} {d : PyData} {ds : List PyData} : Df K H v d → DfAll K H vs ds → DfAll K H (v :: vs) (d :: ds)
end
mutual
theorem Df.same {K : PySem.W.Frag} {H H' : Hp} (s : Same H H') : ∀ (d : PyData) {v : V}, Df K H v d → Df K H' v d
  | .none, _, h => by cases h; exact .non
  | .bool b, _, h => by cases h; exact .bl b
  | .int i, _, h => by cases h; exact .int i
  | .str x, _, h => by cases h; exact .str x
  | .tuple ds, _, h => by
    cases h with
    | tup hs ha => exact .tup (sqT_same s hs) (DfAll.same s ds ha)
  | .list ds, _, h => by
    cases h with
    | lst hs hn ha => exact .lst (s.seq hs) hn (DfAll.same s ds ha)
  | .dict _, _, h => by
    cases h with
    | emp e => exact .emp (s _ _ e)
theorem DfAll.same {K : PySem.W.Frag} {H H' : Hp} (s : Same H H') : ∀ (ds : List PyData) {vs : List V}, DfAll K H vs ds → DfAll K H' vs ds
  | [], _, h => by cases h; exact .nil
  | d :: ds, _, h => by
    cases h with
    | cons h1 h2 => exact .cons (Df.same s d h1) (DfAll.same s ds h2)
end
section
variable {X : Cx} {pins : List (Addr × Obj)} {σ : L2.St} {H : Hp} {s : Shared}
mutual
theorem Df.reads (I : Inv X pins σ H s) : ∀ (d : PyData) {v : V} {u : Value}, Df X.K H v d → RelV v u → ∃ as, Reads s.heap u d as ∧ sysModules ∉ as
  | .none, _, _, h, r => by
    cases h
    cases r
    exact ⟨_, .none, by simp⟩
  | .bool b, _, _, h, r => by
    cases h
    cases r
    exact ⟨_, .bool b, by simp⟩
  | .int i, _, _, h, r => by
    cases h
    obtain ⟨t, rfl⟩ := r
    exact ⟨_, .int i t, by simp⟩
  | .str x, _, _, h, r => by
    cases h
    obtain ⟨t, rfl⟩ := r
    exact ⟨_, .str x t, by simp⟩
  | .list ds, _, _, h, r => by
    cases h with
    | lst hs hn ha =>
      cases r
      obtain ⟨its, rv, ⟨o, n, ho, hc, _, hd⟩, _⟩ := I.list hs
      obtain ⟨as, hr, na⟩ := DfAll.reads I ds ha rv
      refine ⟨_, Reads.list ho hc hd hr, fun z => ?_⟩
      rcases List.mem_cons.mp z with z | z
      · exact hn z.symm
      · exact na z
  | .tuple ds, _, _, h, r => by
    cases h with
    | tup hs ha =>
      cases r
      obtain ⟨its, rv, ⟨o, ho, hc, n, hd⟩, _⟩ := I.tuple hs
      obtain ⟨as, hr, na⟩ := DfAll.reads I ds ha rv
      exact ⟨_, Reads.tuple ho hc hd hr, na⟩
  | .dict kvs, _, _, h, r => by
    cases h with
    | emp e => exact De.reads I (.emp e) r
theorem DfAll.reads (I : Inv X pins σ H s) : ∀ (ds : List PyData) {vs : List V} {us : List Value}, DfAll X.K H vs ds → Vals vs us → ∃ as, ReadsAll s.heap us ds as ∧ sysModules ∉ as
  | [], _, _, h, r => by
    cases h
    cases r
    exact ⟨_, .nil, by simp⟩
  | d :: ds, _, _, h, r => by
    cases h with
    | cons h1 h2 =>
      cases r with
      | cons r1 r2 =>
        obtain ⟨as, q1, n1⟩ := Df.reads I d h1 r1
        obtain ⟨bs, q2, n2⟩ := DfAll.reads I ds h2 r2
        refine ⟨_, .cons q1 q2, fun z => ?_⟩
        rcases List.mem_append.mp z with z | z
        · exact n1 z
        · exact n2 z
end
end
section
variable {X : Cx}
theorem call_reprF {K : PySem.W.Frag} (hk : X.K = K) (hgu : X.A.guards = some []) (hu : X.A.units + 70 < cLine) : CallR X (.builtin "repr") (fun xs H Q => ∃ x d, xs = [x] ∧ Df K H x d ∧ d.showable = true ∧ d.depth ≤ 64 ∧ d.shown.length ≤ sizeLine ∧ Q (.str d.shown) H) := by
  subst hk
  intro pins s σ H xs us Q I r h
  obtain ⟨x, d, rfl, hd, hs, hdp, hz, q⟩ := h
  obtain ⟨u, rfl, rx⟩ := r.one
  obtain ⟨as, hr, na⟩ := hd.reads I d rx
  cases hr with
  | none => exact PySem.P.repr_of_none ⟨.str _, H, I.tok _, ⟨_, rfl⟩, q⟩
  | bool b => exact PySem.P.repr_of_bool ⟨.str _, H, I.tok _, ⟨_, rfl⟩, q⟩
  | int i t => exact PySem.P.repr_of_int (of_decide_eq_true hs) ⟨.str _, H, I.tok _, ⟨_, rfl⟩, q⟩
  | str z t => exact PySem.P.repr_of_str ⟨.str _, H, I.tok _, ⟨_, rfl⟩, q⟩ hz
  | list h1 h2 h3 h4 => exact repr_of_reads' (Reads.list h1 h2 h3 h4) hs (fun _ => na) hgu (by omega) (fun _ _ e => e) (fun h' u tk k => ⟨.str _, H, I.kept k, ⟨_, rfl⟩, q⟩) hz
  | tuple h1 h2 h3 h4 => exact repr_of_reads' (Reads.tuple h1 h2 h3 h4) hs (fun _ => na) hgu (by omega) (fun _ _ e => e) (fun h' u tk k => ⟨.str _, H, I.kept k, ⟨_, rfl⟩, q⟩) hz
  | dict h1 h2 h3 h4 h5 => exact repr_of_reads' (Reads.dict h1 h2 h3 h4 h5) hs (fun _ => na) hgu (by omega) (fun _ _ e => e) (fun h' u tk k => ⟨.str _, H, I.kept k, ⟨_, rfl⟩, q⟩) hz
/-- a list, laid; not the table of modules -/
def tLstB (t : TA) : TE := fun σ H Q => t σ H fun xs H1 => xs.length ≤ sizeLine ∧ ∀ p, H1 p = none → p ≠ sysModules → Q (.ref p) (upd H1 p (.lst xs))
theorem pe_lstB {es : List Expr} {t : TA} {pos : Pos} (h : PA X es t) : PE X (.List es pos) (tLstB t) := by
  constructor
  intro pins s σ H Q I hq
  refine wpAny_List_spliced (thn (h.run pos pins s σ H _ I hq) ?_)
  rintro us s1 ⟨xs, H1, I1, r, z, q⟩
  have hs := Nat.ne_of_gt I1.big
  exact ⟨by rw [← r.length]; exact z, .ref s1.heap.objs.size, _, I1.laid (t' := s1.toks) (fun b u e => Heap.get?_push_of_some _ e) (Nat.le_refl _) (o := .lst xs) ⟨z, us, 0, r, Heap.get?_push_size _ rfl⟩, rfl, q _ (I1.hok.fresh (Nat.le_refl _)) hs⟩
def rCatB : R2 := fun x y H Q => ∃ l b xs zs, x = .ref l ∧ y = .ref b ∧ H l = some (.lst xs) ∧ H b = some (.lst zs) ∧ xs.length + zs.length ≤ sizeLine ∧ ∀ p, H p = none → p ≠ sysModules → Q (.ref p) (upd H p (.lst (xs ++ zs)))
theorem op_catB : OpR X (binaryOp .Add) rCatB := by
  intro pins s σ H x y v u Q I rx ry h
  obtain ⟨l, b, xs, zs, rfl, rfl, hL, hB, hz, q⟩ := h
  cases rx
  cases ry
  obtain ⟨z1, i1, n1, r1, g1, e1⟩ := I.lstM hL
  obtain ⟨z2, i2, n2, r2, g2, e2⟩ := I.lstM hB
  refine PySem.P.add_list e1 e2 ?_ (by simp only [List.size_toArray]; omega)
  rw [show i1.toArray ++ i2.toArray = (i1 ++ i2).toArray by simp]
  exact ⟨.ref _, _, I.lnew (t' := s.toks) (r1.append r2) (by rw [List.length_append]; omega), rfl, q _ I.fresh (Nat.ne_of_gt I.big)⟩
end
end XB
set_option Elab.async false
set_option linter.all false
set_option maxRecDepth 100000
set_option maxHeartbeats 8000000
namespace XB
open PySem PySem.Spec PyProof.Rows L2
/-- the classes with one field that are met, their fields and words -/
def refL : List (Str × Str × Str) := [("Held", "value", "held")]
/-- a refusal as it is raised: its word, and its fields -/
def RefC (K : PySem.W.Frag) (mg : Str → Option Value) (cls : Value) (d : Option Addr) (H : Hp) (word : Str) (ys : List V) : Prop :=
  ∃ (C dx : Addr), ExcC K C ∧ cls = .ref C ∧ d = some dx ∧ ((∃ (x f : Str) (y : V), (x, f, word) ∈ refL ∧ mg x = some (.ref C) ∧ ys = [y] ∧ H dx = some (.xd [(f, y)])))
/-- what is made of what a call tells -/
def TTsaid (K : PySem.W.Frag) (mg : Str → Option Value) : (XK → Hp → VK → Prop) → Hp → VK → Prop := fun tl H Q => ∃ E : XK,
  (∀ H0 (Qx : VK), Same H H0 → (∀ v H1, (∀ H' r, Same H1 H' → H1 r = none → H' r = some (.lst [v]) → Q (.ref r) H') → Qx v H1) → tl E H0 Qx) ∧
  ∀ cls d H1, E cls d H1 → ∃ word ys, RefC K mg cls d H1 word ys ∧ ∀ H' r, Same H1 H' → SqT K H' r (.str word :: ys) → Q (.ref r) H'
theorem exm_two {K : PySem.W.Frag} {cls c1 c2 : Value} {b1 b2 : Bool} (h1 : PySem.W.exmOne K cls c1 = some b1) (h2 : PySem.W.exmOne K cls c2 = some b2) : PySem.W.exmAny K cls [c1, c2] = some (b1 || b2) := by
  unfold PySem.W.exmAny
  unfold PySem.W.exmAny
  unfold PySem.W.exmAny
  rw [h1, h2]
  cases b1 <;> cases b2 <;> rfl
theorem eight {σ : L2.St} (h : σ.length = 8) : ∃ a b c d e f g i, σ = [a, b, c, d, e, f, g, i] := by
  match σ, h with
  | [a, b, c, d, e, f, g, i], _ => exact ⟨a, b, c, d, e, f, g, i, rfl⟩
theorem said_gives {X : Cx} (T : Tx X.K X.mg) {g : Addr} {cdg : Value} {q : Str} : LamX.GivesTo X ["call", "told_so", "error", "e", "found", "some", "word", "is_so"] "_law_said" (defScope s__law_said) g cdg (defBody s__law_said) "call" q (TTsaid X.K X.mg) := by
  obtain ⟨xP, xw, K, mg, xb, xA, xN, xs, xH, xenv, xo, xst, xex, xfn, xcalm, xpn, xxe⟩ := X
  have T : Tx K mg := T
  intro f c' s H Q tl act hc h
  refine id ?_
  · obtain ⟨E, h1, h2⟩ := h
    have nd := sc__law_said.nd
    obtain ⟨cPE, h_PileError⟩ := T.c_PileError
    obtain ⟨c5, h_BadField⟩ := T.c_BadField
    obtain ⟨c6, h_BadScript⟩ := T.c_BadScript
    obtain ⟨c7, h_BadNumber⟩ := T.c_BadNumber
    obtain ⟨c8, h_BadClaims⟩ := T.c_BadClaims
    obtain ⟨c9, h_BadText⟩ := T.c_BadText
    obtain ⟨c10, h_Unlike⟩ := T.c_Unlike
    obtain ⟨c11, h_Held⟩ := T.c_Held
    obtain ⟨c12, h_TooGreat⟩ := T.c_TooGreat
    refine ⟨_, (pss_cons (ps_asg (pe_tup (pa_cons (pe_lst pa_nil) (pa_cons pe_non pa_nil))) (pg_tup rfl (pgs_cons (pg_name (i := 1) nd rfl (.inl rfl)) (pgs_cons (pg_name (i := 2) nd rfl (.inr rfl)) pgs_nil))))
    (pss_cons (ps_keepT (i := 3) (tb := fun W D σ H => ∃ Ech : XK, (∀ cls d σ' H', Ech cls d H' → W cls d σ' H') ∧ σ[0]? = some (some (V.ref f)) ∧ H c' = some (LamX.CodeO c' q) ∧ tl Ech H (fun v H1 => 1 ≤ sizeLine ∧ ∀ p, H1 p = none → D.nx (σ.set 1 (some (.ref p))) (upd H1 p (.lst [v])))) rfl rfl rfl nd rfl rfl ⟨by rfl, by decide, .inl h_PileError⟩ ⟨by rfl, by decide, .inl h_TooGreat⟩ takes0 (fun W pn xe tk _ => by
        refine ⟨fun pins s2 σ2 H2 D2 I2 hh => ?_⟩
        obtain ⟨Ech, hW, k1, k2, k3⟩ := hh
        exact PSs.run (pss_one (ps_set (i := 1) nd rfl (.inl rfl) (pe_lst (pa_cons (act W pn xe Ech _ _ tk hW) pa_nil)))) pins s2 σ2 H2 D2 I2 ⟨k1, k2, k3⟩)
    (fun a oe cls d pn hz hf => by exact (pss_one (ps_set (i := 2) nd rfl (.inr rfl) (pv 3)))))
    (pss_cons (ps_if (pt_cmpR op_isN (pv 2) pe_non (nomark _)) (pss_one (ps_ret (pv 1))) pss_nil)
    (pss_cons (ps_set (i := 4) nd rfl (.inl rfl) (pe_ifExp (pt_val (pe_callB (call_isX (K := K) rfl) (by rfl) T.b_isinstance (by decide +kernel) (pa_cons (pv 2) (pa_cons (pe_glob (v := .ref _) (by rfl) h_BadScript rfl) pa_nil)))) (pe_lst (pa_cons (pe_tup (pa_cons pe_str (pa_cons (pe_xo (K := K) rfl (pv 2)) pa_nil))) pa_nil)) (pe_lst pa_nil)))
    (pss_cons (ps_set (i := 4) nd rfl (.inl rfl) (pe_op op_cat (pv 4) (pe_ifExp (pt_val (pe_callB (call_isX (K := K) rfl) (by rfl) T.b_isinstance (by decide +kernel) (pa_cons (pv 2) (pa_cons (pe_glob (v := .ref _) (by rfl) h_BadClaims rfl) pa_nil)))) (pe_lst (pa_cons (pe_tup (pa_cons pe_str (pa_cons (pe_xo (K := K) rfl (pv 2)) pa_nil))) pa_nil)) (pe_lst pa_nil))))
    (pss_cons (ps_set (i := 4) nd rfl (.inl rfl) (pe_op op_cat (pv 4) (pe_ifExp (pt_val (pe_callB (call_isX (K := K) rfl) (by rfl) T.b_isinstance (by decide +kernel) (pa_cons (pv 2) (pa_cons (pe_glob (v := .ref _) (by rfl) h_BadField rfl) pa_nil)))) (pe_lst (pa_cons (pe_tup (pa_cons pe_str (pa_cons (pe_xo (K := K) rfl (pv 2)) pa_nil))) pa_nil)) (pe_lst pa_nil))))
    (pss_cons (ps_set (i := 4) nd rfl (.inl rfl) (pe_op op_cat (pv 4) (pe_ifExp (pt_val (pe_callB (call_isX (K := K) rfl) (by rfl) T.b_isinstance (by decide +kernel) (pa_cons (pv 2) (pa_cons (pe_glob (v := .ref _) (by rfl) h_BadText rfl) pa_nil)))) (pe_lst (pa_cons (pe_tup (pa_cons pe_str (pa_cons (pe_xo (K := K) rfl (pv 2)) (pa_cons (pe_xo (K := K) rfl (pv 2)) pa_nil)))) pa_nil)) (pe_lst pa_nil))))
    (pss_cons (ps_set (i := 5) nd rfl (.inl rfl) (pe_lst (pa_cons (pe_tup (pa_cons pe_str (pa_cons (pe_callB (call_isX (K := K) rfl) (by rfl) T.b_isinstance (by decide +kernel) (pa_cons (pv 2) (pa_cons (pe_glob (v := .ref _) (by rfl) h_BadNumber rfl) pa_nil))) pa_nil))) (pa_cons (pe_tup (pa_cons pe_str (pa_cons (pe_callB (call_isX (K := K) rfl) (by rfl) T.b_isinstance (by decide +kernel) (pa_cons (pv 2) (pa_cons (pe_glob (v := .ref _) (by rfl) h_Unlike rfl) pa_nil))) pa_nil))) pa_nil))))
    (pss_cons (ps_expr (pe_bm PySem.F.plainAttrs_list PySem.F.slot_list_append PySem.F.type_list_append mt_append (pv 5) (pa_cons (pe_tup (pa_cons pe_str (pa_cons (pe_callB (call_isX (K := K) rfl) (by rfl) T.b_isinstance (by decide +kernel) (pa_cons (pv 2) (pa_cons (pe_glob (v := .ref _) (by rfl) h_Held rfl) pa_nil))) pa_nil))) pa_nil)))
    (pss_cons (ps_set (i := 4) nd rfl (.inl rfl) (pe_op op_cat (pv 4) (pe_lc (own := [("word", 6), ("is_so", 7)]) (g := (gTup K 2 (gCons (gName 6) (gCons (gName 7) gNil)))) (tt := _) (by rfl) nd (pi_list (pv 5)) (blkOk_by (own := [("word", 6), ("is_so", 7)]) (N := ["call", "told_so", "error", "e", "found", "some", "word", "is_so"]) (sc := defScope s__law_said) (by decide +kernel)) (fun _ _ _ _ _ => (pg_tup rfl (pgs_cons (pg_name (i := 6) nd rfl (by first | exact Or.inl rfl | exact Or.inr rfl)) (pgs_cons (pg_name (i := 7) nd rfl (by first | exact Or.inl rfl | exact Or.inr rfl)) pgs_nil)))) (fun _ _ _ _ _ => pts_one (pt_val (pv 7))) (fun _ _ _ _ _ => (pe_tup (pa_cons (pv 6) (pa_cons (pe_xo (K := K) rfl (pv 2)) pa_nil)))))))
    (pss_cons (ps_set (i := 4) nd rfl (.inl rfl) (pe_op op_cat (pv 4) (pe_ifExp (pt_val (pe_callB (call_isX (K := K) rfl) (by rfl) T.b_isinstance (by decide +kernel) (pa_cons (pv 2) (pa_cons (pe_glob (v := .ref _) (by rfl) h_TooGreat rfl) pa_nil)))) (pe_lst (pa_cons (pe_tup (pa_cons pe_str (pa_cons (pe_xo (K := K) rfl (pv 2)) pa_nil))) pa_nil)) (pe_lst pa_nil))))
    (pss_one (ps_ret (pe_ifExp (pt_cmpR op_eq (pe_lenS (by rfl) T.b_len (pv 4)) pe_int (nomark _)) (pe_ix (ixk_list (K := K) rfl) (pv 4) pe_int (fun _ _ => rfl)) (pe_tup (pa_cons pe_str pa_nil)))))))))))))))), ?_⟩
    --@
    refine ⟨Nat.zero_le _, fun L nL => upd_gen nL fun H1 s1 e1 => ⟨two_sz, fun tp np => upd_gen np fun H1b s1b e1b => ⟨tp, _, rfl, SqT.of e1b, rfl, _, _, rfl, _, _, rfl, rfl, ?_⟩⟩⟩
    have s01 := s1.trans s1b
    refine ⟨E, fun cls d σ' H2 hE hlen => ?_, rfl, s01 _ _ hc, ?_⟩
    · obtain ⟨word, ys, ⟨C, dx, hT, rfl, rfl, hcase⟩, hq⟩ := h2 cls d H2 hE
      obtain ⟨x0, x1, x2, x3, x4, x5, x6, x7, rfl⟩ := eight hlen
      obtain ⟨x, f, y, hm, hC, rfl, ed⟩ := hcase
      have dummy : True := True.intro
      refine id ?_
      · unfold refL at hm
        simp only [List.mem_cons, List.not_mem_nil, or_false, Prod.mk.injEq] at hm
        obtain ⟨rfl, rfl, rfl⟩ := hm
        refine id ?_
        · have hx1 := T.x_Held_PileError C cPE hC h_PileError
          have hx2 := T.x_Held_TooGreat C c12 hC h_TooGreat
          refine ⟨true, (exm_two hx1 hx2).trans rfl, fun _ a na => ?_, fun z => (nomatch z)⟩
          refine ⟨_, rfl, ?_⟩
          have sx : Same H2 (upd H2 a (exg a (.ref C) (some dx))) := same_upd na
          have hEx : Ex1 K mg "Held" (upd H2 a (exg a (.ref C) (some dx))) a [("value", y)] := ⟨C, hC, hT, dx, .inr upd_same, .inr (by
            rw [upd_ne (ne_of_none ed na)]
            exact ed)⟩
          refine ⟨_, rfl, rfl, _, rfl, iteF ?_⟩
          have E0 := hEx
          have S0 := sx
          refine ⟨_, rfl, is_at E0 T.i_Held_BadScript h_BadScript ⟨_, rfl, iteF ⟨Nat.zero_le _, fun p1 n1 => upd_gen n1 fun J1 j1 f1 => ?_⟩⟩⟩
          have E1 := E0.same j1
          have S1 := S0.trans j1
          refine ⟨_, rfl, _, rfl, is_at E1 T.i_Held_BadClaims h_BadClaims ⟨_, rfl, iteF ⟨Nat.zero_le _, fun q1 m1 => upd_gen m1 fun B1 b1 g1 => catL (b1 _ _ f1) g1 (Nat.le_of_lt (small1000 (by simp))) fun J2 p2 j2 n2 f2 => ?_⟩⟩⟩
          have E2 := (E1.same b1).same j2
          have S2 := S1.trans (b1.trans j2)
          refine ⟨_, rfl, _, rfl, is_at E2 T.i_Held_BadField h_BadField ⟨_, rfl, iteF ⟨Nat.zero_le _, fun q2 m2 => upd_gen m2 fun B2 b2 g2 => catL (b2 _ _ f2) g2 (Nat.le_of_lt (small1000 (by simp))) fun J3 p3 j3 n3 f3 => ?_⟩⟩⟩
          have E3 := (E2.same b2).same j3
          have S3 := S2.trans (b2.trans j3)
          refine ⟨_, rfl, _, rfl, is_at E3 T.i_Held_BadText h_BadText ⟨_, rfl, iteF ⟨Nat.zero_le _, fun q3 m3 => upd_gen m3 fun B3 b3 g3 => catL (b3 _ _ f3) g3 (Nat.le_of_lt (small1000 (by simp))) fun J4 p4 j4 n4 f4 => ?_⟩⟩⟩
          have E4 := (E3.same b3).same j4
          have S4 := S3.trans (b3.trans j4)
          refine ⟨_, rfl, is_at E4 T.i_Held_BadNumber h_BadNumber ⟨two_sz, fun t1 r1 => upd_gen r1 fun A1 a1 u1 => ⟨_, rfl, is_at (E4.same a1) T.i_Held_Unlike h_Unlike ⟨two_sz, fun t2 r2 => upd_gen r2 fun A2 a2 u2 => ⟨two_sz, fun L0 rL => upd_gen rL fun A3 a3 u3 => ?_⟩⟩⟩⟩⟩
          have a13 := a1.trans (a2.trans a3)
          refine ⟨_, rfl, .inl ⟨rfl, _, SqL.of u3⟩, _, rfl, is_at (E4.same a13) T.i_Held_Held h_Held ⟨two_sz, fun t3 r3 => upd_gen r3 fun A4 a4 u4 => ⟨L0, _, _, rfl, rfl, a4 _ _ u3, (small1000 (by simp)), ?_⟩⟩⟩
          have nL1 := fresh_of a2 rL
          have nL0 := fresh_of a1 nL1
          have v5 : Same J4 (upd A4 L0 (.lst ([.ref t1, .ref t2] ++ [.ref t3]))) := same_put (a13.trans a4) nL0
          have w1 : upd A4 L0 (.lst ([.ref t1, .ref t2] ++ [.ref t3])) t1 = some (.tup [.str "number", .bl false]) := same_put (a2.trans (a3.trans a4)) nL1 _ _ u1
          have w2 : upd A4 L0 (.lst ([.ref t1, .ref t2] ++ [.ref t3])) t2 = some (.tup [.str "unlike", .bl false]) := same_put (a3.trans a4) rL _ _ u2
          have w3 : upd A4 L0 (.lst ([.ref t1, .ref t2] ++ [.ref t3])) t3 = some (.tup [.str "held", .bl true]) := by
            rw [upd_ne (ne_of_none u3 r3).symm]
            exact u4
          have w0 : upd A4 L0 (.lst ([.ref t1, .ref t2] ++ [.ref t3])) L0 = some (.lst [.ref t1, .ref t2, .ref t3]) := upd_same
          have E5 := E4.same v5
          have f5 := v5 _ _ f4
          have S5 := S4.trans v5
          refine ⟨_, rfl, _, rfl, L0, rfl, ⟨_, SqL.of w0⟩, fun D nD => ?_⟩
          generalize upd A4 L0 (.lst ([.ref t1, .ref t2] ++ [.ref t3])) = A5 at w0 w1 w2 w3 E5 f5 S5 nD ⊢
          refine lc_it (walk_list (xs := [.ref t1, .ref t2, .ref t3])) (fun i H' => (i ≤ 2 → H' D = some (.lst [])) ∧ (2 < i → ∃ t, H' D = some (.lst [.ref t]) ∧ H' t = some (.tup [.str "held", y])) ∧ Same A5 H') ⟨fun _ => upd_same, fun h => absurd h (by decide), same_upd nD⟩ (fun _ _ _ ⟨_, _, s'⟩ => SqL.of (s' _ _ w0)) (fun i v H8 H9 hi ⟨eD0, eD1, s'⟩ hy => ?_) (fun H8 ⟨_, eD1, s'⟩ => ?_)
          · obtain ⟨rfl, hv⟩ := hy
            have hi : i < 3 := hi
            rcases (show i = 0 ∨ i = 1 ∨ i = 2 by omega) with h | h | h <;> subst h <;> cases hv
            · exact ⟨_, _, rfl, SqT.of (s' _ _ w1), rfl, _, _, rfl, _, _, rfl, rfl, rfl, _, rfl, _, rfl, iteF ⟨fun h => eD0 (by omega), fun h => eD1 (by omega), s'⟩⟩
            · exact ⟨_, _, rfl, SqT.of (s' _ _ w2), rfl, _, _, rfl, _, _, rfl, rfl, rfl, _, rfl, _, rfl, iteF ⟨fun h => eD0 (by omega), fun h => eD1 (by omega), s'⟩⟩
            · refine ⟨_, _, rfl, SqT.of (s' _ _ w3), rfl, _, _, rfl, _, _, rfl, rfl, rfl, _, rfl, _, rfl, iteT ⟨_, rfl, _, rfl, xo_at (E5.same s') T.n_Held_value rfl ⟨two_sz, fun tt nt => upd_gen nt fun Ha sa ea => ⟨[], sa _ _ (eD0 (Nat.le_refl _)), by decide, fun h => absurd h (by decide), fun _ => ⟨tt, upd_same, ?_⟩, same_put (s'.trans sa) nD⟩⟩⟩⟩
              rw [upd_ne (ne_of_none (eD0 (Nat.le_refl _)) nt).symm]
              exact ea
          obtain ⟨t, eD, ft⟩ := eD1 (show _ < 3 by decide)
          refine catL (s' _ _ f5) eD (Nat.le_of_lt (small1000 (by simp))) fun J7 p7 j7 n7 f7 => ?_
          have E7 := (E5.same s').same j7
          have S7 := S5.trans (s'.trans j7)
          have ft := j7 _ _ ft
          refine ⟨_, rfl, _, rfl, is_at E7 T.i_Held_TooGreat h_TooGreat ⟨_, rfl, iteF ⟨Nat.zero_le _, fun q7 m7 => upd_gen m7 fun B7 b7 g7 => catL (b7 _ _ f7) g7 (Nat.le_of_lt (small1000 (by simp))) fun J8 p8 j8 n8 f8 => ?_⟩⟩⟩
          have S8 := S7.trans (b7.trans j8)
          have ft := j8 _ _ (b7 _ _ ft)
          have f8 : J8 p8 = some (.lst [.ref t]) := f8
          refine ⟨_, rfl, p8, _, rfl, .inl (SqL.of f8), rfl, _, rfl, ite2 (fun _ => ?_) (fun h => absurd (decide_eq_true (show V.int (([V.ref t].length : Nat) : Int) = V.int 1 from rfl)) h)⟩
          exact ⟨_, rfl, ix0L f8 (hq J8 t S8 (SqT.of ft))⟩
    · refine h1 H1b _ s01 fun v H2 hv => ⟨one_sz, fun p np => ?_⟩
      refine upd_gen np fun H3 s3 e3 => ?_
      exact ⟨_, rfl, rfl, _, rfl, iteT ⟨_, rfl, hv H3 p s3 np e3⟩⟩
end XB
set_option Elab.async false
set_option linter.all false
set_option maxRecDepth 100000
set_option maxHeartbeats 4000000
/-! a lambda whose one parameter has a default: handed to a def that calls it without arguments -/
namespace XB
open PySem PySem.Spec PyProof.Rows L2 LamX
section
variable {X : Cx} {pins : List (Addr × Obj)} {σ : L2.St} {H : Hp} {s : Shared} {T : List (Addr × Str)} {c P t : Addr} {params : Arguments} {body : Expr} {scope : Scope} {pos : Pos} {u : Value}
/-- the function object of such a lambda, its defaults at t -/
abbrev objD (X : Cx) (params : Arguments) (body : Expr) (scope : Scope) (t : Addr) (doc pm : Value) (c' : Addr) (ctv : Value) : Obj := PySem.W.kdv_obj "<lambda>" (X.env.qual ++ "<lambda>") params (.expr body) scope (cloFrom X.env.cells scope.names []) (.ref t) doc pm c' ctv
/-- what stands when it is made -/
structure MadeD (X : Cx) (pins : List (Addr × Obj)) (σ : L2.St) (T : List (Addr × Str)) (H : Hp) (params : Arguments) (body : Expr) (scope : Scope) (u : Value) (t f c' : Addr) (doc pm ctv : Value) (H1 : Hp) (s' : Shared) : Prop where
  inv : Inv X pins σ H1 s'
  ext : ExtN H H1
  tabs : Tabs T H1
  fn : s'.heap.get? f = some (objD X params body scope t doc pm c' ctv)
  fnN : H1 f = none
  fnF : f ∉ frs X.stack
  tup : s'.heap.get? t = some (PySem.W.kdv_tup [u])
  tupN : H1 t = none
  tupF : t ∉ frs X.stack
  code : H1 c' = some (CodeO c' (X.env.qual ++ "<lambda>"))
theorem no_fr (I : Inv X pins σ H s) {f : Addr} (hf : s.heap.objs.size ≤ f) : f ∉ frs X.stack := fun z => by
  rcases List.mem_cons.mp (I.stkSub _ z) with e | e
  · have h1 := I.lt
    rw [← e] at h1
    exact Nat.lt_irrefl _ (Nat.lt_of_lt_of_le h1 hf)
  · exact I.nofs hf e
theorem lamD_tail {E : Value → Shared → Prop} {Q : Value → Shared → Prop} (I : Inv X pins σ H s) (TB : TabB X.base X.mg c P) (hcode : X.env.code = .ref c) (hm : (P, X.env.qual ++ "<lambda>") ∈ T) (hu : ∀ p ∈ T, p.1 = P → p.2 = X.env.qual ++ "<lambda>") (hT : Tabs T H)
    (hfree : ∀ y ∈ scope.names, y.2 = .free → ∃ c, X.env.cells.lookup y.1 = some c) (ht : s.heap.get? t = some (PySem.W.kdv_tup [u])) (htn : H t = none) (htf : t ∉ frs X.stack)
    (h : ∀ (f c' : Addr) (doc pm ctv : Value) (H1 : Hp) (s' : Shared), MadeD X pins σ T H params body scope u t f c' doc pm ctv H1 s' → Q (.ref f) s') :
    wpAny (model X.prog X.w) X.A (makeTail "<lambda>" (X.env.qual ++ "<lambda>") params (.expr body) scope X.env (.ref t) .none none pos pos.line) Q E s := by
  obtain ⟨ps, hP, hk, ha⟩ := hT _ hm
  have bP : s.heap.BuiltinsAt X.mg P := TB.bm.keeps I.bk
  have hP' : s.heap.get? P = some { cls := .none, data := .fields ps } := I.hok P _ hP
  have tP : t ≠ P := fun z => by
    rw [z, hP] at htn
    cases htn
  cases hc : codeAmong pos ps.toList with
  | some cv =>
    obtain ⟨c', rfl, hco⟩ := ha pos cv hc
    refine PySem.W.kdv_makeTailHit (mg := X.mg) (c := c) (P := P) (ps := ps) (closure_ok hfree) I.ok.glob (I.mod.glob.keeps I.bk) hcode (TB.code.keeps I.bk) hP' hk hc bP fun ctv doc h' tk hx hsz => ?_
    exact h h'.objs.size c' doc _ ctv H _ ⟨I.kept fun b o e => Heap.get?_push_of_some _ (hx b o e), ExtN.refl H, hT, Heap.get?_push_size _ rfl, I.hok.fresh hsz, no_fr I hsz, Heap.get?_push_of_some _ (hx _ _ ht), htn, htf, hco⟩
  | none =>
    refine PySem.W.kdv_makeTail (mg := X.mg) (c := c) (P := P) (ps := ps) (closure_ok hfree) I.ok.glob (I.mod.glob.keeps I.bk) hcode (TB.code.keeps I.bk) hP' hk hc TB.gP bP fun c' ctv doc h' tk hx hge hlt hrec htb => ?_
    obtain ⟨c2, oc, vs, q, e2, hoc, hd, hv⟩ := hrec
    cases e2
    have hsz : s.heap.objs.size ≤ h'.objs.size := Nat.le_trans hge (Nat.le_of_lt hlt)
    have nC : H c' = none := I.hok.fresh hge
    have tc : t ≠ c' := Nat.ne_of_lt (Nat.lt_of_lt_of_le (Heap.lt_size ht) hge)
    have hE : ExtN H (upd (upd H P (.tbl (ps ++ #[rawInt pos.line, rawInt pos.col, .ref c']))) c' (CodeO c' (X.env.qual ++ "<lambda>"))) := fun b o e n => by
      rw [upd_ne (ne_of_none e nC), upd_ne (fun z => n ps (Option.some.inj (e.symm.trans (by rw [z]; exact hP))))]
      exact e
    refine h h'.objs.size c' doc _ ctv _ _ ⟨inv_table (more := #[rawInt pos.line, rawInt pos.col, .ref c']) I hP (fun b o hb e => Heap.get?_push_of_some _ (hx b o hb e)) (Heap.get?_push_of_some _ htb) hge ⟨oc, vs, q, Heap.get?_push_of_some _ hoc, hd, hv⟩, hE, fun p hp => ?_, Heap.get?_push_size _ rfl, ?_, no_fr I hsz, Heap.get?_push_of_some _ (hx _ _ tP ht), ?_, htf, upd_same⟩
    · have old : ∀ {p' : Pos} {cv : Value} {ps' : Array Value}, (∀ (pos : Pos) (cv : Value), codeAmong pos ps'.toList = some cv → ∃ c, cv = .ref c ∧ H c = some (CodeO c p.2)) → codeAmong p' ps'.toList = some cv → ∃ c0, cv = .ref c0 ∧ _ := fun a3 hcv => by
        obtain ⟨c0, e1, e2⟩ := a3 _ _ hcv
        exact ⟨c0, e1, hE _ _ e2 codeO_ne⟩
      by_cases hb : p.1 = P
      · have e2 := hu p hp hb
        have eL : (ps ++ #[rawInt pos.line, rawInt pos.col, .ref c']).toList = ps.toList ++ [rawInt pos.line, rawInt pos.col, .ref c'] := by simp
        refine ⟨_, by rw [hb, upd_ne (ne_of_none hP nC), upd_same], by rw [eL]; exact PySem.TriplesOk_snoc _ _ _ _ hk, fun p' cv hcv => ?_⟩
        rw [eL] at hcv
        rcases among_app _ hk hcv with z | z
        · exact old (ps' := ps) (by rw [e2]; exact ha) z
        · exact ⟨c', z, by rw [e2]; exact upd_same⟩
      · obtain ⟨ps', a1, a2, a3⟩ := hT p hp
        exact ⟨ps', by rw [upd_ne (ne_of_none a1 nC), upd_ne hb]; exact a1, a2, fun p' cv hcv => old a3 hcv⟩
    · rw [upd_ne (Nat.ne_of_gt hlt), upd_ne (Nat.ne_of_gt (Nat.lt_of_lt_of_le (Heap.lt_size hP') hsz))]
      exact I.hok.fresh hsz
    · rw [upd_ne tc, upd_ne tP]
      exact htn
theorem lamD_make {E : Value → Shared → Prop} {Q : Value → Shared → Prop} (I : Inv X pins σ H s) (TB : TabB X.base X.mg c P) (hcode : X.env.code = .ref c) (hm : (P, X.env.qual ++ "<lambda>") ∈ T) (hu : ∀ p ∈ T, p.1 = P → p.2 = X.env.qual ++ "<lambda>") (hT : Tabs T H)
    (hfree : ∀ y ∈ scope.names, y.2 = .free → ∃ c, X.env.cells.lookup y.1 = some c) (hd0 : params.defaults.isEmpty = false) (hk0 : params.kw_defaults = [])
    (hev : ∀ (M : Model) (A : Around) (s : Shared) (E : Value → Shared → Prop) (Q : List Value → Shared → Prop), (∀ u tk, Q [u] { s with toks := tk }) → wpAny M A (evalAll (evalEach params.defaults X.env)) Q E s)
    (h : ∀ (u : Value) (t f c' : Addr) (doc pm ctv : Value) (H1 : Hp) (s' : Shared), MadeD X pins σ T H params body scope u t f c' doc pm ctv H1 s' → Q (.ref f) s') :
    wpAny (model X.prog X.w) X.A (eval (.Lambda params body scope pos) X.env) Q E s := by
  refine PySem.W.kdv_lam hd0 hk0 (hev _ _ _ _ _ fun u tk => ?_)
  replace I := I.tok tk
  rw [makeFunction_eq]
  simp only [List.zip_nil_right, List.filterMap_nil, List.isEmpty_nil, if_true, pure_bind, List.isEmpty_cons, Bool.false_eq_true, if_false]
  refine wpAny_bind (wpAny_newTextTuple ?_)
  exact lamD_tail (I.kept fun b o e => Heap.get?_push_of_some _ e) TB hcode hm hu hT hfree (Heap.get?_push_size _ rfl) (I.hok.fresh (Nat.le_refl _)) (no_fr I (Nat.le_refl _)) fun f c' doc pm ctv H1 s' M => h u _ f c' doc pm ctv H1 s' M
end
/-- captured names, globals, and parameters that the body does not read -/
structure LamD (N : List Str) (sc scope : Scope) (ps : List Str) : Prop where
  kind : scope.kind = .function
  co : scope.isCoroutine = false
  gen : scope.isGenerator = false
  cell : ∀ y ∈ scope.names, y.2 ≠ .cell
  own : ∀ y ∈ scope.names, y.2 = .local → y.1 ∉ N
  par : ∀ y ∈ ps, scope.names.lookup y = some .local
  free : ∀ y ∈ scope.names, y.2 = .free → sc.names.lookup y.1 = some .cell ∨ sc.names.lookup y.1 = some .free
def lamDB (N : List Str) (sc scope : Scope) (ps : List Str) : Bool :=
  decide (scope.kind = .function) && !scope.isCoroutine && !scope.isGenerator && scope.names.all (fun y => !decide (y.2 = .cell) && (!decide (y.2 = .local) || !N.contains y.1) && (!decide (y.2 = .free) || decide (sc.names.lookup y.1 = some .cell) || decide (sc.names.lookup y.1 = some .free))) && ps.all fun y => decide (scope.names.lookup y = some .local)
theorem lamD_by {N ps : List Str} {sc scope : Scope} (h : lamDB N sc scope ps = true) : LamD N sc scope ps := by
  unfold lamDB at h
  simp only [Bool.and_eq_true, Bool.or_eq_true, Bool.not_eq_true', decide_eq_true_eq, decide_eq_false_iff_not, List.all_eq_true, List.contains_eq_mem] at h
  obtain ⟨⟨⟨⟨h1, h2⟩, h3⟩, h4⟩, h5⟩ := h
  refine ⟨h1, h2, h3, fun y hy => (h4 y hy).1.1, fun y hy e => ?_, h5, fun y hy e => ?_⟩
  · rcases (h4 y hy).1.2 with z | z
    · exact absurd e z
    · exact z
  · rcases (h4 y hy).2 with (z | z) | z
    · exact absurd e z
    · exact .inl z
    · exact .inr z
section
variable {X : Cx} {pins : List (Addr × Obj)} {σ : L2.St} {H HZ : Hp} {s s1 : Shared} {ps : List Str}
theorem LamD.has {scope : Scope} (L : LamD X.N X.env.scope scope ps) (ok : X.Ok) : ∀ y ∈ scope.names, y.2 = .free → ∃ c, X.env.cells.lookup y.1 = some c := fun y hy e => (L.free y hy e).elim (fun k => ok.has _ (.inl k)) fun k => ok.has _ (.inr k)
theorem lamD_start {A : Around} {outer : List Env} {E : XK} {scope : Scope} {f c' : Addr} {h₁ : Heap} {tk : Nat} {m : Str → Option Value} (I : Inv X pins σ H s) (L : LamD X.N X.env.scope scope ps) (e0 : Env0 X.prog X.w X.K X.mg X.base A outer s1 HZ) (hd : A.handled = none)
    (un : Un (frs X.stack) [] H HZ s.heap s1.heap) (hns : h₁.Ns s1.heap.objs.size m) (kp : ∀ b o, s1.heap.get? b = some o → h₁.get? b = some o) :
    Inv (lamCx X A outer s1 HZ E scope f c') [] σ HZ { s1 with heap := h₁, toks := tk } := by
  have hfree := L.has I.ok
  have cm : ∀ {y c}, (cloFrom X.env.cells scope.names []).lookup y = some c → X.env.cells.lookup y = some c := fun {y c} e => by
    rcases cloFrom_mem (PySem.mem_of_lookup e) with hm | ⟨h1, h2⟩
    · cases hm
    · obtain ⟨c1, hc⟩ := hfree _ h1 rfl
      have hc : X.env.cells.lookup y = some c1 := hc
      rw [hc, Option.getD_some] at h2
      rw [h2]
      exact hc
  have look : ∀ {y}, scope.names.lookup y = some .free → ∃ c, (cloFrom X.env.cells scope.names []).lookup y = some c := fun {y} hl => mem_lookup (cloFrom_has (cells := X.env.cells) (acc := []) (show (y, NameKind.free) ∈ scope.names from PySem.mem_of_lookup hl))
  have cellK : ∀ {c : Addr} {v : Option Value}, H c = none → s.heap.IsCell c v → h₁.IsCell c v := fun {c v} n ⟨o, ho, hd⟩ => by
    obtain ⟨sl, q⟩ := un.any ho n (by simp)
    exact ⟨_, kp _ _ q, hd⟩
  have noA : ∀ b : Addr, b ∉ (lamCx X A outer s1 HZ E scope f c').ex := fun b z => absurd (show b ∈ ([] : List Addr) from z) (by simp)
  refine ⟨⟨e0.mod, L.kind, rfl, rfl, Nat.le_refl _, fun y z c e1 e2 => I.ok.inj y z c (cm e1) (cm e2), fun y hy => ?_, fun y c z _ => (nomatch (show false = true from z)), fun _ => hd, Around.frames_deeper e0.frames, .inr ⟨rfl, rfl⟩, fun b z => absurd z (noA b), e0.bs, e0.bsz, fun b _ _ => noA b,
      fun b z => absurd z (noA b), e0.funs, e0.frf⟩,
    rfl, e0.bare, Un.kept kp, ⟨_, hns, fun i y v e1 e2 e3 => ?_⟩, fun y c e => ?_, e0.hok.fresh (Nat.le_refl _), fun y c e => ?_, fun q hq => absurd (show q ∈ ([] : List (Addr × Obj)) ++ [] from hq) (by simp), e0.hok.kept kp, I.len⟩
  · rcases (show scope.names.lookup y = some .cell ∨ scope.names.lookup y = some .free from hy) with hy | hy
    · exact absurd rfl (L.cell _ (PySem.mem_of_lookup hy))
    · exact look hy
  · rcases (show Vis scope y from e3) with k | k | k
    · exact absurd (List.mem_of_getElem? (show X.N[i]? = some y from e1)) (L.own _ (PySem.mem_of_lookup k) rfl)
    · exact absurd rfl (L.cell _ (PySem.mem_of_lookup k))
    · obtain ⟨m, hn, hl⟩ := I.loc
      have kf := L.free _ (PySem.mem_of_lookup k) rfl
      obtain ⟨w', r, q⟩ := hl i y v e1 e2 (kf.elim (fun k => .inr (.inl k)) fun k => .inr (.inr k))
      obtain ⟨c2, h2⟩ := look k
      refine ⟨w', r, .inr ⟨.inr k, c2, h2, ?_⟩⟩
      have c1 := cm h2
      rcases q with ⟨k', _⟩ | ⟨_, c3, e', z⟩
      · have k' : X.env.scope.names.lookup y = some .local := k'
        rcases kf with k2 | k2 <;> rw [show X.env.scope.names.lookup y = _ from k2] at k' <;> cases k'
      · rw [c1] at e'
        cases e'
        exact cellK (I.freeC y _ c1) z
  · obtain ⟨w', z⟩ := I.cell y c (cm e)
    exact ⟨w', cellK (I.freeC y c (cm e)) z⟩
  · obtain ⟨v, o, ho, hd⟩ := I.cell y c (cm e)
    exact un.free c o ho (I.freeC y c (cm e)) (by simp)
/-- x(), in the def that got such a lambda -/
theorem pe_actD {CXg : CXT} {Eg : XK} {Ng : List Str} {qg : Str} {sg : Scope} {g t f c' : Addr} {cdg doc pm ctv u : Value} {params : Arguments} {body : Expr} {scope : Scope} {k i : Nat} {a y : Str} {pn : List (Addr × Obj)} {xe : Value → Shared → Prop} {W : WX} {E : XK} {tb : TE} {p1 p2 : Pos} {TT : List (Addr × Str)} {H0 : Hp}
    (M : MadeD X pins σ TT H0 params body scope u t f c' doc pm ctv H s) (L : LamD X.N X.env.scope scope [y])
    (hbind : ∀ s : Shared, s.heap.get? t = some (PySem.W.kdv_tup [u]) → BindsTo s (PySem.W.kdv_fn "<lambda>" (X.env.qual ++ "<lambda>") params (.expr body) scope (cloFrom X.env.cells scope.names []) (.ref t) doc pm (.ref c') ctv) ⟨[], []⟩ [(y, u)])
    (tk : Takes ((cxOf CXg X.prog X.w X.K X.mg X.base Ng qg sg g cdg X.A X.stack s H Eg).tr pn xe) W) (hW : ∀ cls d σ' H', E cls d H' → W cls d σ' H') (hr : Room (k + 1) (X.A.deeper (envOfC qg sg s.heap.objs.size g cdg)))
    (hbody : ∀ (A : Around) (outer : List Env) (s : Shared) (H : Hp), Room k (A.deeper (lamEnv X scope s.heap.objs.size f c')) → PE (lamCx X A outer s H E scope f c') body tb)
    (hN : Ng[i]? = some a) (hv : Vis sg a) (hd : (a == ("__debug__" : Str)) = false := by decide) (hcd : (a == ("__classdict__" : Str)) = false := by decide) :
    PE ((cxOf CXg X.prog X.w X.K X.mg X.base Ng qg sg g cdg X.A X.stack s H Eg).tr pn xe) (.Call (.Name a p1) [] [] p2)
      (fun σZ HZ Q => σZ[i]? = some (some (.ref f)) ∧ HZ c' = some (CodeO c' (X.env.qual ++ "<lambda>")) ∧ tb σ HZ Q) := by
  refine ⟨fun pinsZ sZ σZ HZ Q IZ ⟨hs, hc, ht⟩ => ?_⟩
  refine wpAny_Call_Name_kw (thn ((pe_var (pos := p1) (i := i) hN hv hd hcd).run pinsZ sZ σZ HZ (fun v H1 => v = .ref f ∧ H1 = HZ) IZ ⟨.ref f, hs, rfl, rfl⟩) fun u1 s1 ⟨v, H1, I1, r1, ev, eH⟩ => ?_)
  subst ev
  rw [eH] at I1
  obtain rfl : u1 = Value.ref f := r1
  have no : ∀ b : Addr, b ∉ ([] : List Addr) := fun b z => nomatch z
  have of1 := I1.base.keep f _ M.fn M.fnN M.fnF (no f)
  have ot1 := I1.base.keep t _ M.tup M.tupN M.tupF (no t)
  refine PySem.W.callWith_F0 ⟨_, _, _, _, of1⟩ ?_
  have un : Un (frs X.stack) [] H HZ s.heap s1.heap := I1.base
  obtain ⟨⟨oc, vs, q, hoc, hdc, hvc⟩, _, _⟩ := I1.hok c' _ hc
  have rc : codeAny (model X.prog X.w) (X.A.deeper (envOfC qg sg s.heap.objs.size g cdg)) (.call (.ref f) ⟨[], []⟩) (CR (L2.CX X.prog X.w) (envOfC qg sg s.heap.objs.size g cdg :: X.stack) X.prog X.w HZ s1 Q E) s1 := by
    refine PySem.W.kla_callFunE hr.depth of1 rfl L.co L.gen rfl ⟨c', oc, vs, q, rfl, hoc, hdc, hvc⟩ (hbind s1 ot1 _ _ _ _ ?_)
    refine wpAny_newFunctionEnv L.cell (fun z hz => by rw [List.mem_singleton.mp hz]; exact L.par y List.mem_cons_self) (fun h₁ hns hsb => ⟨I1.nolimit.fresh _ hsb, ?_⟩) L.kind
    show codeAny _ _ (.expr body (lamEnv X scope s1.heap.objs.size f c')) _ _
    have kp : ∀ b o, s1.heap.get? b = some o → h₁.get? b = some o := fun b o e => hsb.extBut b o (Nat.ne_of_lt (Heap.lt_size e)) (Heap.get?_push_of_some _ e)
    have J := lamD_start (E := E) (f := f) (c' := c') (tk := s1.toks + [(y, u)].length) M.inv L I1.env0 hr.hd un hns kp
    refine PySem.W.kla_codeExpr (wpAny_mono ((hbody _ _ s1 HZ (hr.deeper _)).run [] _ _ HZ Q J ht) (fun v s' hq => ?_) fun e s' hq => hq)
    obtain ⟨w', H', J', rv, q⟩ := hq
    exact ⟨w', H', J'.os, J'.bare, J'.base, J'.hok, rv, q⟩
  have hx : Passes (L2.CX X.prog X.w) ((cxOf CXg X.prog X.w X.K X.mg X.base Ng qg sg g cdg X.A X.stack s H Eg).tr pn xe) E := passes_call tk hW
  refine wpAny_call (codeAny_mono rc fun r s' hq => ?_)
  cases r with
  | error e => exact hx pinsZ σZ HZ s1 e s' I1 hq
  | ok fl =>
    cases fl with
    | ret u => exact I1.after hq
    | next => exact False.elim hq
    | brk => exact False.elim hq
    | cont => exact False.elim hq
/-- x(lambda y=..: body) -/
theorem pe_lamcallD {T : List (Addr × Str)} {TT : (XK → Hp → VK → Prop) → Hp → VK → Prop} {x a y : Str} {g c P : Addr} {k : Nat} {pg : Arguments} {bg : List Stmt} {sg : Scope} {dV kV doc pm cdv ct oc : Value} {an od : Option Addr} {osl : Array (Option Value)} {Ng : List Str}
    {params : Arguments} {body : Expr} {scope : Scope} {t : XK → TE} {p lpos pos : Pos} (hg : Gl X x) (hm : X.mg x = some (.ref g)) (hk : PySem.W.keepIn X.K (.ref g) = true)
    (lk : X.K.lookup g = some ⟨oc, od, .func (PySem.W.fnOf x x pg bg sg dV kV doc pm an cdv ct), osl⟩) (hcg : PySem.W.codeIn X.K cdv x = true) (hb : L2.Binds X.K (PySem.W.fnOf x x pg bg sg dV kV doc pm an cdv ct) [a] []) (Sg : FnScope Ng [a] sg) (hNg : Ng[0]? = some a) (hva : Vis sg a)
    (hG : GivesTo X Ng x sg g cdv bg a (X.env.qual ++ "<lambda>") TT)
    (TB : TabB X.base X.mg c P) (hcode : X.env.code = .ref c) (hmT : (P, X.env.qual ++ "<lambda>") ∈ T) (hu : ∀ p ∈ T, p.1 = P → p.2 = X.env.qual ++ "<lambda>") (hr : Room (k + 2) X.A) (L : LamD X.N X.env.scope scope [y])
    (hd0 : params.defaults.isEmpty = false) (hk0 : params.kw_defaults = [])
    (hev : ∀ (M : Model) (A : Around) (s : Shared) (E : Value → Shared → Prop) (Q : List Value → Shared → Prop), (∀ u tk, Q [u] { s with toks := tk }) → wpAny M A (evalAll (evalEach params.defaults X.env)) Q E s)
    (hbind : ∀ (u : Value) (q : Str) (cl : List (Str × Addr)) (t : Addr) (doc pm cv ctv : Value) (s : Shared), s.heap.get? t = some (PySem.W.kdv_tup [u]) → BindsTo s (PySem.W.kdv_fn "<lambda>" q params (.expr body) scope cl (.ref t) doc pm cv ctv) ⟨[], []⟩ [(y, u)])
    (hbody : ∀ (A : Around) (outer : List Env) (s : Shared) (H : Hp) (E : XK) (f c' : Addr), Room k (A.deeper (lamEnv X scope s.heap.objs.size f c')) → PE (lamCx X A outer s H E scope f c') body (t E))
    (hdb : (x == ("__debug__" : Str)) = false := by decide) (hd : (a == ("__debug__" : Str)) = false := by decide) (hcd : (a == ("__classdict__" : Str)) = false := by decide) :
    PE X (.Call (.Name x p) [.Lambda params body scope lpos] [] pos) (tLam T TT t) := by
  refine ⟨fun pins s σ H Q I ⟨hT, h⟩ => ?_⟩
  refine wpAny_Call_Name_kw (ld_glob I hg hm ?_ hdb)
  refine PySem.W.callWith_K (h₀ := X.base) I.ok.mod.kin hk ?_ (by rfl) (by rfl)
  show wpAny _ _ (spliced ((false, eval (.Lambda params body scope lpos) X.env) :: backTo pos (starEach [] X.env))) _ _ s
  refine Calls.spliced_cons (lamD_make I TB hcode hmT hu hT (L.has I.ok) hd0 hk0 hev fun u t0 f c' doc' pm' ctv H1 s' M => ?_)
  refine Calls.spliced_nil ⟨M.inv.kIn, ?_⟩
  have rc : codeAny (model X.prog X.w) X.A (.call (.ref g) ⟨[.ref f], []⟩) (CR C8.CX0 X.stack X.prog X.w H1 s' Q C8.E0) s' := by
    refine run_ofS (N := Ng) (ps := [a]) (us := [.ref f]) (vs := [.ref f]) lk hcg Sg hr M.inv.env0 (hb s' [.ref f] M.inv.kIn rfl) (.cons rfl .nil) rfl fun hr' => ?_
    obtain ⟨t', ht', hq'⟩ := hG f c' s' H1 Q (fun E H' Q' => t E σ H' Q') (fun W pn xe E p1 p2 tk hW => pe_actD (i := 0) M L (hbind _ _ _ _ _ _ _ _) tk hW hr' (fun A outer s H hr2 => hbody A outer s H E f c' hr2) hNg hva hd hcd) M.code (h H1 M.ext M.tabs)
    exact ⟨t', ht'.nox, hq'⟩
  refine wpAny_call (codeAny_mono rc fun r s2 hq => ?_)
  cases r with
  | error e => exact (show False from hq).elim
  | ok fl =>
    cases fl with
    | ret u => exact M.inv.after hq
    | next => exact False.elim hq
    | brk => exact False.elim hq
    | cont => exact False.elim hq
/-- a written whole number as the default -/
theorem ev_int {X : Cx} {params : Arguments} {i : Int} {j : Nat} {pos : Pos} (h : params.defaults = [.Constant (.int i) j pos]) : ∀ (M : Model) (A : Around) (s : Shared) (E : Value → Shared → Prop) (Q : List Value → Shared → Prop), (∀ u tk, Q [u] { s with toks := tk }) → wpAny M A (evalAll (evalEach params.defaults X.env)) Q E s := fun M A s E Q q => by
  rw [h]
  exact PySem.W.kdv_all1 (wpAny_Constant_int (PySem.W.kdv_all0 (q _ _)))
end
end XB
set_option Elab.async false
set_option linter.all false
set_option maxRecDepth 100000
set_option maxHeartbeats 8000000
namespace XB
open PySem PySem.Spec PyProof.Rows L2
abbrev saidN : List Str := ["call", "told_so", "error", "e", "found", "some", "word", "is_so"]
theorem pe_saidT {X : Cx} {TT : List (Addr × Str)} {tab c : Addr} {k : Nat} {params : Arguments} {body : Expr} {scope : Scope} {t : XK → TE} {p lpos pos : Pos} (T : Tx X.K X.mg) (hg : Gl X "_law_said") (TB : LamX.TabB X.base X.mg c tab) (hcode : X.env.code = .ref c)
    (hm : (tab, X.env.qual ++ "<lambda>") ∈ TT) (hu : ∀ y ∈ TT, y.1 = tab → y.2 = X.env.qual ++ "<lambda>") (hr : Room (k + 2) X.A) (L : LamX.LamS X.env.scope scope)
    (hdef : defaultsOf params X.env = ([], [])) (hbind : ∀ (q : Str) (cl : List (Str × Addr)) (pm cv ctv : Value), bindArgs (PySem.W.kla_fn "<lambda>" q params body scope cl pm cv ctv) ⟨[], []⟩ = pure [])
    (hbody : ∀ (A : Around) (outer : List Env) (s : Shared) (H : Hp) (E : XK) (f c' : Addr), Room k (A.deeper (LamX.lamEnv X scope s.heap.objs.size f c')) → PE (LamX.lamCx X A outer s H E scope f c') body (t E)) :
    PE X (.Call (.Name "_law_said" p) [.Lambda params body scope lpos] [] pos) (LamX.tLam TT (TTsaid X.K X.mg) t) := by
  obtain ⟨g, fd, F, mgF⟩ := T.d__law_said.ex
  obtain ⟨oc, od, kV, doc, pm, an, cdv, ct, osl, rfl, lk, hcd⟩ := F.ex
  have hb := F.binds (ps := ["call"]) fun _ _ _ _ _ _ us hl => match us, hl with | [_], _ => rfl
  exact LamX.pe_lamcall (a := "call") (Ng := saidN) (sg := defScope s__law_said) hg mgF F.kp lk hcd hb sc__law_said rfl (.inl (by decide +kernel)) (said_gives T) TB hcode hm hu hr L hdef hbind hbody
theorem pe_saidD {X : Cx} {TT : List (Addr × Str)} {tab c : Addr} {k : Nat} {y : Str} {params : Arguments} {body : Expr} {scope : Scope} {t : XK → TE} {p lpos pos : Pos} (T : Tx X.K X.mg) (hg : Gl X "_law_said") (TB : LamX.TabB X.base X.mg c tab) (hcode : X.env.code = .ref c)
    (hm : (tab, X.env.qual ++ "<lambda>") ∈ TT) (hu : ∀ y ∈ TT, y.1 = tab → y.2 = X.env.qual ++ "<lambda>") (hr : Room (k + 2) X.A) (L : LamD X.N X.env.scope scope [y])
    (hd0 : params.defaults.isEmpty = false) (hk0 : params.kw_defaults = [])
    (hev : ∀ (M : Model) (A : Around) (s : Shared) (E : Value → Shared → Prop) (Q : List Value → Shared → Prop), (∀ u tk, Q [u] { s with toks := tk }) → wpAny M A (evalAll (evalEach params.defaults X.env)) Q E s)
    (hbind : ∀ (u : Value) (q : Str) (cl : List (Str × Addr)) (t : Addr) (doc pm cv ctv : Value) (s : Shared), s.heap.get? t = some (PySem.W.kdv_tup [u]) → BindsTo s (PySem.W.kdv_fn "<lambda>" q params (.expr body) scope cl (.ref t) doc pm cv ctv) ⟨[], []⟩ [(y, u)])
    (hbody : ∀ (A : Around) (outer : List Env) (s : Shared) (H : Hp) (E : XK) (f c' : Addr), Room k (A.deeper (LamX.lamEnv X scope s.heap.objs.size f c')) → PE (LamX.lamCx X A outer s H E scope f c') body (t E)) :
    PE X (.Call (.Name "_law_said" p) [.Lambda params body scope lpos] [] pos) (LamX.tLam TT (TTsaid X.K X.mg) t) := by
  obtain ⟨g, fd, F, mgF⟩ := T.d__law_said.ex
  obtain ⟨oc, od, kV, doc, pm, an, cdv, ct, osl, rfl, lk, hcd⟩ := F.ex
  have hb := F.binds (ps := ["call"]) fun _ _ _ _ _ _ us hl => match us, hl with | [_], _ => rfl
  exact pe_lamcallD (a := "call") (Ng := saidN) (sg := defScope s__law_said) hg mgF F.kp lk hcd hb sc__law_said rfl (.inl (by decide +kernel)) (said_gives T) TB hcode hm hu hr L hd0 hk0 hev hbind hbody
/-! ### a lambda in a comprehension's block -/
theorem lookup_marked {b : Str → NameKind → Bool} : ∀ {names : List (Str × NameKind)} {x : Str}, (names.lookup x = some .cell ∨ names.lookup x = some .free) →
    (names.map fun y => if b y.1 y.2 = true then (y.1, NameKind.cell) else (y.1, y.2)).lookup x = some .cell ∨ (names.map fun y => if b y.1 y.2 = true then (y.1, NameKind.cell) else (y.1, y.2)).lookup x = some .free
  | [], x, h => by simp at h
  | (n, k) :: r, x, h => by
    rw [List.map_cons]
    have ih := @lookup_marked b r x
    cases hx : x == n with
    | true =>
      rw [List.lookup_cons, hx] at h
      by_cases c : b n k = true
      · rw [if_pos c, List.lookup_cons, hx]
        exact .inl rfl
      · rw [if_neg c, List.lookup_cons, hx]
        exact h
    | false =>
      rw [List.lookup_cons, hx] at h
      by_cases c : b n k = true
      · rw [if_pos c, List.lookup_cons, hx]
        exact ih h
      · rw [if_neg c, List.lookup_cons, hx]
        exact ih h
theorem lamS_blk {env : Env} {bs scope : Scope} {cl : List (Str × Addr)} {C : Addr} (L : LamX.LamS bs scope) : LamX.LamS (compEnvC bs cl C env).scope scope :=
  ⟨L.kind, L.co, L.gen, L.own, fun y hy e => lookup_marked (b := fun n k => k == NameKind.free && env.scope.kind == .function && env.kindOf n == some .cell) (L.free y hy e)⟩
/-- in a comprehension's block -/
theorem pe_saidB {X : Cx} {K : PySem.W.Frag} {mg : Str → Option Value} {TT : List (Addr × Str)} {tab c : Addr} {k : Nat} {params : Arguments} {body : Expr} {scope : Scope} {t : XK → TE} {p lpos pos : Pos} (hK : X.K = K) (hmg : X.mg = mg) (T : Tx K mg) (hg : Gl X "_law_said") (TB : LamX.TabB X.base mg c tab) (hcode : X.env.code = .ref c)
    {q : Str} (hq : X.env.qual ++ "<lambda>" = q) (hm : (tab, q) ∈ TT) (hu : ∀ y ∈ TT, y.1 = tab → y.2 = q) (hr : Room (k + 2) X.A) (L : LamX.LamS X.env.scope scope)
    (hdef : defaultsOf params X.env = ([], [])) (hbind : ∀ (q : Str) (cl : List (Str × Addr)) (pm cv ctv : Value), bindArgs (PySem.W.kla_fn "<lambda>" q params body scope cl pm cv ctv) ⟨[], []⟩ = pure [])
    (hbody : ∀ (A : Around) (outer : List Env) (s : Shared) (H : Hp) (E : XK) (f c' : Addr), Room k (A.deeper (LamX.lamEnv X scope s.heap.objs.size f c')) → PE (LamX.lamCx X A outer s H E scope f c') body (t E)) :
    PE X (.Call (.Name "_law_said" p) [.Lambda params body scope lpos] [] pos) (LamX.tLam TT (TTsaid K mg) t) := by
  subst hK hmg hq
  exact pe_saidT T hg TB hcode hm hu hr L hdef hbind hbody
section
variable {P : Program} {w : World} {K : PySem.W.Frag} {mg : Str → Option Value} {base : Heap}
theorem said_ret {tl : XK → Hp → VK → Prop} {H : Hp} {Q : VK} (C : V → Hp → Prop) (h : ∀ (E : XK) (H0 : Hp) (Qx : VK), Same H H0 → (∀ v H', Same H H' → C v H' → Qx v H') → tl E H0 Qx) (q : ∀ v H1 H' r, Same H H1 → C v H1 → Same H1 H' → H' r = some (.lst [v]) → Q (.ref r) H') : TTsaid K mg tl H Q :=
  ⟨fun _ _ _ => False, fun H0 Qx s0 hQ => h _ H0 Qx s0 fun v H' s' c => hQ v H' fun H2 r s2 n e => q v H' H2 r s' c s2 e, fun _ _ _ z => z.elim⟩
theorem said_ref {tl : XK → Hp → VK → Prop} {H : Hp} {Q : VK} {x f word : Str} {y : V} (hm : ((x, f, word) : Str × Str × Str) ∈ refL)
    (h : ∀ (E : XK) (H0 : Hp) (Qx : VK), Same H H0 → RefE K mg H E x f y → tl E H0 Qx) (q : ∀ H' r, Same H H' → SqT K H' r [.str word, y] → Q (.ref r) H') : TTsaid K mg tl H Q :=
  ⟨fun cls d H' => ∃ C dx : Addr, cls = .ref C ∧ d = some dx ∧ mg x = some (.ref C) ∧ ExcC K C ∧ Same H H' ∧ H' dx = some (.xd [(f, y)]),
    fun H0 Qx s0 _ => h _ H0 Qx s0 fun C H' dx hg hC s' e => ⟨C, dx, rfl, rfl, hg, hC, s', e⟩,
    fun cls d H' ⟨C, dx, e1, e2, hg, hC, s', e⟩ => ⟨word, [y], ⟨C, dx, hC, e1, e2, ⟨x, f, y, hm, hg, rfl, e⟩⟩, fun H2 r s2 hr => q H2 r (s'.trans s2) hr⟩⟩
end
end XB
set_option Elab.async false
set_option linter.all false
set_option maxRecDepth 100000
set_option maxHeartbeats 8000000
namespace XB
open PySem PySem.Spec PyProof.Rows L2
/-! a drawn deed -/
def qStep : Str := "_law_step" ++ ".<locals>." ++ "<lambda>"
def StL : List Int := [1, -1, 2, 10 ^ 30]
theorem stl_good : ∀ z ∈ StL, z ≠ 0 ∧ -(10 ^ 30) ≤ z ∧ z ≤ 10 ^ 30 := by decide +kernel
theorem eqv_nilR (r : List Itm) : PyData.eqv (dRow r) (.tuple []) = r.isEmpty := by cases r <;> rfl
theorem without_rev (row : List Itm) (l : List Nat) (x : Nat) : without row (l.reverse ++ [x]) = without row (l ++ [x]) := by
  unfold without
  congr 1
  funext p
  simp
theorem holdN_mem {F : Fld} {k : Nat} : ∀ {r : List Itm} {ns : List Str}, k ∈ holdN F ns r → ∃ y ∈ r, y.1 = k
  | [], _, h => nomatch h
  | p :: r, ns, h => by
    have e : holdN F ns (p :: r) = if ns.any (fun x => (OF F).tc x p.2.1) then p.1 :: holdN F (ns ++ [p.2.1]) r else holdN F ns r := rfl
    rw [e] at h
    split at h
    · rcases List.mem_cons.mp h with q | q
      · exact ⟨p, List.mem_cons_self, q.symm⟩
      · obtain ⟨y, my, e⟩ := holdN_mem q
        exact ⟨y, List.mem_cons_of_mem _ my, e⟩
    · obtain ⟨y, my, e⟩ := holdN_mem h
      exact ⟨y, List.mem_cons_of_mem _ my, e⟩
theorem hold_mem {F : Fld} {row : List Itm} {i k : Nat} (h : k ∈ holdAt F row i) : ∃ y ∈ row, y.1 = k := by
  unfold holdAt at h
  split at h
  · obtain ⟨y, my, e⟩ := holdN_mem h
    exact ⟨y, List.mem_of_mem_drop my, e⟩
  · cases h
theorem step_right {ns : List Str} {s : Str × Int} (h1 : s.1 ∈ ns) (h : GoodTimes s.2) : stepD ns (dStep s) = true := by
  obtain ⟨h0, h2, h3⟩ := h
  show (ns.contains s.1 && (decide (s.2 ≠ 0) && decide ((if s.2 < 0 then -s.2 else s.2) ≤ 10 ^ 30))) = true
  rw [List.contains_iff_mem.mpr h1, decide_eq_true h0, Bool.true_and, Bool.true_and]
  refine decide_eq_true ?_
  split <;> omega
section
variable {K : PySem.W.Frag} {mg : Str → Option Value}
/-- what a call tells that changes things -/
theorem said_retM {tl : XK → Hp → VK → Prop} {H : Hp} {Q : VK} (C : V → Hp → Prop) (h : ∀ (E : XK) (H0 : Hp) (Qx : VK), Same H H0 → (∀ v H', C v H' → Qx v H') → tl E H0 Qx) (q : ∀ v H1 H' r, C v H1 → Same H1 H' → H1 r = none → H' r = some (.lst [v]) → Q (.ref r) H') : TTsaid K mg tl H Q :=
  ⟨fun _ _ _ => False, fun H0 Qx s0 hQ => h _ H0 Qx s0 fun v H1 c => hQ v H1 fun H2 r s2 n e => q v H1 H2 r c s2 n e, fun _ _ _ z => z.elim⟩
end
section
variable {P : Program} {w : World} {K : PySem.W.Frag} {mg : Str → Option Value} {base : Heap}
theorem if_way {D : Ends} {X Y : TS} {σ : L2.St} {H : Hp} {i j : Nat} {wy : Int} {ra : Addr} {row : List Itm} (hi : σ[i]? = some (some (.int wy))) (hj : σ[j]? = some (some (.ref ra))) (hR : Dp K H (.ref ra) (dRow row)) (sh : SeqAt.shaped (dRow row) = true)
    (hx : (wy < 4 ∨ (row = [] ∧ wy < 7)) → ∀ H', Same H H' → X D σ H') (hy : ¬ (wy < 4 ∨ (row = [] ∧ wy < 7)) → ∀ H', Same H H' → Y D σ H') :
    tIfS (tOr (tTest (tOp (rI0 fun i j => V.bl (decide (i < j))) (tVar i) (tC (V.int 4)))) (tAnd (tTest (tOp (rEqD K) (tVar j) (tTup tNil))) (tTest (tOp (rI0 fun i j => V.bl (decide (i < j))) (tVar i) (tC (V.int 7)))))) X Y D σ H := by
  refine ⟨_, hi, _, _, rfl, rfl, _, rfl, ?_⟩
  by_cases h4 : wy < 4
  · rw [decide_eq_true h4]
    exact iteT (hx (.inl h4) H (Same.refl H))
  · rw [decide_eq_false h4]
    refine iteF ⟨_, hj, Nat.zero_le _, fun u nu => upd_gen nu fun H1 s1 e1 => ⟨_, _, Dp.sm s1 _ hR, .tup (SqT.of e1) .nil, sh, rfl, ?_⟩⟩
    rw [eqv_nilR]
    refine ⟨_, rfl, ?_⟩
    cases row with
    | nil =>
      refine iteT ⟨_, hi, _, _, rfl, rfl, _, rfl, ?_⟩
      by_cases h7 : wy < 7
      · rw [decide_eq_true h7]
        exact iteT (hx (.inr ⟨rfl, h7⟩) H1 s1)
      · rw [decide_eq_false h7]
        exact iteF (hy (fun z => by rcases z with z | z; exact h4 z; exact h7 z.2) H1 s1)
    | cons x r => exact iteF (hy (fun z => by rcases z with z | z; exact h4 z; cases z.1) H1 s1)
def spStep (K : PySem.W.Frag) (mg : Str → Option Value) (TT : List (Addr × Str)) : Sp := fun vs H Q _ => ∃ (m c g a o : Addr) (s : Int) (F : Fld) (h : Sh) (n : Nat), vs = [.ref m, .ref a, .ref o] ∧ Dr H m c g s ∧ s < 900000000 ∧ SheetAt K mg H a F h ∧ OwnAt K H o F h (· ≠ g) ∧ F.Ok ∧ ShB F h n ∧ n < 60 ∧ LamX.Tabs TT H ∧
  ∀ H' h' s', Ex [a, o, m, g] H H' → LamX.Tabs TT H' → Dr H' m c g s' → s' ≤ s + 3 → SheetAt K mg H' a F h' → OwnAt K H' o F h' (· ≠ g) → ShB F h' (n + 1) → Q (.bl true) H'
theorem c__law_step (T : Tx K mg) {c0 tab : Addr} {TT : List (Addr × Str)} (CT : CodeT K mg base "_law_step" c0 tab) (hmT : (tab, qStep) ∈ TT) (huT : ∀ y ∈ TT, y.1 = tab → y.2 = qStep) : Cg P w K mg base CX0 8 "_law_step" (spStep K mg TT) := by
  refine cgC T.d__law_step CT (ps := ["m", "sheet", "own"]) (fun _ _ _ _ _ _ us hl => match us, hl with | [_, _, _], _ => rfl) sc__law_step (fun vs H Q E h => ?_) (fun f A outer st H vs Q E hgu hr h => ?_)
  · obtain ⟨m, c, g, a, o, s, F, h, n, rfl, _⟩ := h
    rfl
  · obtain ⟨m, c, g, a, o, s, F, h, n, rfl, R, hs9, hA, hO, ok, hb, hn, hT, q_⟩ := h
    have nd := sc__law_step.nd
    have hu := hu_of hr
    refine ⟨_, (pss_cons (ps_par (i := 3) (j := 4) rfl nd rfl rfl (by decide) rfl rfl (pa_cons (pe_k (c_draw T) hr (by decide) (by rfl) (pa_cons (pv 0) (pa_cons pe_int pa_nil))) (pa_cons (pe_ix (ixk_tup (K := K) rfl) (pe_dget hu (pv 2) pe_str (fun _ _ => rfl)) pe_int (fun _ _ => rfl)) pa_nil)) rfl)
    (pss_cons (ps_if (PW.pt (pw_or (pt_cmpR op_lt (pv 3) pe_int (nomark _)) (pw_or1 (PW.pt (pw_and (pt_cmpR (op_eqD hr.units) (pv 4) (pe_tup pa_nil) (nomark _)) (pw_and1 (pt_cmpR op_lt (pv 3) pe_int (nomark _)))))))) (pss_cons (ps_set (i := 5) nd rfl (.inl rfl) (pe_ix (ixk_tup (K := K) rfl) (pe_ix (ixk_tup (K := K) rfl) (pe_dget hu (pv 2) pe_str (fun _ _ => rfl)) pe_int (fun _ _ => rfl)) (pe_k (c_draw T) hr (by decide) (by rfl) (pa_cons (pv 0) (pa_cons (pe_lenS (by rfl) T.b_len (pe_ix (ixk_tup (K := K) rfl) (pe_dget hu (pv 2) pe_str (fun _ _ => rfl)) pe_int (fun _ _ => rfl))) pa_nil))) (fun _ _ => rfl)))
    (pss_cons (ps_set (i := 6) nd rfl (.inl rfl) (pe_tup (pa_cons (pv 5) (pa_cons (pe_ix (ixk_list (K := K) rfl) (pe_lst (pa_cons pe_int (pa_cons (pe_un un_neg pe_int) (pa_cons pe_int (pa_cons (pe_op op_pow pe_int pe_int) pa_nil))))) (pe_k (c_draw T) hr (by decide) (by rfl) (pa_cons (pv 0) (pa_cons pe_int pa_nil))) (fun _ _ => rfl)) pa_nil))))
    (pss_cons (ps_expr (pe_k (c__law_kept T) hr (by decide) (by rfl) (pa_cons (pv 2) (pa_cons (pe_tup (pa_cons (pe_op (op_catAk (K := K) rfl) (pv 4) (pe_tup (pa_cons (pe_tup (pa_cons (pe_ix (ixk_tup (K := K) rfl) (pe_dget hu (pv 2) pe_str (fun _ _ => rfl)) pe_int (fun _ _ => rfl)) (pa_cons (pv 6) pa_nil))) pa_nil))) (pa_cons (pe_op op_add (pe_ix (ixk_tup (K := K) rfl) (pe_dget hu (pv 2) pe_str (fun _ _ => rfl)) pe_int (fun _ _ => rfl)) pe_int) pa_nil))) pa_nil))))
    (pss_one (ps_ret (pe_g (g__law_like T) hgu hr (by decide) (by rfl) (pa_cons (pe_mtO T.o_Sheet (c_Sheet_do T) (pv 1) hr (by decide) (E := E0) passL (pa_cons (pv 6) pa_nil)) (pa_cons (pe_ix (ixk_tup (K := K) rfl) (pe_ix (ixk_list (K := K) rfl) (pe_dget hu (pv 2) pe_str (fun _ _ => rfl)) (pe_un un_neg pe_int) (fun _ _ => rfl)) pe_int (fun _ _ => rfl)) pa_nil)))))))) pss_nil)
    (pss_cons (ps_if (pt_cmpR op_lt (pv 3) pe_int (nomark _)) (pss_cons (ps_set (i := 7) nd rfl (.inr rfl) (pe_ix (ixk_tup (K := K) rfl) (pe_ix (ixk_tup (K := K) rfl) (pv 4) (pe_k (c_draw T) hr (by decide) (by rfl) (pa_cons (pv 0) (pa_cons (pe_lenS (by rfl) T.b_len (pv 4)) pa_nil))) (fun _ _ => rfl)) pe_int (fun _ _ => rfl)))
    (pss_cons (ps_set (i := 8) nd rfl (.inl rfl) (pe_k (c__law_held T) hr (by decide) (by rfl) (pa_cons (pv 2) (pa_cons (pv 7) pa_nil))))
    (pss_cons (ps_if (pt_not (pt_val (pe_g (g__law_like T) hgu hr (by decide) (by rfl) (pa_cons (pe_mtO T.o_Sheet (c_Sheet_ahead_of T) (pv 1) hr (by decide) (E := E0) passL (pa_cons (pv 7) pa_nil)) (pa_cons (pe_tupleOf (by rfl) T.b_tuple (pv 8)) pa_nil))))) pss_never pss_nil)
    (pss_cons (ps_if (pt_cmpR op_eq (pv 3) pe_int (nomark _)) (pss_cons (ps_expr (pe_k (c__law_without T) hr (by decide) (by rfl) (pa_cons (pv 2) (pa_cons (pe_op op_cat (pv 8) (pe_lst (pa_cons (pv 7) pa_nil))) pa_nil))))
    (pss_one (ps_ret (pe_g (g__law_like T) hgu hr (by decide) (by rfl) (pa_cons (pe_mtO T.o_Sheet (c_Sheet_take_all T) (pv 1) hr (by decide) (E := E0) passL (pa_cons (pv 7) pa_nil)) (pa_cons (pe_tupleOf (by rfl) T.b_tuple (pe_op op_cat (pe_revL (pv 8)) (pe_lst (pa_cons (pv 7) pa_nil)))) pa_nil)))))) pss_nil)
    (pss_cons (ps_set (i := 9) nd rfl (.inl rfl) (pe_saidT T (by rfl) CT.tb rfl hmT huT hr (LamX.lamS_by (sc := defScope s__law_step) (by decide +kernel)) rfl (fun _ _ _ _ _ => rfl) (fun A2 outer2 st2 H2 E2 f2 c2 hr2 => (pe_mtOk (K := K) (mg := mg) rfl rfl T.o_Sheet (c_Sheet_take_back T) (pv 1) hr2 (by decide) (passes_call (takes_of rfl rfl rfl rfl) fun _ _ _ _ h => h) (pa_cons (pv 7) pa_nil)))))
    (pss_cons (ps_if (pt_cmpR (op_neD hr.units) (pv 8) (pe_lst pa_nil) (nomark _)) (pss_one (ps_ret (pe_cmpR (op_eqD hr.units) (pv 9) (pe_tup (pa_cons pe_str (pa_cons (pe_ix (ixk_list (K := K) rfl) (pv 8) pe_int (fun _ _ => rfl)) pa_nil))) (nomark _)))) pss_nil)
    (pss_cons (ps_expr (pe_k (c__law_without T) hr (by decide) (by rfl) (pa_cons (pv 2) (pa_cons (pe_lst (pa_cons (pv 7) pa_nil)) pa_nil))))
    (pss_one (ps_ret (pe_cmpR (op_eqD hr.units) (pv 9) (pe_lst (pa_cons pe_non pa_nil)) (nomark _))))))))))) pss_nil)
    (pss_cons (ps_if (pt_cmpR op_eq (pv 3) pe_int (nomark _)) (pss_one (ps_ret (pe_g (g__law_like T) hgu hr (by decide) (by rfl) (pa_cons (pe_mtO0 T.o_Sheet (c_Sheet_undo T) (pv 1) hr (by decide) (E := E0) passL) (pa_cons (pe_k (c__law_shift T) hr (by decide) (by rfl) (pa_cons (pv 2) (pa_cons pe_str (pa_cons pe_str pa_nil)))) pa_nil))))) pss_nil)
    (pss_one (ps_ret (pe_g (g__law_like T) hgu hr (by decide) (by rfl) (pa_cons (pe_mtO0 T.o_Sheet (c_Sheet_redo T) (pv 1) hr (by decide) (E := E0) passL) (pa_cons (pe_k (c__law_shift T) hr (by decide) (by rfl) (pa_cons (pv 2) (pa_cons pe_str (pa_cons pe_str pa_nil)))) pa_nil))))))))), ?_⟩
    --@
    refine ⟨_, rfl, m, c, g, s, 9, rfl, R, by decide, by decide, by omega, fun wy H1 w0 w9 R1 k1 => ?_⟩
    obtain ⟨hA1, hO1⟩ := three_kp hA hO R k1
    have T1 := tabs_kp hT R k1
    have E1 : Ex [a, o, m, g] H H1 := (Sb.kp k1).ex.mono (by simp)
    clear hA hO hT
    obtain ⟨f1, nw, ap, aq, ps, qs, e, h1, h2, h3, h4, h5, h6, h7, h8⟩ := id hO1
    obtain ⟨_, ra, ee, g7, g8⟩ := h2.ss
    cases ee
    have so := hb.ok.now
    refine ⟨_, rfl, o, .ref nw, rfl, DGet.k (k := .inr "now") e, ix0 g7 ⟨_, _, rfl, ?_⟩⟩
    refine if_way (K := K) rfl rfl g8 ((okd_row ok so).shaped (by decide)) (fun hc H2 s2 => ?_) (fun hc H2 s2 => ?_)
    · have so' := so
      obtain ⟨bn1, bn2⟩ := hb.now
      have bl := hb.len
      have R2 := R1.same s2
      have E2 := E1.trans (Ex.same s2)
      have T2 := T1.ext s2
      have hA2 := hA1.same s2
      have hO2 := hO1.same s2
      have e2 := s2 _ _ e
      have hF2 := Dp.sm s2 _ h1
      have g72 := (Tk.of s2).sqT g7
      have g82 := Dp.sm s2 _ g8
      clear hA1 hO1 R1 T1 E1 e h1 h2 h3 h4 h5 h6 h7 h8 g7 g8 k1
      obtain ⟨_, nn, pp, pps, e0, hFA, hFN, hFP, hFD⟩ := id hF2.field
      cases e0
      have n0 := ok.n0
      have n6 := ok.n6
      have lN : (F.names.map V.str).length = F.names.length := List.length_map ..
      have C30 : CPow 10 30 := ⟨by decide, by decide, by decide⟩
      refine ⟨_, rfl, o, .ref f1, rfl, DGet.k (k := .inr "field") e2, ix0 hFA ⟨_, rfl, _, rfl, o, .ref f1, rfl, DGet.k (k := .inr "field") e2, ix0 hFA ⟨nn, _, rfl, .inr hFN, m, c, g, s + 1, _, rfl, R2, by rw [lN]; omega, by rw [lN]; omega, by omega, fun r1 H3 r10 r11 R3 k3 => ?_⟩⟩⟩
      rw [lN] at r11
      obtain ⟨b1, rfl⟩ : ∃ i : Nat, r1 = (i : Int) := ⟨r1.toNat, by omega⟩
      have hx : F.names[b1]? = some F.names[b1] := List.getElem?_eq_getElem (by omega)
      have mx := List.mem_of_getElem? hx
      generalize F.names[b1] = x at hx mx
      have t3 := R2.tk k3
      obtain ⟨hA3, hO3⟩ := three_kp hA2 hO2 R2 k3
      have T3 := tabs_kp T2 R2 k3
      have E3 := E2.trans ((Sb.kp k3).ex.mono (by simp))
      refine ⟨_, _, _, .str x, rfl, rfl, t3.sqT hFN, at_of (j := b1) rfl (by rw [List.getElem?_map, hx]; rfl), ?_⟩
      refine ⟨_, rfl, _, rfl, _, _, rfl, rfl, C30, (by decide : 4 ≤ sizeLine), fun L nL => upd_gen nL fun H4 s4 e4 => ?_⟩
      have e4 : H4 L = some (.lst (StL.map V.int)) := e4
      have nL' := R3.nm nL
      refine ⟨_, rfl, m, c, g, s + 1 + 1, 4, rfl, R3.same s4, by decide, by decide, by omega, fun r2 H5 r20 r21 R5 k5 => ?_⟩
      obtain ⟨b2, rfl⟩ : ∃ i : Nat, r2 = (i : Int) := ⟨r2.toNat, by omega⟩
      have hb2 : b2 < StL.length := by show b2 < 4; omega
      have hz : StL[b2]? = some StL[b2] := List.getElem?_eq_getElem hb2
      have gz := stl_good _ (List.getElem_mem hb2)
      generalize StL[b2] = z at hz gz
      obtain ⟨hA5, hO5⟩ := three_kp (hA3.same s4) (hO3.same s4) (R3.same s4) k5
      have T5 := tabs_kp (T3.ext s4) (R3.same s4) k5
      have t25 := t3.trans ((Tk.of s4).trans ((R3.same s4).tk k5))
      have E5 := (E3.trans (Ex.same s4)).trans ((Sb.kp k5).ex.mono (by simp))
      refine ⟨L, _, b2, .int z, rfl, rfl, SqL.of (k5 _ _ nL'.1 nL'.2.2 e4), at_of (j := b2) rfl (by rw [List.getElem?_map, hz]; rfl), two_sz, fun st nst => upd_gen nst fun H6 s6 e6 => ?_⟩
      have hA6 := hA5.same s6
      have hO6 := hO5.same s6
      have R6 := R5.same s6
      have T6 := T5.ext s6
      have E6 := E5.trans (Ex.same s6)
      have t26 := t25.trans (Tk.of s6)
      have g86 := Dp.tk t26 _ (flat_row _) g82
      have eSt : SqT K H6 st [.str x, .int z] := SqT.of e6
      clear e4 e6 hA5 hO5 R5 T5 E5 hA3 hO3 R3 T3 E3 hA2 hO2 R2 T2 E2 nL' k3 k5
      obtain ⟨f6, nw6, ap6, aq6, ps6, qs6, eo6, i1, i2, i3, i4, i5, i6, i7, i8⟩ := id hO6
      obtain ⟨_, ra6, ee, j7, j8⟩ := i2.ss
      cases ee
      obtain ⟨_, rxs, ee, hrX, hrV⟩ := g86.row
      cases ee
      have lrx := hrV.len
      rw [List.length_map] at lrx
      have ls := so'.len
      have gx : GoodTimes z := gz
      refine ⟨_, rfl, _, rfl, _, rfl, o, .ref nw6, rfl, DGet.k (k := .inr "now") eo6, ix1 j7 ⟨_, rfl, two_sz, fun u1 m1 => upd_gen m1 fun H7 s7 e7 => ⟨one_sz, fun u2 m2 => upd_gen m2 fun H8 s8 e8 => catA ((Tk.of (s7.trans s8)).sqT hrX) (SqT.of e8) (Nat.le_of_lt (small1000 (by rw [List.length_singleton]; omega))) fun H9 u3 s9 hU3 => ⟨_, rfl, o, .ref nw6, rfl, DGet.k (k := .inr "now") ((s7.trans (s8.trans s9)) _ _ eo6), ix1 ((Tk.of (s7.trans (s8.trans s9))).sqT j7) ⟨_, _, rfl, rfl, two_sz, fun u4 m4 => upd_gen m4 fun Ha sa ea => ?_⟩⟩⟩⟩⟩
      have s6a := s7.trans (s8.trans (s9.trans sa))
      have hAa := hA6.same s6a
      have hOa := hO6.same s6a
      have Ra := R6.same s6a
      have Ta := T6.ext s6a
      have Ea := E6.trans (Ex.same s6a)
      have dNew : Dp K Ha (.ref u4) (dSS ⟨h.now.row ++ [(h.now.cnt, (x, z))], h.now.cnt + 1⟩) := by
        refine .tup (SqT.of ea) (.cons (.tup ((Tk.of sa).sqT hU3) ?_) (.cons (.int _) .nil))
        rw [List.map_append]
        exact (DpAll.sm s6a _ hrV).app (.cons (Dp.of_itm (p := (h.now.cnt, (x, z))) ((Tk.of (s8.trans (s9.trans sa))).sqT (SqT.of e7)) ((Tk.of s6a).sqT eSt)) .nil)
      refine ⟨o, u4, F, h, ⟨h.now.row ++ [(h.now.cnt, (x, z))], h.now.cnt + 1⟩, (· ≠ g), rfl, hOa, dNew, by omega, fresh_g Ra, fun Hb sb tkb hOb => ?_⟩
      obtain ⟨hAb, Rb⟩ := two_own hAa hOa Ra sb tkb
      have Tb := tabs_own Ta hOa sb
      have Eb := Ea.trans (sb.ex.mono (by simp))
      have dSt : Dp K Hb (.ref st) (dStep (x, z)) := Dp.of_step (s := (x, z)) (((Tk.of s6a).trans tkb).sqT eSt)
      obtain ⟨ff, fs1, hiS, _⟩ := id hAb
      have sdr := step_right (ns := F.names) (s := (x, z)) mx gx
      refine ⟨_, rfl, a, _, rfl, hiS, rfl, _, rfl, a, .ref st, F, h, dStep (x, z), rfl, hAb, ok, by omega, by omega, dSt, (okd_step (ok.sgn _ mx) (good_abs gx).2).shaped (by decide), .inr ⟨(x, z), rfl, sdr, .inr ⟨by omega, fun Hc sc tkc hAc => ?_⟩⟩⟩
      obtain ⟨hOc, Rc⟩ := two_sheet hAb hOb Rb sc tkc
      have Tc := tabs_sheet Tb hAb sc
      have Ec := Eb.trans (sc.ex.mono (by simp))
      obtain ⟨f7, nw7, ap7, aq7, ps7, qs7, eo7, v1, v2, v3, v4, v5, v6, v7, v8⟩ := id hOc
      have v4 : DpAll K Hc ps7 (h.past.map dSS ++ [dSS h.now]) := by
        have : DpAll K Hc ps7 ((h.past ++ [h.now]).map dSS) := v4
        rw [List.map_append] at this
        exact this
      obtain ⟨ys, y, rfl, w4, wy4⟩ := dpAll_snoc v4
      obtain ⟨yr, rr, ee, z7, z8⟩ := wy4.ss
      cases ee
      refine ⟨_, rfl, o, .ref ap7, rfl, DGet.k (k := .inr "past") eo7, _, rfl, ap7, _, _, _, rfl, rfl, SqL.of v3, atI_last ys (.ref yr), ix1 z7 ⟨_, _, .int (h.now.cnt : Int), rfl, .int _, .int _, ?_, q_ Hc _ _ Ec Tc Rc (by omega) hAc hOc (hb.grow (sok_do so' ⟨mx, gx⟩ bn1 bn2 hn) (by rw [List.length_append, List.length_singleton]; omega) (by show h.now.cnt + 1 ≤ n + 1; omega))⟩⟩
      refine (sz_int ?_).mono (by decide)
      have : ((h.now.cnt : Int)).natAbs ≤ 900 := by omega
      exact Nat.lt_of_le_of_lt this (by decide +kernel)
    · have so' := so
      obtain ⟨bn1, bn2⟩ := hb.now
      have bl := hb.len
      have R2 := R1.same s2
      have E2 := E1.trans (Ex.same s2)
      have T2 := T1.ext s2
      have hA2 := hA1.same s2
      have hO2 := hO1.same s2
      have g82 := Dp.sm s2 _ g8
      have ls := so'.len
      clear hA1 hO1 R1 T1 E1 e h1 h2 h3 h4 h5 h6 h7 h8 g7 g8 k1
      refine ⟨_, rfl, _, _, rfl, rfl, _, rfl, ?_⟩
      by_cases c7 : wy < 7
      · rw [decide_eq_true c7]
        have rne : h.now.row ≠ [] := fun z => hc (.inr ⟨z, c7⟩)
        have rpos : 0 < h.now.row.length := List.length_pos_iff.mpr rne
        obtain ⟨_, xs, ee, hX, hV⟩ := g82.row
        cases ee
        have lx := hV.len
        rw [List.length_map] at lx
        refine iteT ⟨_, rfl, _, rfl, _, rfl, ra, xs, rfl, .inr hX, m, c, g, s + 1, _, rfl, R2, by omega, by omega, by omega, fun r1 H3 r10 r11 R3 k3 => ?_⟩
        obtain ⟨i, rfl⟩ : ∃ i : Nat, r1 = (i : Int) := ⟨r1.toNat, by omega⟩
        have hil : i < h.now.row.length := by omega
        have hp : h.now.row[i]? = some h.now.row[i] := List.getElem?_eq_getElem hil
        generalize h.now.row[i] = p at hp
        have t3 := R2.tk k3
        obtain ⟨hA3, hO3⟩ := three_kp hA2 hO2 R2 k3
        have T3 := tabs_kp T2 R2 k3
        have E3 := E2.trans ((Sb.kp k3).ex.mono (by simp))
        obtain ⟨ti, gi, pi⟩ : ∃ v, xs[i]? = some v ∧ Dp K H3 v (dItm p) := by
          have hx : xs[i]? = some xs[i] := List.getElem?_eq_getElem (by omega)
          obtain ⟨d, g1, p1⟩ := hV.get hx
          rw [List.getElem?_map, hp] at g1
          cases g1
          exact ⟨_, hx, Dp.tk t3 _ (flat_itm p) p1⟩
        obtain ⟨ta, tb, rfl, b1, b2⟩ := pi.itm
        refine ⟨_, _, i, _, rfl, rfl, t3.sqT hX, at_of (j := i) rfl gi, ix0 b1 ?_⟩
        clear hA2 hO2 R2 T2 E2 k3 g82 hX hV b1 b2 pi
        refine ⟨_, rfl, _, rfl, o, F, h, (· ≠ g), i, p, rfl, hO3, ok, so', hp, fun H4 L s4 nL eL => ?_⟩
        have asc : ∀ j q, j < i → h.now.row[j]? = some q → q.1 ≠ p.1 := fun j q hj hq => asc_ne so'.asc hp hq (Nat.ne_of_lt hj)
        have hA4 := hA3.same s4
        obtain ⟨ff, fs1, hiS, _⟩ := id hA4
        have lh := hold_len (F := F) (i := i) ls
        have nb : ∀ k ∈ holdAt F h.now.row i, k ≤ 900 := fun k hk => by
          have := hold_mem hk
          obtain ⟨y, my, rfl⟩ := this
          have := so'.lt y my
          omega
        have np : p.1 ≤ 900 := by
          have := so'.lt p (List.mem_of_getElem? hp)
          omega
        refine ⟨_, rfl, a, _, rfl, hiS, rfl, _, rfl, a, .int (p.1 : Int), F, h, rfl, hA4, ok, so', .inr (.inr ⟨i, p, hp, rfl, asc, fun H5 ar s5 hU => ⟨_, rfl, .inl ⟨L, _, rfl, SqL.of (s5 _ _ eL), fun tq nq => upd_gen nq fun H6 s6 e6 => ?_⟩⟩⟩)⟩
        refine ⟨.ref ar, .ref tq, .tuple ((holdAt F h.now.row i).map fun n : Nat => PyData.int (n : Int)), rfl, .tup ((Tk.of s6).sqT hU) (dp_nums _), .tup (SqT.of e6) (dp_nums _), ((okd_nums lh nb).sz (by decide)).mono (by decide), ⟨_, rfl, iteF ?_⟩⟩
        have s36 := s4.trans (s5.trans s6)
        have hA6 := hA3.same s36
        have hO6 := hO3.same s36
        have R6 := R3.same s36
        have T6 := T3.ext s36
        have E6 := E3.trans (Ex.same s36)
        have eL6 := (s5.trans s6) _ _ eL
        clear hA3 hO3 R3 T3 E3 hA4 hiS hU e6 eL
        refine ⟨_, rfl, rfl, _, rfl, ?_⟩
        have lnum : (nums (holdAt F h.now.row i)).length ≤ 60 := by
          unfold nums
          rw [List.length_map]
          exact lh
        refine ite2 (fun _ => ?_) (fun _ => ?_)
        · refine ⟨_, rfl, _, rfl, _, rfl, one_sz, fun u1 m1 => upd_gen m1 fun H7 s7 e7 => catL (s7 _ _ eL6) e7 (Nat.le_of_lt (small1000 (by rw [List.length_singleton]; omega))) fun H8 Lw s8 nw e8 => ?_⟩
          have s68 := s7.trans s8
          have hA8 := hA6.same s68
          have hO8 := hO6.same s68
          have R8 := R6.same s68
          have T8 := T6.ext s68
          have E8 := E6.trans (Ex.same s68)
          have eL8 := s68 _ _ eL6
          have e8' : H8 Lw = some (.lst (nums (holdAt F h.now.row i ++ [p.1]))) := by
            rw [e8]
            unfold nums
            rw [List.map_append]
            rfl
          refine ⟨o, Lw, F, h, holdAt F h.now.row i ++ [p.1], (· ≠ g), rfl, hO8, e8', by omega, ls, fresh_g R8, fun H9 sb tk9 hO9 => ?_⟩
          obtain ⟨hA9, R9⟩ := two_own hA8 hO8 R8 sb tk9
          have T9 := tabs_own T8 hO8 sb
          have E9 := E8.trans (sb.ex.mono (by simp))
          have eL9 := sb _ _ (fun z => own_noL hO8 _ z _ eL8) eL8
          obtain ⟨ff, fs1, hiS, _⟩ := id hA9
          refine ⟨_, rfl, a, _, rfl, hiS, rfl, _, rfl, a, .int (p.1 : Int), F, h, rfl, hA9, ok, so', by omega, .inr (.inr ⟨i, p, hp, rfl, asc, fun Ha ar sa tka hAa hU => ?_⟩)⟩
          obtain ⟨hOa, Ra⟩ := two_sheet hA9 hO9 R9 sa tka
          have Ta := tabs_sheet T9 hA9 sa
          have Ea := E9.trans (sa.ex.mono (by simp))
          have eLa := sa _ _ (fun z => sheet_noL hA9 _ z _ eL9) eL9
          rw [without_rev] at hAa
          refine ⟨_, rfl, L, _, rfl, SqL.of eLa, fun v1 m1 => upd_gen m1 fun Hb sb1 eb => ⟨_, rfl, one_sz, fun v2 m2 => upd_gen m2 fun Hc sc ec => catL (sc _ _ eb) ec (Nat.le_of_lt (small1000 (by rw [List.length_reverse, List.length_singleton]; omega))) fun Hd Lx sd nx ed => .inl ⟨Lx, _, rfl, SqL.of ed, fun tq nq => upd_gen nq fun Hf sf ef => ?_⟩⟩⟩
          have saf := sb1.trans (sc.trans (sd.trans sf))
          have eq : nums ((holdAt F h.now.row i).reverse ++ [p.1]) = (nums (holdAt F h.now.row i)).reverse ++ [V.int (p.1 : Int)] := by
            unfold nums
            rw [List.map_append, List.map_reverse]
            rfl
          rw [← eq] at ef
          refine ⟨.ref ar, .ref tq, .tuple (((holdAt F h.now.row i).reverse ++ [p.1]).map fun n : Nat => PyData.int (n : Int)), rfl, .tup ((Tk.of saf).sqT hU) (dp_nums _), .tup (SqT.of ef) (dp_nums _), ?_, ?_⟩
          · refine ((okd_tup (j := 0) (n := 0) (k := 61) (fun d hd => ?_) (by rw [List.length_map, List.length_append, List.length_reverse, List.length_singleton]; omega)).sz (by decide)).mono (by decide)
            obtain ⟨k, hk, rfl⟩ := List.mem_map.mp hd
            have : k ≤ 900 := by
              rcases List.mem_append.mp hk with q | q
              · exact nb k (List.mem_reverse.mp q)
              · rw [List.mem_singleton.mp q]
                exact np
            refine okd_int ?_
            have : ((k : Int)).natAbs ≤ 900 := by omega
            exact Nat.lt_of_le_of_lt this (by decide +kernel)
          · have sl := sok_without so' (holdAt F h.now.row i ++ [p.1])
            have ll : (without h.now.row (holdAt F h.now.row i ++ [p.1])).length ≤ h.now.row.length := List.length_filter_le _ _
            exact q_ Hf _ _ (Ea.trans (Ex.same saf)) (Ta.ext saf) (Ra.same saf) (by omega) (hAa.same saf) (hOa.same saf) (hb.grow sl (by show (without h.now.row (holdAt F h.now.row i ++ [p.1])).length ≤ n + 1; omega) (by show h.now.cnt ≤ n + 1; omega))
        · obtain ⟨ff, fs1, hiS, _⟩ := id hA6
          refine ⟨T6, fun H7 x7 T7 => ?_⟩
          have hA7 := hA6.ext x7
          have hO7 := hO6.ext x7
          have R7 : Dr H7 m c g (s + 1 + 1) := by
            obtain ⟨⟨cs, gs, em, ec, eg, gc, gl⟩, u, v⟩ := R6
            exact ⟨⟨cs, gs, x7 _ _ em (fun ps z => nomatch z), extN_lst x7 ec, extN_lst x7 eg, gc, gl⟩, u, v⟩
          have E7 := E6.trans (Ex.of x7)
          have eL7 := extN_lst x7 eL6
          cases hh : holdAt F h.now.row i with
          | cons k rest =>
            rw [hh] at eL7
            refine said_ref (x := "Held") (f := "value") (word := "held") (y := .int (k : Int)) (by decide +kernel) (fun E1 M0 Qx s0 rf => ?_) (fun H8 r8 s8 hr8 => ?_)
            · have hA8 := hA7.same s0
              obtain ⟨ff, fs1, hiS, _⟩ := id hA8
              exact ⟨_, rfl, a, _, rfl, hiS, rfl, _, rfl, a, .int (p.1 : Int), F, h, rfl, hA8, ok, so', by omega, .inr (.inr ⟨i, p, hp, rfl, asc, .inl ⟨k, rest, hh, rf.from s0⟩⟩)⟩
            · have eL8 := s8 _ _ eL7
              refine ⟨_, rfl, Nat.zero_le _, fun u nu => upd_gen nu fun H9 s9 e9 => ?_⟩
              have shl : SeqAt.shaped (.list ((k :: rest).map fun n : Nat => PyData.int (n : Int))) = true := sh_nums _
              refine ⟨_, _, .lst (SqL.of (s9 _ _ eL8)) (dp_nums _), .lst (SqL.of e9) .nil, shl, rfl, _, rfl, iteT ⟨_, rfl, _, rfl, L, _, 0, .int (k : Int), rfl, rfl, SqL.of (s9 _ _ eL8), at_nil, two_sz, fun v nv => upd_gen nv fun Ha sa ea => ?_⟩⟩
              have s7a := s8.trans (s9.trans sa)
              have dH : Dp K Ha (.ref r8) (.tuple [.str "held", .int (k : Int)]) := .tup ((Tk.of (s9.trans sa)).sqT hr8) (.cons (.str _) (.cons (.int _) .nil))
              have dV : Dp K Ha (.ref v) (.tuple [.str "held", .int (k : Int)]) := .tup (SqT.of ea) (.cons (.str _) (.cons (.int _) .nil))
              have shH : SeqAt.shaped (.tuple [.str "held", .int (k : Int)]) = true ∧ PyData.eqv (.tuple [.str "held", .int (k : Int)]) (.tuple [.str "held", .int (k : Int)]) = true := by
                have h1 : PyData.canLay0 (.tuple [.str "held", .int (k : Int)]) = true := by
                  show (PyData.canLay0 (.str "held") && (PyData.canLay0 (.int (k : Int)) && true)) = true
                  rw [show PyData.canLay0 (.str "held") = true by decide +kernel, PyData.canLay0]
                  rfl
                refine ⟨?_, PySem.SeqAt.eqv_refl _ h1⟩
                show (PyData.canLay0 (.tuple [.str "held", .int (k : Int)]) && decide (PyData.depth (.tuple [.str "held", .int (k : Int)]) ≤ 64)) = true
                rw [h1]
                simp [PyData.depth, PyData.depthAll]
              refine ⟨_, _, dH, dV, shH.1, shH.1, ?_⟩
              rw [shH.2]
              exact q_ Ha h _ (E7.trans (Ex.same s7a)) (T7.ext s7a) (R7.same s7a) (by omega) (hA7.same s7a) (hO7.same s7a) (hb.mono (Nat.le_succ n))
          | nil =>
            rw [hh] at eL7
            refine said_retM (fun v H1 => v = .non ∧ SheetAt K mg H1 a F ⟨⟨without h.now.row [p.1], h.now.cnt⟩, h.past ++ [h.now], []⟩ ∧ OwnAt K H1 o F h (· ≠ g) ∧ Dr H1 m c g (s + 1 + 1) ∧ LamX.Tabs TT H1 ∧ Ex [a, o, m, g] H H1 ∧ H1 L = some (.lst [])) (fun E1 M0 Qx s0 hQ => ?_) (fun v H8 H9 r9 ⟨ev, hA8, hO8, R8, T8, E8, eL8⟩ s9 n9 e9 => ?_)
            · have hA8 := hA7.same s0
              obtain ⟨ff, fs1, hiS, _⟩ := id hA8
              refine ⟨_, rfl, a, _, rfl, hiS, rfl, _, rfl, a, .int (p.1 : Int), F, h, rfl, hA8, ok, so', by omega, .inr (.inr ⟨i, p, hp, rfl, asc, .inr ⟨hh, fun H9 sb tk9 hA9 => hQ .non H9 ?_⟩⟩)⟩
              obtain ⟨hO9, R9⟩ := two_sheet hA8 (hO7.same s0) (R7.same s0) sb tk9
              exact ⟨rfl, hA9, hO9, R9, tabs_sheet (T7.ext s0) hA8 sb, (E7.trans (Ex.same s0)).trans (sb.ex.mono (by simp)), sb _ _ (fun z => sheet_noL hA8 _ z _ (s0 _ _ eL7)) (s0 _ _ eL7)⟩
            · subst ev
              have eL9 := s9 _ _ eL8
              refine ⟨_, rfl, Nat.zero_le _, fun u nu => upd_gen nu fun Ha sa ea => ?_⟩
              refine ⟨.list [], .list [], .lst (SqL.of (sa _ _ eL9)) .nil, .lst (SqL.of ea) .nil, rfl, rfl, _, rfl, iteF ⟨_, rfl, _, rfl, one_sz, fun u1 m1 => upd_gen m1 fun Hb sb1 eb => ?_⟩⟩
              have s8b := s9.trans (sa.trans sb1)
              have hAb := hA8.same s8b
              have hOb := hO8.same s8b
              have Rb := R8.same s8b
              have Tb := T8.ext s8b
              have Eb := E8.trans (Ex.same s8b)
              have e9b := (sa.trans sb1) _ _ e9
              refine ⟨o, u1, F, h, [p.1], (· ≠ g), rfl, hOb, eb, by omega, ls, fresh_g Rb, fun Hc sc tkc hOc => ?_⟩
              obtain ⟨hAc, Rc⟩ := two_own hAb hOb Rb sc tkc
              have Tc := tabs_own Tb hOb sc
              have Ec := Eb.trans (sc.ex.mono (by simp))
              have e9c := sc _ _ (fun z => own_noL hOb _ z _ e9b) e9b
              refine ⟨_, rfl, one_sz, fun u2 m2 => upd_gen m2 fun Hd sd ed => ⟨.list [.none], .list [.none], .lst (SqL.of (sd _ _ e9c)) (.cons .non .nil), .lst (SqL.of ed) (.cons .non .nil), rfl, rfl, ?_⟩⟩
              have sl := sok_without so' [p.1]
              have ll : (without h.now.row [p.1]).length ≤ h.now.row.length := List.length_filter_le _ _
              exact q_ Hd _ _ (Ec.trans (Ex.same sd)) (Tc.ext sd) (Rc.same sd) (by omega) (hAc.same sd) (hOc.same sd) (hb.grow sl (by show (without h.now.row [p.1]).length ≤ n + 1; omega) (by show h.now.cnt ≤ n + 1; omega))
      · rw [decide_eq_false c7]
        obtain ⟨ff, fs1, hiS, _⟩ := id hA2
        refine iteF ⟨_, rfl, rfl, _, rfl, ite2 (fun _ => ?_) (fun _ => ?_)⟩
        · rcases List.eq_nil_or_concat h.past with ep | ⟨pl, sl, ep⟩
          · refine ⟨_, rfl, a, _, rfl, hiS, rfl, a, F, h, rfl, hA2, ok, hb.ok, by omega, by omega, .inl ⟨ep, fun H3 s3 => ⟨_, rfl, o, F, h, (· ≠ g), true, rfl, hO2.same s3, ok, hb.ok, by omega, by omega, fresh_g (R2.same s3), .inl ⟨ep, fun H4 s4 => ⟨.bl false, .bl false, .bool false, rfl, .bl _, .bl _, (sz_bool _).mono (by decide), ?_⟩⟩⟩⟩⟩
            have s34 := s3.trans s4
            exact q_ H4 h _ (E2.trans (Ex.same s34)) (T2.ext s34) (R2.same s34) (by omega) (hA2.same s34) (hO2.same s34) (hb.mono (Nat.le_succ n))
          · have ep : h.past = pl ++ [sl] := by rw [ep, List.concat_eq_append]
            refine ⟨_, rfl, a, _, rfl, hiS, rfl, a, F, h, rfl, hA2, ok, hb.ok, by omega, by omega, .inr ⟨pl, sl, ep, fun H3 s3 t3 hA3 => ?_⟩⟩
            obtain ⟨hO3, R3⟩ := two_sheet hA2 hO2 R2 s3 t3
            refine ⟨_, rfl, o, F, h, (· ≠ g), true, rfl, hO3, ok, hb.ok, by omega, by omega, fresh_g R3, .inr ⟨pl, sl, ep, fun H4 s4 t4 hO4 => ⟨.bl true, .bl true, .bool true, rfl, .bl _, .bl _, (sz_bool _).mono (by decide), ?_⟩⟩⟩
            obtain ⟨hA4, R4⟩ := two_own hA3 hO3 R3 s4 t4
            exact q_ H4 _ _ ((E2.trans (s3.ex.mono (by simp))).trans (s4.ex.mono (by simp))) (tabs_own (tabs_sheet T2 hA2 s3) hO3 s4) R4 (by omega) hA4 hO4 ((hb.back ep).mono (Nat.le_succ n))
        · cases ep : h.fut with
          | nil =>
            refine ⟨_, rfl, a, _, rfl, hiS, rfl, a, F, h, rfl, hA2, ok, hb.ok, by omega, by omega, .inl ⟨ep, fun H3 s3 => ⟨_, rfl, o, F, h, (· ≠ g), false, rfl, hO2.same s3, ok, hb.ok, by omega, by omega, fresh_g (R2.same s3), .inl ⟨ep, fun H4 s4 => ⟨.bl false, .bl false, .bool false, rfl, .bl _, .bl _, (sz_bool _).mono (by decide), ?_⟩⟩⟩⟩⟩
            have s34 := s3.trans s4
            exact q_ H4 h _ (E2.trans (Ex.same s34)) (T2.ext s34) (R2.same s34) (by omega) (hA2.same s34) (hO2.same s34) (hb.mono (Nat.le_succ n))
          | cons sl pl =>
            refine ⟨_, rfl, a, _, rfl, hiS, rfl, a, F, h, rfl, hA2, ok, hb.ok, by omega, by omega, .inr ⟨pl, sl, ep, fun H3 s3 t3 hA3 => ?_⟩⟩
            obtain ⟨hO3, R3⟩ := two_sheet hA2 hO2 R2 s3 t3
            refine ⟨_, rfl, o, F, h, (· ≠ g), false, rfl, hO3, ok, hb.ok, by omega, by omega, fresh_g R3, .inr ⟨pl, sl, ep, fun H4 s4 t4 hO4 => ⟨.bl true, .bl true, .bool true, rfl, .bl _, .bl _, (sz_bool _).mono (by decide), ?_⟩⟩⟩
            obtain ⟨hA4, R4⟩ := two_own hA3 hO3 R3 s4 t4
            exact q_ H4 _ _ ((E2.trans (s3.ex.mono (by simp))).trans (s4.ex.mono (by simp))) (tabs_own (tabs_sheet T2 hA2 s3) hO3 s4) R4 (by omega) hA4 hO4 ((hb.forth ep).mono (Nat.le_succ n))
end
end XB
set_option Elab.async false
set_option linter.all false
set_option maxRecDepth 100000
set_option maxHeartbeats 4000000
namespace XB
open PySem PySem.Spec PyProof.Rows L2
/-! a step that is not held, taken back behind all -/
theorem hold_free {F : Fld} {x : Str} : ∀ {r : List Itm}, holdN F [x] r = [] → ∀ y ∈ r, (OF F).tc x y.2.1 = false
  | [], _, y, hy => nomatch hy
  | p :: r, h, y, hy => by
    have e : holdN F [x] (p :: r) = if [x].any (fun x => (OF F).tc x p.2.1) then p.1 :: holdN F ([x] ++ [p.2.1]) r else holdN F [x] r := rfl
    rw [e] at h
    by_cases c : ([x].any fun x => (OF F).tc x p.2.1) = true
    · rw [if_pos c] at h
      cases h
    · rw [if_neg c] at h
      rcases List.mem_cons.mp hy with q | q
      · rw [q]
        simpa using c
      · exact hold_free h y q
theorem without_one {row : List Itm} {i : Nat} {p : Itm} (asc : (row.map Prod.fst).Pairwise (· < ·)) (hp : row[i]? = some p) : without row [p.1] = row.take i ++ row.drop (i + 1) := by
  obtain ⟨hi, ei⟩ := List.getElem?_eq_some_iff.mp hp
  have e : row = row.take i ++ (p :: row.drop (i + 1)) := by
    rw [← ei, ← List.drop_eq_getElem_cons hi, List.take_append_drop]
  have keep : ∀ (l : List Itm), (∀ q ∈ l, ∃ j, j ≠ i ∧ row[j]? = some q) → l.filter (fun q => !([p.1] : List Nat).contains q.1) = l := fun l hl => List.filter_eq_self.mpr fun q hq => by
    obtain ⟨j, hj, ej⟩ := hl q hq
    have := asc_ne asc hp ej hj
    simp [this]
  unfold without
  conv => lhs; rw [e]
  rw [List.filter_append, List.filter_cons]
  have hp1 : (!([p.1] : List Nat).contains p.1) = false := by simp
  rw [hp1, if_neg Bool.false_ne_true, keep, keep]
  · intro q hq
    obtain ⟨k, hk, ek⟩ := List.mem_iff_getElem.mp hq
    rw [List.length_drop] at hk
    refine ⟨i + 1 + k, by omega, ?_⟩
    rw [← ek, List.getElem_drop]
    exact List.getElem?_eq_getElem (by omega)
  · intro q hq
    obtain ⟨k, hk, ek⟩ := List.mem_iff_getElem.mp hq
    rw [List.length_take] at hk
    refine ⟨k, by omega, ?_⟩
    rw [← ek, List.getElem_take]
    exact List.getElem?_eq_getElem (by omega)
/-- its taking back behind all is as if it were left out -/
theorem taken_alike {F : Fld} {row : List Itm} {i : Nat} {p : Itm} (hz : ∀ q ∈ row, q.2.2 ≠ 0) (asc : (row.map Prod.fst).Pairwise (· < ·)) (hp : row[i]? = some p) (hh : holdAt F row i = []) :
    XM.act (OF F) (row.map Prod.snd ++ XM.back [p.2]) [] = XM.act (OF F) ((without row [p.1]).map Prod.snd) [] := by
  obtain ⟨hi, ei⟩ := List.getElem?_eq_some_iff.mp hp
  have e : row = row.take i ++ (p :: row.drop (i + 1)) := by
    rw [← ei, ← List.drop_eq_getElem_cons hi, List.take_append_drop]
  have hf : ∀ y ∈ row.drop (i + 1), (OF F).tc p.2.1 y.2.1 = false := by
    unfold holdAt at hh
    rw [hp] at hh
    exact hold_free hh
  rw [without_one asc hp, List.map_append]
  conv => lhs; rw [e]
  rw [List.map_append, List.map_cons, List.append_assoc, List.cons_append]
  have zA : XM.NZ ((row.take i).map Prod.snd) := fun x hx => by
    obtain ⟨q, hq, rfl⟩ := List.mem_map.mp hx
    exact hz q (List.mem_of_mem_take hq)
  have zB : XM.NZ ((row.drop (i + 1)).map Prod.snd) := fun x hx => by
    obtain ⟨q, hq, rfl⟩ := List.mem_map.mp hx
    exact hz q (List.mem_of_mem_drop hq)
  have zp : p.2.2 ≠ 0 := hz p (List.mem_of_getElem? hp)
  rw [← XM.act_move (O := OF F) (x := p.2) (v := XM.back [p.2]) (fun w hw => by
    obtain ⟨q, hq, rfl⟩ := List.mem_map.mp hw
    rw [(OF F).symm]
    exact hf q hq) zA zB (show XM.NF (OF F) [] from trivial)]
  have e2 : (row.take i).map Prod.snd ++ ((row.drop (i + 1)).map Prod.snd ++ p.2 :: XM.back [p.2]) = ((row.take i).map Prod.snd ++ (row.drop (i + 1)).map Prod.snd) ++ ([p.2] ++ XM.back [p.2]) := by simp
  rw [e2, XM.act_app, XM.act_app]
  have zAB : XM.NZ ((row.take i).map Prod.snd ++ (row.drop (i + 1)).map Prod.snd) := zA.app zB
  have z1 : XM.NZ ([p.2] : List Stp) := fun x hx => by
    rw [List.mem_singleton.mp hx]
    exact zp
  exact XM.act_back z1 (XM.nf_act zAB trivial)
section
variable {P : Program} {w : World} {K : PySem.W.Frag} {mg : Str → Option Value} {base : Heap}
def spAlike (K : PySem.W.Frag) (mg : Str → Option Value) : Sp := fun vs H Q _ => ∃ (a o : Addr) (F : Fld) (h : Sh) (N : Addr → Prop), vs = [.ref a, .ref o] ∧ SheetAt K mg H a F h ∧ OwnAt K H o F h N ∧ F.Ok ∧ SOk F h.now ∧ h.now.row.length < 60 ∧ ∀ H', Same H H' → Q (.bl true) H'
theorem c__law_alike (T : Tx K mg) : Cl P w K mg base CX0 8 "_law_alike" (spAlike K mg) := by
  refine cl0 T.d__law_alike (ps := ["sheet", "own"]) (fun _ _ _ _ _ _ us hl => match us, hl with | [_, _], _ => rfl) sc__law_alike (fun vs H Q E h => ?_) (fun f cdv A outer st H vs Q E hr h => ?_)
  · obtain ⟨a, o, F, h, N, rfl, _⟩ := h
    rfl
  · obtain ⟨a, o, F, h, N, rfl, hA, hO, ok, so, l59, q_⟩ := h
    have nd := sc__law_alike.nd
    have hu := hu_of hr
    refine ⟨_, (pss_cons (ps_set (i := 2) nd rfl (.inl rfl) (pe_ix (ixk_tup (K := K) rfl) (pe_dget hu (pv 1) pe_str (fun _ _ => rfl)) pe_int (fun _ _ => rfl)))
    (pss_cons (ps_for PassesOwn.never rfl (pi_tup (pv 2)) (pg_tup rfl (pgs_cons (pg_name (i := 3) nd rfl (.inr rfl)) (pgs_cons (pg_name (i := 4) nd rfl (.inl rfl)) pgs_nil)))
    (pss_one (ps_if (pt_cmpR (op_eqD hr.units) (pe_k (c__law_held T) hr (by decide) (by rfl) (pa_cons (pv 1) (pa_cons (pv 3) pa_nil))) (pe_lst pa_nil) (nomark _)) (pss_cons (ps_set (i := 5) nd rfl (.inl rfl) (pe_tupleOf (by rfl) T.b_tuple (pe_lc (own := [("pair", 6)]) (g := (gName 6)) (tt := _) (by rfl) nd (pi_tup (pv 2)) (blkOk_by (own := [("pair", 6)]) (N := ["sheet", "own", "row", "number", "step", "rest", "pair"]) (sc := defScope s__law_alike) (by decide +kernel)) (fun _ _ _ _ _ => (pg_name (i := 6) nd rfl (by first | exact Or.inl rfl | exact Or.inr rfl))) (fun _ _ _ _ _ => pts_one (pt_cmpR op_ne (pe_ix (ixk_tup (K := K) rfl) (pv 6) pe_int (fun _ _ => rfl)) (pv 3) (nomark _))) (fun _ _ _ _ _ => (pe_ix (ixk_tup (K := K) rfl) (pv 6) pe_int (fun _ _ => rfl))))))
    (pss_one (ps_if (pt_not (pt_val (pe_k (c_are_alike T F) hr (by decide) (by rfl) (pa_cons (pe_dget hu (pv 1) pe_str (fun _ _ => rfl)) (pa_cons (pe_op (op_catAk (K := K) rfl) (pe_ptO T.o_Sheet (c_Sheet_steps T) (pv 0) hr (by decide) (E := E0) passL rfl) (pe_k (c__law_back3 T) hr (by decide) (by rfl) (pa_cons (pe_tup (pa_cons (pv 4) pa_nil)) pa_nil))) (pa_cons (pv 5) pa_nil)))))) pss_never pss_nil))) pss_nil)))
    (pss_one (ps_ret pe_bl)))), ?_⟩
    --@
    obtain ⟨f1, n, ap, aq, ps, qs, e, h1, h2, h3, h4, h5, h6, h7, h8⟩ := id hO
    obtain ⟨_, ra, ee, g7, g8⟩ := h2.ss
    cases ee
    obtain ⟨_, xs, ee, hX, hV⟩ := g8.row
    cases ee
    have lx := hV.len
    rw [List.length_map] at lx
    refine ⟨_, rfl, o, .ref n, rfl, DGet.k (k := .inr "now") e, ix0 g7 ⟨_, rfl, ra, rfl, ⟨_, hX⟩, ?_⟩⟩
    have ls := so.len
    refine for_it (walk_tup (xs := xs)) (fun j σ H' => ∃ (y3 y4 y5 y6 : Option V), σ = [some (.ref a), some (.ref o), some (.ref ra), y3, y4, y5, y6] ∧ Same H H') ⟨_, _, _, _, rfl, Same.refl H⟩ (fun j σ H4 hj ⟨y3, y4, y5, y6, eσ, s4⟩ => (Tk.of s4).sqT hX) (fun j x σ H4 H5 hj ⟨y3, y4, y5, y6, eσ, s4⟩ hy => ?_) (fun σ H4 ⟨y3, y4, y5, y6, eσ, s4⟩ => ?_)
    · obtain ⟨rfl, hx⟩ := hy
      subst eσ
      obtain ⟨d, g1, p1⟩ := hV.get hx
      rw [List.getElem?_map] at g1
      obtain ⟨p, k1, rfl⟩ := Option.map_eq_some_iff.mp g1
      obtain ⟨ta, tb, rfl, b1, b2⟩ := (Dp.sm s4 _ p1).itm
      have gp := so.good p (List.mem_of_getElem? k1)
      refine ⟨_, _, rfl, b1, rfl, _, _, rfl, _, _, rfl, rfl, ?_⟩
      refine ⟨_, rfl, _, rfl, o, F, h, N, j, p, rfl, hO.same s4, ok, so, k1, fun H6 L s6 nL eL => ⟨Nat.zero_le _, fun z nz => upd_gen nz fun H7 s7 e7 => ?_⟩⟩
      have s57 := s6.trans s7
      have s07 := s4.trans s57
      have shl : SeqAt.shaped (.list ((holdAt F h.now.row j).map fun k : Nat => PyData.int (k : Int))) = true := sh_nums _
      refine ⟨_, _, .lst (SqL.of (s7 _ _ eL)) (dp_nums _), .lst (SqL.of e7) .nil, shl, rfl, ?_⟩
      have eE : PyData.eqv (.list ((holdAt F h.now.row j).map fun n : Nat => PyData.int (n : Int))) (.list []) = (holdAt F h.now.row j).isEmpty := by
        cases holdAt F h.now.row j <;> rfl
      rw [eE]
      cases hh : holdAt F h.now.row j with
      | cons k rest => exact ⟨_, rfl, iteF ⟨_, _, _, _, rfl, s07⟩⟩
      | nil =>
        refine ⟨_, rfl, iteT ⟨_, rfl, _, rfl, ⟨_, (Tk.of s07).sqT hX⟩, fun D hD => ?_⟩⟩
        refine lc_it (walk_tup (xs := xs)) (fun i H' => ∃ ys, H' D = some (.lst ys) ∧ DpAll K H' ys ((without (h.now.row.take i) [p.1]).map fun q => dStep q.2) ∧ Same H7 H') ⟨[], upd_same, .nil, same_upd hD⟩ (fun _ _ _ ⟨_, _, _, s'⟩ => (Tk.of (s07.trans s')).sqT hX) (fun i x H2 H3 hi ⟨ys, eD, hY, s'⟩ hy => ?_) (fun H2 ⟨ys, eD, hY, s'⟩ => ?_)
        · obtain ⟨rfl, hx⟩ := hy
          obtain ⟨d, g1, p1⟩ := hV.get hx
          rw [List.getElem?_map] at g1
          obtain ⟨q, kq, rfl⟩ := Option.map_eq_some_iff.mp g1
          obtain ⟨tc, td, rfl, c1, c2⟩ := (Dp.sm (s07.trans s') _ p1).itm
          have et : without (h.now.row.take (i + 1)) [p.1] = without (h.now.row.take i) [p.1] ++ if !([p.1] : List Nat).contains q.1 then [q] else [] := by
            unfold without
            rw [take_snoc kq, List.filter_append]
            congr 1
            rw [List.filter_cons, List.filter_nil]
          have ly := hY.len
          have lw : (without (h.now.row.take i) [p.1]).length ≤ 60 := by
            unfold without
            have := List.length_filter_le (fun q => !([p.1] : List Nat).contains q.1) (h.now.row.take i)
            rw [List.length_take] at this
            omega
          rw [List.length_map] at ly
          refine ⟨rfl, _, rfl, ix0 c1 ⟨_, rfl, rfl, _, rfl, ?_⟩⟩
          have eN : (!decide (V.int (q.1 : Int) = V.int (p.1 : Int))) = !([p.1] : List Nat).contains q.1 := by
            congr 1
            rw [List.contains_cons]
            have : ([] : List Nat).contains q.1 = false := rfl
            rw [this, Bool.or_false]
            by_cases z : q.1 = p.1
            · rw [z]
              simp
            · rw [beq_eq_false_iff_ne.mpr z, decide_eq_false]
              intro w
              injection w with w
              omega
          rw [eN, et]
          cases hc : (!([p.1] : List Nat).contains q.1)
          · refine iteF ⟨ys, eD, ?_, s'⟩
            rw [if_neg Bool.false_ne_true, List.append_nil]
            exact hY
          · refine iteT ⟨_, rfl, ix1 c1 ⟨_, eD, small1000 (by omega), _, upd_same, ?_, same_put s' hD⟩⟩
            rw [if_pos rfl, List.map_append]
            have tt : Tk H3 (upd H3 D (.lst (ys ++ [.ref td]))) := Tk.refl.lst eD
            exact (DpAll.tk tt _ (flatAll_of fun d hd => by obtain ⟨z, _, rfl⟩ := List.mem_map.mp hd; rfl) hY).app (.cons (Dp.of_step (s := q.2) (tt.sqT c2)) .nil)
        rw [List.take_of_length_le (by omega)] at hY
        refine .inl ⟨D, ys, rfl, SqL.of eD, fun rt nt => upd_gen nt fun H8 s8 e8 => ?_⟩
        have s78 := s'.trans s8
        have s08 := s07.trans s78
        have hR : Dp K H8 (.ref rt) (dSteps ((without h.now.row [p.1]).map Prod.snd)) := by
          refine .tup (SqT.of e8) ?_
          rw [List.map_map]
          exact DpAll.sm s8 _ hY
        have hA8 := hA.same s08
        obtain ⟨ff, fs1, hiS, _⟩ := id hA8
        refine ⟨_, rfl, o, .ref f1, rfl, DGet.k (k := .inr "field") (s08 _ _ e), _, rfl, a, _, rfl, hiS, a, F, h, rfl, hA8, by omega, fun H9 st s9 hst => ?_⟩
        have b29 := (Tk.of (s57.trans (s78.trans s9))).sqT b2
        refine ⟨_, rfl, one_sz, fun u nu => upd_gen nu fun Ha sa ea => ⟨u, [p.2], rfl, .tup (SqT.of ea) (.cons (Dp.of_step (s := p.2) ((Tk.of sa).sqT b29)) .nil), by show 1 ≤ 500; decide, fun Hb bk sb hbk => ?_⟩⟩
        have lb : (XM.back [p.2]).length = 1 := rfl
        refine catD (Dp.sm (sa.trans sb) _ hst) hbk (by rw [List.length_map, lb]; omega) fun Hc w sc hw => ?_
        have s9c := sa.trans (sb.trans sc)
        have s8c := s9.trans s9c
        have gd : GoodAll F (h.now.row.map Prod.snd) := fun x hx => by
          obtain ⟨q, hq, rfl⟩ := List.mem_map.mp hx
          exact so.good q hq
        have gd2 : GoodAll F ((without h.now.row [p.1]).map Prod.snd) := fun x hx => by
          obtain ⟨q, hq, rfl⟩ := List.mem_map.mp hx
          exact so.good q (List.mem_filter.mp hq).1
        have lw2 : (without h.now.row [p.1]).length ≤ h.now.row.length := List.length_filter_le _ _
        refine ⟨_, rfl, h.now.row.map Prod.snd ++ XM.back [p.2], (without h.now.row [p.1]).map Prod.snd, ⟨f1, w, rt, rfl, Dp.sm (s08.trans s8c) _ h1, ok, hw, ⟨by rw [List.length_append, List.length_map, lb]; omega, gd.app (good_back (GoodAll.one gp))⟩, Dp.sm s8c _ hR, ⟨by rw [List.length_map]; omega, gd2⟩⟩, fun Hd sd => ?_⟩
        rw [taken_alike (fun q hq => (so.good q hq).2.1) so.asc k1 hh, decide_eq_true rfl]
        exact ⟨_, rfl, iteF ⟨_, _, _, _, rfl, (s08.trans s8c).trans sd⟩⟩
    · subst eσ
      exact q_ _ s4
end
end XB
set_option Elab.async false
set_option linter.all false
set_option maxRecDepth 100000
set_option maxHeartbeats 4000000
namespace XB
open PySem PySem.Spec PyProof.Rows L2
/-! the script stands while sheets are written -/
section
variable {K : PySem.W.Frag} {mg : Str → Option Value} {H H' : Hp} {a o m c g l : Addr} {F : Fld} {h h2 : Sh} {N : Addr → Prop} {s : Int} {xs : List V}
def Scr (K : PySem.W.Frag) (H : Hp) (l g : Addr) (xs : List V) : Prop := (Rd H l (.lst xs) ∧ l ≠ g) ∨ ∀ H', SqL K H' l xs
theorem Scr.seq (w : Scr K H l g xs) : SqL K H l xs := by
  rcases w with w | w
  · exact .inl w.1
  · exact w H
theorem Scr.of (w : SqL K H l xs) (n : l ≠ g) : Scr K H l g xs := by
  rcases w with w | w
  · exact .inl ⟨w, n⟩
  · exact .inr fun H' => .inr w
theorem Scr.ofN {H0 : Hp} (w : SqL K H0 l xs) (s : Same H0 H) (n : H0 g = none) : Scr K H l g xs := by
  rcases w with w | w
  · refine .inl ⟨?_, fun z => ?_⟩
    · rcases w with w | ⟨q, w⟩
      · exact .inl (s _ _ w)
      · exact .inr ⟨q, s _ _ w⟩
    · rcases w with w | ⟨q, w⟩ <;> (rw [z, n] at w; cases w)
  · exact .inr fun H' => .inr w
theorem Scr.ex {A : List Addr} (w : Scr K H l g xs) (x : Ex A H H') (n : ∀ b ∈ A, b ≠ g → (∀ ys, H b ≠ some (.lst ys)) ∧ ∀ q u, H b ≠ some (.frz q u)) : Scr K H' l g xs := by
  rcases w with ⟨w, ne⟩ | w
  · refine .inl ⟨?_, ne⟩
    rcases w with w | ⟨q, w⟩
    · exact .inl (x _ _ (fun z => (n _ z ne).1 _ w) w (fun _ q => nomatch q))
    · exact .inr ⟨q, x _ _ (fun z => (n _ z ne).2 _ _ w) w (fun _ q => nomatch q)⟩
  · exact .inr w
theorem sheet_plain (hA : SheetAt K mg H a F h) : (∀ ys, H a ≠ some (.lst ys)) ∧ ∀ q u, H a ≠ some (.frz q u) := by
  obtain ⟨f, st, ⟨C, dx, hC, ea⟩, _⟩ := hA
  rw [ea]
  exact ⟨fun _ q => (nomatch q), fun _ _ q => (nomatch q)⟩
theorem own_plain (w : OwnAt K H o F h N) : (∀ ys, H o ≠ some (.lst ys)) ∧ ∀ q u, H o ≠ some (.frz q u) := by
  obtain ⟨f', nw, p, q, ps, qs, eo, _⟩ := w
  rw [eo]
  exact ⟨fun _ q => (nomatch q), fun _ _ q => (nomatch q)⟩
theorem draw_plain (R : Dr H m c g s) : (∀ ys, H m ≠ some (.lst ys)) ∧ ∀ q u, H m ≠ some (.frz q u) := by
  obtain ⟨⟨cs, gs, em, _⟩, _⟩ := R
  rw [em]
  exact ⟨fun _ q => (nomatch q), fun _ _ q => (nomatch q)⟩
theorem Scr.same (w : Scr K H l g xs) (x : Same H H') : Scr K H' l g xs := w.ex (A := []) (Ex.same x) fun _ q => nomatch q
theorem Scr.kp (w : Scr K H l g xs) (R : Dr H m c g s) (k : Kp m g H H') : Scr K H' l g xs := w.ex (Sb.kp k).ex fun b hb nb => by
  rcases List.mem_cons.mp hb with z | hb
  · rw [z]
    exact draw_plain R
  · exact absurd (List.mem_singleton.mp hb) nb
theorem Scr.sheet (w : Scr K H l g xs) (hA : SheetAt K mg H a F h) (x : Sb [a] H H') : Scr K H' l g xs := w.ex x.ex fun b hb _ => by
  rw [List.mem_singleton.mp hb]
  exact sheet_plain hA
theorem Scr.own (w : Scr K H l g xs) (hO : OwnAt K H o F h N) (x : Sb [o] H H') : Scr K H' l g xs := w.ex x.ex fun b hb _ => by
  rw [List.mem_singleton.mp hb]
  exact own_plain hO
theorem Scr.all (w : Scr K H l g xs) (hA : SheetAt K mg H a F h) (hO : OwnAt K H o F h2 N) (R : Dr H m c g s) (x : Ex [a, o, m, g] H H') : Scr K H' l g xs := w.ex x fun b hb nb => by
  simp only [List.mem_cons, List.not_mem_nil, or_false] at hb
  rcases hb with z | z | z | z
  · rw [z]
    exact sheet_plain hA
  · rw [z]
    exact own_plain hO
  · rw [z]
    exact draw_plain R
  · exact absurd z nb
end
def F3 : Fld := ⟨["a", "b", "c"], [("a", "b")]⟩
theorem ok3 : F3.Ok := by
  have h : ∀ n ∈ F3.names, 1 ≤ n.length ∧ n.length ≤ 6 ∧ ∀ c ∈ n.cps.toList, 97 ≤ c ∧ c ≤ 122 := by decide +kernel
  have h2 : F3.names.Pairwise fun a b => sLt a b = true := by
    refine List.Pairwise.cons (fun x hx => ?_) (List.Pairwise.cons (fun x hx => ?_) (List.Pairwise.cons (fun x hx => nomatch hx) List.Pairwise.nil))
    · rcases List.mem_cons.mp hx with z | z
      · rw [z]
        decide +kernel
      · rw [List.mem_singleton.mp z]
        decide +kernel
    · rw [List.mem_singleton.mp hx]
      decide +kernel
  have h3 : ∀ p ∈ F3.pairs, sLt p.1 p.2 = true := fun p hp => by
    rw [List.mem_singleton.mp hp]
    decide +kernel
  have h4 : ∀ p ∈ F3.pairs, p.1 ∈ F3.names ∧ p.2 ∈ F3.names := fun p hp => by
    rw [List.mem_singleton.mp hp]
    decide +kernel
  exact { n0 := by decide, n6 := by decide, asc := h3, inN := h4, sgn := h, asN := h2, asP := List.pairwise_singleton _ _, len := by decide }
/-- the new sheet -/
theorem shB0 (F : Fld) : ShB F ⟨⟨[], 0⟩, [], []⟩ 0 := by
  refine ⟨⟨⟨fun _ h => (nomatch h), List.Pairwise.nil, fun _ h => (nomatch h), by decide, by decide⟩, fun _ h => (nomatch h), fun _ h => (nomatch h)⟩, ⟨Nat.le_refl 0, Nat.le_refl 0⟩, fun _ h => (nomatch h), fun _ h => (nomatch h), Nat.le_refl 0, rfl⟩
theorem ShB.begin {F : Fld} {h : Sh} {n : Nat} (b : ShB F h n) (e : h.past = []) : h.now = ⟨[], 0⟩ := by
  have o := b.org
  rw [e] at o
  exact Option.some.inj o
def RH : List Itm := [(0, ("a", 1)), (1, ("b", 2)), (2, ("c", 1)), (3, ("b", -1))]
theorem soH : SOk F3 ⟨RH, 4⟩ := by
  have hg : ∀ p ∈ RH, p.2.1 ∈ F3.names ∧ (p.2.2 ≠ 0 ∧ -(10 ^ 30) ≤ p.2.2 ∧ p.2.2 ≤ 10 ^ 30) := by decide +kernel
  exact ⟨hg, by decide +kernel, by decide +kernel, by decide, by decide⟩
theorem five_sz : 5 ≤ sizeLine := by decide
theorem ten_sz : 10 ≤ sizeLine := by decide
theorem hold0 : holdAt F3 RH 0 = [2, 3] := by decide +kernel
theorem hold1 : holdAt F3 RH 1 = [2, 3] := by decide +kernel
theorem hold2 : holdAt F3 RH 2 = [3] := by decide +kernel
theorem freeH : freeN F3 RH 4 = [3] := by decide +kernel
theorem withoutH : without RH [3, 2, 0] = ([(1, ("b", 2))] : List Itm) := by decide +kernel
theorem do_shaped {x : Str} {z : Int} (mx : x ∈ F3.names) (gz : GoodTimes z) : SeqAt.shaped (dStep (x, z)) = true := (okd_step (ok3.sgn _ mx) (good_abs gz).2).shaped (by decide)
theorem do_right {x : Str} {z : Int} (mx : x ∈ F3.names) (gz : GoodTimes z) : stepD F3.names (dStep (x, z)) = true := step_right (ns := F3.names) (s := (x, z)) mx gz
section
variable {P : Program} {w : World} {K : PySem.W.Frag} {mg : Str → Option Value} {base : Heap}
def spLawT (K : PySem.W.Frag) (t1 : Addr) : Sp := fun vs H Q _ => ∃ (a : Addr) (ns : List Int), vs = [.ref a] ∧ SqL K H a (ns.map V.int) ∧ ns.length ≤ 1000 ∧ H t1 = some (.tbl #[]) ∧ ∀ H', Q (.bl true) H'
theorem fg_lawT (T : Tx K mg) {fl : Addr} {fd : FuncData} (FL : Fun K "law" "law" s_law fl fd) {c1 t1 : Addr} (CS : CodeT K mg base "_law_step" c1 t1) : FnG P w K mg base CX0 10 fl fd ["script"] (spLawT K t1) := by
  refine fg0 FL sc_law (fun vs H Q E h => ?_) (fun fa cdv A outer st H vs Q E hgu hr h => ?_)
  · obtain ⟨a, ns, rfl, _⟩ := h
    rfl
  · obtain ⟨l, ns, rfl, hS, hl, hT1, q_⟩ := h
    have nd := sc_law.nd
    have hu := hu_of hr
    have hmT : (t1, qStep) ∈ [(t1, qStep)] := List.mem_cons_self
    have huT : ∀ y ∈ [(t1, qStep)], y.1 = t1 → y.2 = qStep := fun y hy _ => by rw [List.mem_singleton.mp hy]
    have hTT : LamX.Tabs [(t1, qStep)] H := fun y hy => by
      rw [List.mem_singleton.mp hy]
      exact LamX.TabS.nil hT1
    generalize [(t1, qStep)] = TT at hmT huT hTT
    refine ⟨_, (pss_cons (ps_set (i := 1) nd rfl (.inl rfl) (pe_k (c_begun T) hr (by decide) (by rfl) (pa_cons (pv 0) pa_nil)))
    (pss_cons (ps_for PassesOwn.never rfl (pi_range1 (by rfl) T.b_range (pa_cons pe_int pa_nil)) (pg_name (i := 2) nd rfl (.inl rfl))
    (pss_cons (ps_set (i := 3) nd rfl (.inl rfl) (pe_k (c__law_own T) hr (by decide) (by rfl) (pa_cons (pe_k (c__law_field3 T) hr (by decide) (by rfl) (pa_cons (pv 1) (pa_cons pe_int pa_nil))) pa_nil)))
    (pss_cons (ps_set (i := 4) nd rfl (.inl rfl) (pe_mkO T.o_Sheet (c_Sheet_init T) hr (by decide) (by rfl) (E := E0) passL (pa_cons (pe_dget hu (pv 3) pe_str (fun _ _ => rfl)) pa_nil)))
    (pss_cons (ps_if (pt_not (pt_val (pe_g (c__law_stands T) hgu hr (by decide) (by rfl) (pa_cons (pv 4) (pa_cons (pv 3) pa_nil))))) pss_never pss_nil)
    (pss_cons (ps_for PassesOwn.never rfl (pi_range1 (by rfl) T.b_range (pa_cons (pe_op op_add pe_int (pe_callB (call_min2 rfl) (by rfl) T.b_min (by decide +kernel) (pa_cons pe_int (pa_cons (pe_lenS (by rfl) T.b_len (pv 0)) pa_nil)))) pa_nil)) (pg_name (i := 5) nd rfl (.inl rfl))
    (pss_one (ps_if (PW.pt (pw_or (pt_not (pt_val (pe_g (c__law_step T CS hmT huT) hgu hr (by decide) (by rfl) (pa_cons (pv 1) (pa_cons (pv 4) (pa_cons (pv 3) pa_nil)))))) (pw_or1 (pt_not (pt_val (pe_g (c__law_stands T) hgu hr (by decide) (by rfl) (pa_cons (pv 4) (pa_cons (pv 3) pa_nil)))))))) pss_never pss_nil)))
    (pss_cons (ps_if (pt_not (pt_val (pe_k (c__law_alike T) hr (by decide) (by rfl) (pa_cons (pv 4) (pa_cons (pv 3) pa_nil))))) pss_never pss_nil)
    (pss_cons (ps_while PassesOwn.never (pt_val (pe_k (c__law_shift T) hr (by decide) (by rfl) (pa_cons (pv 3) (pa_cons pe_str (pa_cons pe_str pa_nil)))))
    (pss_one (ps_if (PW.pt (pw_or (pt_cmpR op_notBl (pe_mtO0 T.o_Sheet (c_Sheet_undo T) (pv 4) hr (by decide) (E := E0) passL) pe_bl (nomark _)) (pw_or1 (pt_not (pt_val (pe_g (c__law_stands T) hgu hr (by decide) (by rfl) (pa_cons (pv 4) (pa_cons (pv 3) pa_nil)))))))) pss_never pss_nil)))
    (pss_cons (ps_if (PW.pt (pw_or (pt_cmpR op_notBl (pe_mtO0 T.o_Sheet (c_Sheet_undo T) (pv 4) hr (by decide) (E := E0) passL) pe_bl (nomark _)) (pw_or1 (pt_cmpR op_ne (pe_callB (call_lenO (c_Sheet_len T) hr (by decide) (E := E0) passL) (by rfl) T.b_len (by decide +kernel) (pa_cons (pv 4) pa_nil)) pe_int (nomark _))))) pss_never pss_nil)
    (pss_cons (ps_while PassesOwn.never (pt_val (pe_k (c__law_shift T) hr (by decide) (by rfl) (pa_cons (pv 3) (pa_cons pe_str (pa_cons pe_str pa_nil)))))
    (pss_one (ps_if (pt_cmpR op_notBl (pe_mtO0 T.o_Sheet (c_Sheet_redo T) (pv 4) hr (by decide) (E := E0) passL) pe_bl (nomark _)) pss_never pss_nil)))
    (pss_one (ps_if (PW.pt (pw_or (pt_cmpR op_notBl (pe_mtO0 T.o_Sheet (c_Sheet_redo T) (pv 4) hr (by decide) (E := E0) passL) pe_bl (nomark _)) (pw_or1 (pt_not (pt_val (pe_g (c__law_stands T) hgu hr (by decide) (by rfl) (pa_cons (pv 4) (pa_cons (pv 3) pa_nil)))))))) pss_never pss_nil)))))))))))
    (pss_cons (ps_set (i := 6) nd rfl (.inl rfl) (pe_tup (pa_cons (pe_tup (pa_cons pe_str (pa_cons pe_str (pa_cons pe_str pa_nil)))) (pa_cons (pe_tup (pa_cons (pe_tup (pa_cons pe_str (pa_cons pe_str pa_nil))) pa_nil)) pa_nil))))
    (pss_cons (ps_set (i := 4) nd rfl (.inl rfl) (pe_mkO T.o_Sheet (c_Sheet_init T) hr (by decide) (by rfl) (E := E0) passL (pa_cons (pv 6) pa_nil)))
    (pss_cons (ps_set (i := 7) nd rfl (.inl rfl) (pe_lst (pa_cons (pe_mtO T.o_Sheet (c_Sheet_do T) (pv 4) hr (by decide) (E := E0) passL (pa_cons (pe_tup (pa_cons pe_str (pa_cons pe_int pa_nil))) pa_nil)) (pa_cons (pe_mtO T.o_Sheet (c_Sheet_do T) (pv 4) hr (by decide) (E := E0) passL (pa_cons (pe_tup (pa_cons pe_str (pa_cons pe_int pa_nil))) pa_nil)) (pa_cons (pe_mtO T.o_Sheet (c_Sheet_do T) (pv 4) hr (by decide) (E := E0) passL (pa_cons (pe_tup (pa_cons pe_str (pa_cons pe_int pa_nil))) pa_nil)) (pa_cons (pe_mtO T.o_Sheet (c_Sheet_do T) (pv 4) hr (by decide) (E := E0) passL (pa_cons (pe_tup (pa_cons pe_str (pa_cons (pe_un un_neg pe_int) pa_nil))) pa_nil)) (pa_cons (pe_mtO0 T.o_Sheet (c_Sheet_free T) (pv 4) hr (by decide) (E := E0) passL) pa_nil)))))))
    (pss_cons (ps_set (i := 7) nd rfl (.inl rfl) (pe_op op_cat (pv 7) (pe_lst (pa_cons (pe_mtO T.o_Sheet (c_Sheet_ahead_of T) (pv 4) hr (by decide) (E := E0) passL (pa_cons pe_int pa_nil)) (pa_cons (pe_mtO T.o_Sheet (c_Sheet_ahead_of T) (pv 4) hr (by decide) (E := E0) passL (pa_cons pe_int pa_nil)) (pa_cons (pe_mtO T.o_Sheet (c_Sheet_ahead_of T) (pv 4) hr (by decide) (E := E0) passL (pa_cons pe_int pa_nil)) (pa_cons (pe_mtO T.o_Sheet (c_Sheet_take_all T) (pv 4) hr (by decide) (E := E0) passL (pa_cons pe_int pa_nil)) (pa_cons (pe_ptO T.o_Sheet (c_Sheet_row T) (pv 4) hr (by decide) (E := E0) passL rfl) pa_nil))))))))
    (pss_one (ps_ret (pe_cmpR (op_eqD hr.units) (pv 7) (pe_lst (pa_cons pe_int (pa_cons pe_int (pa_cons pe_int (pa_cons pe_int (pa_cons (pe_tup (pa_cons pe_int pa_nil)) (pa_cons (pe_tup (pa_cons pe_int (pa_cons pe_int pa_nil))) (pa_cons (pe_tup (pa_cons pe_int (pa_cons pe_int pa_nil))) (pa_cons (pe_tup (pa_cons pe_int pa_nil)) (pa_cons (pe_tup (pa_cons pe_int (pa_cons pe_int (pa_cons pe_int pa_nil)))) (pa_cons (pe_tup (pa_cons (pe_tup (pa_cons pe_int (pa_cons (pe_tup (pa_cons pe_str (pa_cons pe_int pa_nil))) pa_nil))) pa_nil)) pa_nil))))))))))) (nomark _)))))))))), ?_⟩
    --@
    refine ⟨_, rfl, l, ns, rfl, hS, hl, fun H1 m c g s1 _ _ ng R1 => ?_⟩
    have T1 := hTT.ext s1
    have W1 := Scr.ofN hS s1 ng
    have lns : (ns.map V.int).length = ns.length := List.length_map ..
    refine ⟨2, rfl, by decide, by decide, for_range (lo := 0) (n := 2) (fun i σ H2 => ∃ (y2 y3 y4 y5 y6 y7 : Option V) (s2 : Int), σ = [some (.ref l), some (.ref m), y2, y3, y4, y5, y6, y7] ∧ Dr H2 m c g s2 ∧ s2 ≤ 200 * (i : Int) ∧ LamX.Tabs TT H2 ∧ Scr K H2 l g (ns.map V.int))
      ⟨_, _, _, _, _, _, 0, rfl, R1, by omega, T1, W1⟩ (fun i σ H2 hi ⟨y2, y3, y4, y5, y6, y7, s2, eσ, R2, hs2, T2, W2⟩ => ?_) (fun σ H2 ⟨y2, y3, y4, y5, y6, y7, s2, eσ, R2, hs2, T2, W2⟩ => ?_)⟩
    · subst eσ
      refine ⟨_, rfl, m, c, g, s2, 5, rfl, R2, by decide, by decide, by omega, fun H3 fA F s3 R3 hs3 k3 hF3 ok hML h5 _ => ?_⟩
      have T3 := tabs_kp T2 R2 k3
      have W3 := W2.kp R2 k3
      refine ⟨fA, F, (· ≠ g), rfl, hF3, fresh_g R3, fun H4 o s4 no hO4 => ?_⟩
      obtain ⟨f1, nw, ap, aq, ps, qs, e4, f4, _⟩ := id hO4
      refine ⟨_, rfl, o, .ref f1, rfl, DGet.k (k := .inr "field") e4, mk_sheet (mg := mg) f4 ok fun H5 a s5 na hA5 => ?_⟩
      have hO5 := hO4.same s5
      have B5 := shB0 F
      refine ⟨_, rfl, _, rfl, a, o, F, _, (· ≠ g), rfl, hA5, hO5, ok, B5.ok.now, fun H6 s6 => ⟨_, rfl, iteF ?_⟩⟩
      have s46 := s4.trans (s5.trans s6)
      have hA6 := hA5.same s6
      have hO6 := hO5.same s6
      have T6 := T3.ext s46
      have W6 := W3.same s46
      have R6 := R3.same s46
      clear hA5 hO5 hO4 e4 f4 hF3 R3 T3 W3 R2 T2 W2
      refine ⟨_, rfl, l, _, rfl, .inl W6.seq, 16, _, rfl, 8, _, rfl, rfl, _, rfl, by split <;> omega, by split <;> omega, ?_⟩
      have hcnt : (8 + (if ((ns.map V.int).length : Int) < 16 then ((ns.map V.int).length : Int) else 16)).toNat ≤ 24 := by split <;> omega
      refine for_range (lo := 0) (n := _) (fun j σ H2 => ∃ (z5 z6 z7 : Option V) (h : Sh) (s : Int), σ = [some (.ref l), some (.ref m), some (.int (0 + (i : Int))), some (.ref o), some (.ref a), z5, z6, z7] ∧ Dr H2 m c g s ∧ s ≤ s3 + 3 * (j : Int) ∧ LamX.Tabs TT H2 ∧ Scr K H2 l g (ns.map V.int) ∧ SheetAt K mg H2 a F h ∧ OwnAt K H2 o F h (· ≠ g) ∧ ShB F h j)
        ⟨_, _, _, _, s3, rfl, R6, by omega, T6, W6, hA6, hO6, B5⟩ (fun j σ H2 hj ⟨z5, z6, z7, h, s, eσ, R2, hs2, T2, W2, hA2, hO2, B2⟩ => ?_) (fun σ H2 ⟨z5, z6, z7, h, s, eσ, R2, hs2, T2, W2, hA2, hO2, B2⟩ => ?_)
      · subst eσ
        have hj24 : j < 24 := by omega
        refine ⟨_, rfl, _, rfl, _, rfl, m, c, g, a, o, s, F, h, j, rfl, R2, by omega, hA2, hO2, ok, B2, by omega, T2, fun H7 h' s' x7 T7 R7 hs7 hA7 hO7 B7 => ⟨_, rfl, iteF ?_⟩⟩
        refine ⟨_, rfl, _, rfl, a, o, F, _, (· ≠ g), rfl, hA7, hO7, ok, B7.ok.now, fun H8 s8 => ⟨_, rfl, iteF ⟨_, _, _, h', s', rfl, R7.same s8, by push_cast; omega, T7.ext s8, (W2.all hA2 hO2 R2 x7).same s8, hA7.same s8, hO7.same s8, B7⟩⟩⟩
      · subst eσ
        have B2 := B2.mono hcnt
        have hs24 : s ≤ s3 + 72 := by omega
        obtain ⟨bn1, bn2⟩ := B2.now
        refine ⟨_, rfl, _, rfl, a, o, F, h, (· ≠ g), rfl, hA2, hO2, ok, B2.ok.now, by omega, fun H7 s7 => ⟨_, rfl, iteF ?_⟩⟩
        refine ⟨fun k σ H2 => ∃ h : Sh, σ = [some (.ref l), some (.ref m), some (.int (0 + (i : Int))), some (.ref o), some (.ref a), z5, z6, z7] ∧ Dr H2 m c g s ∧ LamX.Tabs TT H2 ∧ Scr K H2 l g (ns.map V.int) ∧ SheetAt K mg H2 a F h ∧ OwnAt K H2 o F h (· ≠ g) ∧ ShB F h 24 ∧ h.past.length = k,
          ⟨_, h, rfl, R2.same s7, T2.ext s7, W2.same s7, hA2.same s7, hO2.same s7, B2, rfl⟩, ?_⟩
        clear R2 T2 W2 hA2 hO2 B2 bn1 bn2
        rintro k _ H2 ⟨h, rfl, R2, T2, W2, hA2, hO2, B2, hk⟩
        have bl := B2.len
        refine ⟨_, rfl, o, F, h, (· ≠ g), true, rfl, hO2, ok, B2.ok, by omega, by omega, fresh_g R2, ?_⟩
        rcases List.eq_nil_or_concat h.past with ep | ⟨pl, sl, ep⟩
        · refine .inl ⟨ep, fun H3 s3 => ⟨_, rfl, iteF ?_⟩⟩
          have hA3 := hA2.same s3
          have hO3 := hO2.same s3
          have R3 := R2.same s3
          have T3 := T2.ext s3
          have W3 := W2.same s3
          clear hA2 hO2 R2 T2 W2
          obtain ⟨ff, fs1, hiS, _⟩ := id hA3
          refine ⟨_, rfl, a, _, rfl, hiS, rfl, a, F, h, rfl, hA3, ok, B2.ok, by omega, by omega, .inl ⟨ep, fun H4 s4 => ?_⟩⟩
          have en := B2.begin ep
          have hA4 := hA3.same s4
          obtain ⟨ff, fs2, hiS4, _⟩ := id hA4
          have r0 : h.now.row.length = 0 := by rw [en]; rfl
          refine ⟨_, _, rfl, rfl, _, rfl, iteF ⟨_, rfl, a, _, rfl, hiS4, a, F, h, rfl, hA4, _, rfl, by rw [r0]; decide, ?_⟩⟩
          rw [r0]
          refine ⟨rfl, _, rfl, ite2 (fun z => absurd z (by decide)) (fun _ => ?_)⟩
          refine ⟨fun k σ H2 => ∃ h : Sh, σ = [some (.ref l), some (.ref m), some (.int (0 + (i : Int))), some (.ref o), some (.ref a), z5, z6, z7] ∧ Dr H2 m c g s ∧ LamX.Tabs TT H2 ∧ Scr K H2 l g (ns.map V.int) ∧ SheetAt K mg H2 a F h ∧ OwnAt K H2 o F h (· ≠ g) ∧ ShB F h 24 ∧ h.fut.length = k,
            ⟨_, h, rfl, R3.same s4, T3.ext s4, W3.same s4, hA4, hO3.same s4, B2, rfl⟩, ?_⟩
          clear R3 T3 W3 hA3 hO3 hiS hA4 hiS4 B2 en r0 ep bl hk
          rintro k _ H2 ⟨h, rfl, R2, T2, W2, hA2, hO2, B2, hk⟩
          have bl := B2.len
          refine ⟨_, rfl, o, F, h, (· ≠ g), false, rfl, hO2, ok, B2.ok, by omega, by omega, fresh_g R2, ?_⟩
          cases ep : h.fut with
          | nil =>
            refine .inl ⟨rfl, fun H3 s3 => ⟨_, rfl, iteF ?_⟩⟩
            have hA3 := hA2.same s3
            obtain ⟨ff, fs1, hiS, _⟩ := id hA3
            refine ⟨_, rfl, a, _, rfl, hiS, rfl, a, F, h, rfl, hA3, ok, B2.ok, by omega, by omega, .inl ⟨ep, fun H4 s4 => ?_⟩⟩
            have s24 := s3.trans s4
            refine ⟨_, _, rfl, rfl, _, rfl, iteF ⟨_, rfl, _, rfl, a, o, F, _, (· ≠ g), rfl, hA2.same s24, hO2.same s24, ok, B2.ok.now, fun H5 s5 => ⟨_, rfl, iteF ?_⟩⟩⟩
            have s25 := s24.trans s5
            exact ⟨_, _, _, _, _, _, s, rfl, R2.same s25, by push_cast; omega, T2.ext s25, W2.same s25⟩
          | cons sl pl =>
            refine .inr ⟨pl, sl, rfl, fun H3 s3 t3 hO3 => ⟨_, rfl, iteT ⟨_, fun _ _ q => q, ?_⟩⟩⟩
            obtain ⟨hA3, R3⟩ := two_own hA2 hO2 R2 s3 t3
            have T3 := tabs_own T2 hO2 s3
            have W3 := W2.own hO2 s3
            obtain ⟨ff, fs1, hiS, _⟩ := id hA3
            refine ⟨_, rfl, a, _, rfl, hiS, rfl, a, F, h, rfl, hA3, ok, B2.ok, by omega, by omega, .inr ⟨pl, sl, ep, fun H4 s4 t4 hA4 => ?_⟩⟩
            obtain ⟨hO4, R4⟩ := two_sheet hA3 hO3 R3 s4 t4
            refine ⟨_, _, rfl, rfl, _, rfl, iteF ⟨pl.length, ?_, _, rfl, R4, tabs_sheet T3 hA3 s4, W3.sheet hA3 s4, hA4, hO4, B2.forth ep, rfl⟩⟩
            rw [← hk, ep, List.length_cons]
            exact Nat.lt_succ_self _
        · have ep : h.past = pl ++ [sl] := by rw [ep, List.concat_eq_append]
          refine .inr ⟨pl, sl, ep, fun H3 s3 t3 hO3 => ⟨_, rfl, iteT ⟨_, fun _ _ q => q, ?_⟩⟩⟩
          obtain ⟨hA3, R3⟩ := two_own hA2 hO2 R2 s3 t3
          have T3 := tabs_own T2 hO2 s3
          have W3 := W2.own hO2 s3
          obtain ⟨ff, fs1, hiS, _⟩ := id hA3
          refine ⟨_, rfl, a, _, rfl, hiS, rfl, a, F, h, rfl, hA3, ok, B2.ok, by omega, by omega, .inr ⟨pl, sl, ep, fun H4 s4 t4 hA4 => ?_⟩⟩
          obtain ⟨hO4, R4⟩ := two_sheet hA3 hO3 R3 s4 t4
          have T4 := tabs_sheet T3 hA3 s4
          have W4 := W3.sheet hA3 s4
          refine ⟨_, _, rfl, rfl, _, rfl, iteF ⟨_, rfl, _, rfl, a, o, F, _, (· ≠ g), rfl, hA4, hO4, ok, (B2.back ep).ok.now, fun H5 s5 => ⟨_, rfl, iteF ⟨pl.length, ?_, _, rfl, R4.same s5, T4.ext s5, W4.same s5, hA4.same s5, hO4.same s5, B2.back ep, rfl⟩⟩⟩⟩
          rw [← hk, ep, List.length_append, List.length_singleton]
          exact Nat.lt_succ_self _
    · subst eσ
      refine ⟨three_sz, fun p1 n1 => upd_gen n1 fun A1 a1 e1 => ⟨two_sz, fun p2 n2 => upd_gen n2 fun A2 a2 e2 => ⟨one_sz, fun p3 n3 => upd_gen n3 fun A3 a3 e3 => ⟨two_sz, fun p4 n4 => upd_gen n4 fun A4 a4 e4 => ?_⟩⟩⟩⟩
      have hF : Dp K A4 (.ref p4) (dField F3) := .tup (SqT.of e4) (.cons (.tup ((Tk.of (a2.trans (a3.trans a4))).sqT (SqT.of e1)) (DpAll.strs ["a", "b", "c"])) (.cons (.tup ((Tk.of a4).sqT (SqT.of e3)) (.cons (.tup ((Tk.of (a3.trans a4)).sqT (SqT.of e2)) (.cons (.str _) (.cons (.str _) .nil))) .nil)) .nil))
      clear e1 e2 e3 e4 R2 T2 W2 a1 a2 a3
      refine ⟨_, rfl, mk_sheet (mg := mg) hF ok3 fun H5 a s5 na hA5 => ?_⟩
      obtain ⟨f5, q5, i5, _⟩ := id hA5
      refine ⟨_, rfl, a, _, rfl, i5, rfl, two_sz, fun t1 m1 => upd_gen m1 fun B1 b1 g1 => ⟨a, .ref t1, F3, _, dStep ("a", 1), rfl, hA5.same b1, ok3, by decide, by decide, Dp.of_step (s := ("a", 1)) (SqT.of g1), do_shaped (by decide +kernel) ⟨by decide, by decide, by decide⟩, .inr ⟨("a", 1), rfl, do_right (by decide +kernel) ⟨by decide, by decide, by decide⟩, .inr ⟨by decide, fun H6 s6 k6 hA6 => ?_⟩⟩⟩⟩
      obtain ⟨f6, q6, i6, _⟩ := id hA6
      refine ⟨_, rfl, a, _, rfl, i6, rfl, two_sz, fun t2 m2 => upd_gen m2 fun B2 b2 g2 => ⟨a, .ref t2, F3, _, dStep ("b", 2), rfl, hA6.same b2, ok3, by decide, by decide, Dp.of_step (s := ("b", 2)) (SqT.of g2), do_shaped (by decide +kernel) ⟨by decide, by decide, by decide⟩, .inr ⟨("b", 2), rfl, do_right (by decide +kernel) ⟨by decide, by decide, by decide⟩, .inr ⟨by decide, fun H7 s7 k7 hA7 => ?_⟩⟩⟩⟩
      obtain ⟨f7, q7, i7, _⟩ := id hA7
      refine ⟨_, rfl, a, _, rfl, i7, rfl, two_sz, fun t3 m3 => upd_gen m3 fun B3 b3 g3 => ⟨a, .ref t3, F3, _, dStep ("c", 1), rfl, hA7.same b3, ok3, by decide, by decide, Dp.of_step (s := ("c", 1)) (SqT.of g3), do_shaped (by decide +kernel) ⟨by decide, by decide, by decide⟩, .inr ⟨("c", 1), rfl, do_right (by decide +kernel) ⟨by decide, by decide, by decide⟩, .inr ⟨by decide, fun H8 s8 k8 hA8 => ?_⟩⟩⟩⟩
      obtain ⟨f8, q8, i8, _⟩ := id hA8
      refine ⟨_, rfl, a, _, rfl, i8, rfl, 1, rfl, two_sz, fun t4 m4 => upd_gen m4 fun B4 b4 g4 => ⟨a, .ref t4, F3, _, dStep ("b", -1), rfl, hA8.same b4, ok3, by decide, by decide, Dp.of_step (s := ("b", -1)) (SqT.of g4), do_shaped (by decide +kernel) ⟨by decide, by decide, by decide⟩, .inr ⟨("b", -1), rfl, do_right (by decide +kernel) ⟨by decide, by decide, by decide⟩, .inr ⟨by decide, fun H9 s9 k9 hA9 => ?_⟩⟩⟩⟩
      have hA9 : SheetAt K mg H9 a F3 ⟨⟨RH, 4⟩, [⟨[], 0⟩, ⟨RH.take 1, 1⟩, ⟨RH.take 2, 2⟩, ⟨RH.take 3, 3⟩], []⟩ := hA9
      have so := soH
      clear g1 g2 g3 g4 i5 i6 i7 i8 hA5 hA6 hA7 hA8 b1 b2 b3 b4 s6 s7 s8 s9 k6 k7 k8 k9
      obtain ⟨f9, q9, i9, _⟩ := id hA9
      refine ⟨_, rfl, a, _, rfl, i9, rfl, a, F3, _, rfl, hA9, ok3, so, fun Ha fr sa hfr => ?_⟩
      rw [show freeN F3 RH RH.length = [3] from freeH] at hfr
      refine ⟨five_sz, fun L nL => upd_gen nL fun Hb sb eb => ⟨_, rfl, ?_⟩⟩
      have eb : Hb L = some (.lst [.int 0, .int 1, .int 2, .int 3, .ref fr]) := eb
      have s9b := sa.trans sb
      have hAb := hA9.same s9b
      have frb := (Tk.of sb).sqT hfr
      obtain ⟨f10, q10, i10, _⟩ := id hAb
      refine ⟨_, rfl, a, _, rfl, i10, rfl, a, .int ((0 : Nat) : Int), F3, _, rfl, hAb, ok3, so, .inr (.inr ⟨0, (0, ("a", 1)), rfl, rfl, fun j q hj hq => asc_ne so.asc (i := 0) rfl hq (Nat.ne_of_lt hj), fun Hc r0 sc h0 => ?_⟩)⟩
      rw [show holdAt F3 RH 0 = [2, 3] from hold0] at h0
      have hAc := hAb.same sc
      obtain ⟨f11, q11, i11, _⟩ := id hAc
      refine ⟨_, rfl, a, _, rfl, i11, rfl, a, .int ((1 : Nat) : Int), F3, _, rfl, hAc, ok3, so, .inr (.inr ⟨1, (1, ("b", 2)), rfl, rfl, fun j q hj hq => asc_ne so.asc (i := 1) rfl hq (Nat.ne_of_lt hj), fun Hd r1 sd h1 => ?_⟩)⟩
      rw [show holdAt F3 RH 1 = [2, 3] from hold1] at h1
      have hAd := hAc.same sd
      obtain ⟨f12, q12, i12, _⟩ := id hAd
      refine ⟨_, rfl, a, _, rfl, i12, rfl, a, .int ((2 : Nat) : Int), F3, _, rfl, hAd, ok3, so, .inr (.inr ⟨2, (2, ("c", 1)), rfl, rfl, fun j q hj hq => asc_ne so.asc (i := 2) rfl hq (Nat.ne_of_lt hj), fun He r2 se h2 => ?_⟩)⟩
      rw [show holdAt F3 RH 2 = [3] from hold2] at h2
      have hAe := hAd.same se
      have ebe := (sc.trans (sd.trans se)) _ _ eb
      obtain ⟨f13, q13, i13, _⟩ := id hAe
      refine ⟨_, rfl, a, _, rfl, i13, rfl, a, .int ((0 : Nat) : Int), F3, _, rfl, hAe, ok3, so, by decide, .inr (.inr ⟨0, (0, ("a", 1)), rfl, rfl, fun j q hj hq => asc_ne so.asc (i := 0) rfl hq (Nat.ne_of_lt hj), fun Hf rt sf kf hAf ht => ?_⟩)⟩
      rw [show (holdAt F3 RH 0).reverse ++ [0] = [3, 2, 0] by rw [hold0]; rfl] at hAf ht
      rw [withoutH] at hAf
      have ebf := sf _ _ (fun z => sheet_noL hAe _ z _ ebe) ebe
      obtain ⟨f14, q14, i14, _⟩ := id hAf
      refine ⟨_, rfl, a, _, rfl, i14, a, F3, _, rfl, hAf, fun rw hrw => ⟨five_sz, fun L2 nL2 => upd_gen nL2 fun Hg sg eg => catL (sg _ _ ebf) eg ten_sz fun Hh L3 sh nh eh => ?_⟩⟩
      have sgh := sg.trans sh
      have frh := (Tk.of sgh).sqT (kf.sqT ((Tk.of (sc.trans (sd.trans se))).sqT frb))
      have h0h := (Tk.of sgh).sqT (kf.sqT ((Tk.of (sd.trans se)).sqT h0))
      have h1h := (Tk.of sgh).sqT (kf.sqT ((Tk.of se).sqT h1))
      have h2h := (Tk.of sgh).sqT (kf.sqT h2)
      have hth := (Tk.of sgh).sqT ht
      have hrwh := Dp.sm sgh _ hrw
      refine ⟨_, rfl, one_sz, fun p1 n1 => upd_gen n1 fun A1 a1 e1 => ⟨two_sz, fun p2 n2 => upd_gen n2 fun A2 a2 e2 => ⟨two_sz, fun p3 n3 => upd_gen n3 fun A3 a3 e3 => ⟨one_sz, fun p4 n4 => upd_gen n4 fun A4 a4 e4 => ⟨three_sz, fun p5 n5 => upd_gen n5 fun A5 a5 e5 => ⟨two_sz, fun p6 n6 => upd_gen n6 fun A6 a6 e6 => ⟨two_sz, fun p7 n7 => upd_gen n7 fun A7 a7 e7 => ⟨one_sz, fun p8 n8 => upd_gen n8 fun A8 a8 e8 => ⟨ten_sz, fun p9 n9 => upd_gen n9 fun A9 a9 e9 => ?_⟩⟩⟩⟩⟩⟩⟩⟩⟩
      have a89 := a8.trans a9
      have a79 := a7.trans a89
      have a69 := a6.trans a79
      have a59 := a5.trans a69
      have a49 := a4.trans a59
      have a39 := a3.trans a49
      have a29 := a2.trans a39
      have a19 := a1.trans a29
      have g : ∀ {H1 : Hp} {r : Addr} {l : List Nat}, Same H1 A9 → SqT K H1 r (nums l) → Dp K A9 (.ref r) (.tuple (l.map fun n : Nat => PyData.int (n : Int))) := fun s h => .tup ((Tk.of s).sqT h) (dp_nums _)
      let D : PyData := .list [.int 0, .int 1, .int 2, .int 3, .tuple [.int 3], .tuple [.int 2, .int 3], .tuple [.int 2, .int 3], .tuple [.int 3], .tuple [.int 3, .int 2, .int 0], .tuple [.tuple [.int 1, .tuple [.str "b", .int 2]]]]
      refine ⟨D, D, .lst (SqL.of (a19 _ _ eh)) (.cons (.int 0) (.cons (.int 1) (.cons (.int 2) (.cons (.int 3) (.cons (g a19 frh) (.cons (g a19 h0h) (.cons (g a19 h1h) (.cons (g a19 h2h) (.cons (g a19 hth) (.cons (Dp.sm a19 _ hrwh) .nil)))))))))),
        .lst (SqL.of e9) (.cons (.int 0) (.cons (.int 1) (.cons (.int 2) (.cons (.int 3) (.cons (g (l := [3]) a29 (SqT.of e1)) (.cons (g (l := [2, 3]) a39 (SqT.of e2)) (.cons (g (l := [2, 3]) a49 (SqT.of e3)) (.cons (g (l := [3]) a59 (SqT.of e4)) (.cons (g (l := [3, 2, 0]) a69 (SqT.of e5)) (.cons (.tup ((Tk.of a9).sqT (SqT.of e8)) (.cons (.tup ((Tk.of a89).sqT (SqT.of e7)) (.cons (.int 1) (.cons (.tup ((Tk.of a79).sqT (SqT.of e6)) (.cons (.str _) (.cons (.int _) .nil))) .nil))) .nil)) .nil)))))))))), by decide +kernel, by decide +kernel, ?_⟩
      rw [show PyData.eqv D D = true by decide +kernel]
      exact q_ _
end
end XB
set_option Elab.async false
set_option linter.all false
set_option maxRecDepth 100000
set_option maxHeartbeats 4000000
namespace XB
open PySem PySem.Spec PyProof.Rows L2
theorem tabIn_mk {K : PySem.W.Frag} {x : Str} {f c tab : Addr} {oc oc2 : Value} {od od2 : Option Addr} {fd : FuncData} {vs : Array Value} {osl osl2 : Array (Option Value)} (a : PySem.W.nsIn K mainGlobals x = some (some (.ref f))) (l : K.lookup f = some ⟨oc, od, .func fd, osl⟩) (e : fd.code = .ref c)
    (l2 : K.lookup c = some ⟨oc2, od2, .fields vs, osl2⟩) (e2 : vs[11]? = some (.ref tab)) : PySem.W.tabIn K x = some (c, tab) := by
  unfold PySem.W.tabIn
  rw [a]
  simp only
  rw [l]
  simp only
  rw [e]
  simp only
  rw [l2]
  simp only
  rw [e2]
theorem FnG.imp {P : Program} {w : World} {K : PySem.W.Frag} {mg : Str → Option Value} {base : Heap} {CX : CXT} {k : Nat} {f : Addr} {fd : FuncData} {ps : List Str} {sp sp' : Sp} (F : FnG P w K mg base CX k f fd ps sp) (h : ∀ vs H Q E, sp' vs H Q E → sp vs H Q E) : FnG P w K mg base CX k f fd ps sp' :=
  ⟨fun vs H Q E q => F.many vs H Q E (h _ _ _ _ q), fun hg hr e0 hb r q => F.goes hg hr e0 hb r (h _ _ _ _ q)⟩
def xsT : List Str := ["_law_step"]
def spLawK (K : PySem.W.Frag) : Sp := fun vs H Q _ => ∃ (a : Addr) (ns : List Int), vs = [.ref a] ∧ SqL K H a (ns.map V.int) ∧ ns.length ≤ 1000 ∧ (∀ t ∈ tabsOf K xsT, H t.2 = some (.tbl #[])) ∧ ∀ H', Q (.bl true) H'
theorem law_mkT {P : Program} {w : World} {K : PySem.W.Frag} {h : Heap} {mg : Str → Option Value} {fa f c0 : Addr} {oc : Value} {od an : Option Addr} {osl : Array (Option Value)} {kV doc pm ct : Value}
    {f1 c1 t1 : Addr} {ocf1 occ1 : Value} {odf1 odc1 : Option Addr} {oslf1 oslc1 : Array (Option Value)} {fd1 : FuncData} {vs1 : Array Value}
    (X : K.In h) (G : h.Ns mainGlobals mg) (hfa : mg "law" = some (.ref fa)) (T : Tx K mg)
    (a : PySem.W.nsIn K mainGlobals "law" = some (some (.ref f))) (l : K.lookup f = some ⟨oc, od, .func (PySem.W.fnOf "law" "law" (defArgs s_law) (defBody s_law) (defScope s_law) .none kV doc pm an (.ref c0) ct), osl⟩)
    (c : PySem.W.codeIn K (.ref c0) "law" = true) (k : PySem.W.keepIn K (.ref f) = true)
    (a1 : PySem.W.nsIn K mainGlobals "_law_step" = some (some (.ref f1))) (l1 : K.lookup f1 = some ⟨ocf1, odf1, .func fd1, oslf1⟩) (e1 : fd1.code = .ref c1) (m1 : K.lookup c1 = some ⟨occ1, odc1, .fields vs1, oslc1⟩) (n1 : vs1[11]? = some (.ref t1))
    : ∃ fd : FuncData, (∀ (s : Shared) (v : Value), BindsTo s fd ⟨[v], []⟩ [("script", v)]) ∧ ∀ base : Heap, K.In base → base.Ns mainGlobals mg → (∀ t ∈ tabsOf K xsT, LamX.TabB base mg t.1 t.2) → FnG P w K mg base CX0 10 fa fd ["script"] (spLawK K) := by
  have e := hfa.symm.trans (PySem.W.mg_of X G a)
  cases e
  have i1 : PySem.W.tabIn K "_law_step" = some (c1, t1) := tabIn_mk a1 l1 e1 m1 n1
  have q1 : (c1, t1) ∈ tabsOf K xsT := List.mem_filterMap.mpr ⟨"_law_step", List.mem_cons_self, i1⟩
  refine ⟨PySem.W.fnOf "law" "law" (defArgs s_law) (defBody s_law) (defScope s_law) .none kV doc pm an (.ref c0) ct, fun s v => .of_eq rfl, fun base X' G' hB => ?_⟩
  refine FnG.imp (fg_lawT T (fun_mk (st := s_law) l c k) (codeT_mk X' G' i1 (hB _ q1)) ) fun vs H Q E q => ?_
  obtain ⟨b, ns, e, hS, hl, hT, q⟩ := q
  exact ⟨b, ns, e, hS, hl, hT _ q1, q⟩
end XB
set_option Elab.async false
set_option linter.all false
set_option maxRecDepth 100000
namespace XB
open PySem PySem.Spec PyProof.Rows L2
theorem dn_mk {K : PySem.W.Frag} {h : Heap} {mg : Str → Option Value} {x : Str} {st : Stmt} {f : Addr} {oc : Value} {od an : Option Addr} {osl : Array (Option Value)} {kV doc pm cdv ct : Value} (X : K.In h) (G : h.Ns mainGlobals mg)
    (a : PySem.W.nsIn K mainGlobals x = some (some (.ref f))) (l : K.lookup f = some ⟨oc, od, .func (PySem.W.fnOf x x (defArgs st) (defBody st) (defScope st) .none kV doc pm an cdv ct), osl⟩)
    (c : PySem.W.codeIn K cdv x = true) (k : PySem.W.keepIn K (.ref f) = true) : Dn K mg x st := ⟨f, _, fun_mk l c k, PySem.W.mg_of X G a⟩
theorem int_mk {K : PySem.W.Frag} {h : Heap} {mg : Str → Option Value} {x : Str} {z n : Int} {t : Tok} (X : K.In h) (G : h.Ns mainGlobals mg) (a : PySem.W.nsIn K mainGlobals x = some (some (.int z t))) (e : z = n) : ∃ t, mg x = some (.int n t) :=
  ⟨t, by rw [← e]; exact PySem.W.mg_of X G a⟩
theorem loose_int {p : Program} {n : Str} {z : Int} {mg : Str → Option Value} {h : Heap} (x : PySem.W.XL p [(n, PySem.W.WData.int z)] mg h) : ∃ t, mg n = some (.int z t) := by
  obtain ⟨v, a, b⟩ := x.2.val _ List.mem_cons_self
  cases b
  exact ⟨_, a⟩
theorem loose_int2 {p : Program} {n n2 : Str} {z z2 : Int} {mg : Str → Option Value} {h : Heap} (x : PySem.W.XL p [(n, PySem.W.WData.int z), (n2, PySem.W.WData.int z2)] mg h) : (∃ t, mg n = some (.int z t)) ∧ ∃ t, mg n2 = some (.int z2 t) := by
  obtain ⟨v, a, b⟩ := x.2.val _ List.mem_cons_self
  obtain ⟨v2, a2, b2⟩ := x.2.val _ (List.mem_cons_of_mem _ List.mem_cons_self)
  cases b
  cases b2
  exact ⟨⟨_, a⟩, _, a2⟩
end XB
namespace XB
open PySem PySem.Spec PyProof.Rows L2
theorem ek_mk {K : PySem.W.Frag} {h : Heap} {mg : Str → Option Value} {x q : Str} {st : Stmt} {C fI N : Addr} {nm qn : Str} {bs bm : List Value} {sn : List Str} {sub : List Value} {ab : Bool} {col : Option Bool} {dd : Option Addr} {k0 k1 k2 k3 k5 : Option Value} {oc : Value} {od an : Option Addr} {osl : Array (Option Value)} {kV doc pm cdv ct : Value}
    (X : K.In h) (G : h.Ns mainGlobals mg) (a : PySem.W.nsIn K mainGlobals x = some (some (.ref C))) (l : K.lookup C = some (excClassObj nm qn C N bs bm true sn sub ab col dd k0 k1 k2 k3 k5 "ValueError.__new__")) (r : PySem.HandSPX.refsVE bm = true)
    (sa : PySem.W.findIn K (.ref C) "__setattr__" = some (some (.builtin "object.__setattr__"))) (xc : PySem.W.subIn K (.ref C) (.type "BaseException") = some true) (ty : PySem.W.typeIn K (.ref C) = some (.type "type")) (kC : PySem.W.keepIn K (.ref C) = true)
    (ga : PySem.W.findIn K (.ref C) "__getattribute__" = some (some (.builtin "BaseException.__getattribute__"))) (gg : PySem.W.findIn K (.ref C) "__getattr__" = some none) (hd : PySem.W.hasDictIn K C = true) (ca : PySem.W.findIn K (.ref C) "__class__" = some (some (.builtin "object.__class__")))
    (sp : PySem.W.specialIn K (.builtin "object.__class__") "__get__" = some (some (.builtin "getset_descriptor.__get__"))) (tk : PySem.W.takesIn K (.builtin "object.__class__") = some true) (mo : PySem.W.mroIn K C (.type "object") = some true)
    (i : PySem.W.findIn K (.ref C) "__init__" = some (some (.ref fI))) (ti : PySem.W.typeIn K (.ref fI) = some (.type "function")) (fl : K.lookup fI = some ⟨oc, od, .func (PySem.W.fnOf "__init__" q (defArgs st) (defBody st) (defScope st) .none kV doc pm an cdv ct), osl⟩)
    (fc : PySem.W.codeIn K cdv q = true) (fk : PySem.W.keepIn K (.ref fI) = true) : Ek K mg x q st :=
  ⟨C, fI, _, PySem.W.mg_of X G a, ⟨⟨nm, qn, N, bs, bm, sn, sub, ab, col, dd, k0, k1, k2, k3, k5, _, _, _, _, l, F.excBase_ValueError, fun Y => PySem.HandSPX.refsVE_contains Y bm r, fun self => PySem.HandSPX.refsVE_pass self (.ref C :: bm) r, (PySem.HandSPX.refsVE_contains "object" (.ref C :: bm) r).trans (by decide +kernel)⟩, sa, xc, ty, kC⟩, ⟨ga, gg, xc, hd, ca, sp, tk, mo⟩, i, ti, fun_mk fl fc fk⟩
theorem ek_mkO {K : PySem.W.Frag} {h : Heap} {mg : Str → Option Value} {x q : Str} {st : Stmt} {C fI N : Addr} {nm qn : Str} {bs bm : List Value} {sn : List Str} {sub : List Value} {ab : Bool} {col : Option Bool} {dd : Option Addr} {k0 k1 k2 k3 k5 : Option Value} {oc : Value} {od an : Option Addr} {osl : Array (Option Value)} {kV doc pm cdv ct : Value}
    (X : K.In h) (G : h.Ns mainGlobals mg) (a : PySem.W.nsIn K mainGlobals x = some (some (.ref C))) (l : K.lookup C = some (excClassObj nm qn C N bs bm true sn sub ab col dd k0 k1 k2 k3 k5 "OverflowError.__new__")) (r : bm = [.type "OverflowError", .type "ArithmeticError", .type "Exception", .type "BaseException", .type "object"])
    (sa : PySem.W.findIn K (.ref C) "__setattr__" = some (some (.builtin "object.__setattr__"))) (xc : PySem.W.subIn K (.ref C) (.type "BaseException") = some true) (ty : PySem.W.typeIn K (.ref C) = some (.type "type")) (kC : PySem.W.keepIn K (.ref C) = true)
    (ga : PySem.W.findIn K (.ref C) "__getattribute__" = some (some (.builtin "BaseException.__getattribute__"))) (gg : PySem.W.findIn K (.ref C) "__getattr__" = some none) (hd : PySem.W.hasDictIn K C = true) (ca : PySem.W.findIn K (.ref C) "__class__" = some (some (.builtin "object.__class__")))
    (sp : PySem.W.specialIn K (.builtin "object.__class__") "__get__" = some (some (.builtin "getset_descriptor.__get__"))) (tk : PySem.W.takesIn K (.builtin "object.__class__") = some true) (mo : PySem.W.mroIn K C (.type "object") = some true)
    (i : PySem.W.findIn K (.ref C) "__init__" = some (some (.ref fI))) (ti : PySem.W.typeIn K (.ref fI) = some (.type "function")) (fl : K.lookup fI = some ⟨oc, od, .func (PySem.W.fnOf "__init__" q (defArgs st) (defBody st) (defScope st) .none kV doc pm an cdv ct), osl⟩)
    (fc : PySem.W.codeIn K cdv q = true) (fk : PySem.W.keepIn K (.ref fI) = true) : Ek K mg x q st := by
  subst r
  refine ⟨C, fI, _, PySem.W.mg_of X G a, ⟨⟨nm, qn, N, bs, _, sn, sub, ab, col, dd, k0, k1, k2, k3, k5, _, _, _, _, l, F.excBase_OverflowError, fun _ => rfl, fun self => ?_, by rw [List.contains_cons]; exact (Bool.or_eq_true _ _).mpr (.inr (by decide +kernel))⟩, sa, xc, ty, kC⟩, ⟨ga, gg, xc, hd, ca, sp, tk, mo⟩, i, ti, fun_mk fl fc fk⟩
  rw [refuseLoop_ref]
  exact F.store_OverflowError.passes self
theorem v_mk {K : PySem.W.Frag} {h : Heap} {mg : Str → Option Value} {x : Str} {C N : Addr} {nm qn : Str} {bs bm : List Value} {sn : List Str} {sub : List Value} {ab : Bool} {col : Option Bool} {dd : Option Addr} {k0 k1 k2 k3 k5 : Option Value}
    (X : K.In h) (G : h.Ns mainGlobals mg) (a : PySem.W.nsIn K mainGlobals x = some (some (.ref C))) (l : K.lookup C = some (excClassObj nm qn C N bs bm true sn sub ab col dd k0 k1 k2 k3 k5 "ValueError.__new__")) (r : PySem.HandSPX.refsVE bm = true)
    (sa : PySem.W.findIn K (.ref C) "__setattr__" = some (some (.builtin "object.__setattr__"))) (xc : PySem.W.subIn K (.ref C) (.type "BaseException") = some true) (ty : PySem.W.typeIn K (.ref C) = some (.type "type")) (kC : PySem.W.keepIn K (.ref C) = true) : ∃ C, mg x = some (.ref C) ∧ OexC K C :=
  ⟨C, PySem.W.mg_of X G a, ⟨⟨nm, qn, N, bs, bm, sn, sub, ab, col, dd, k0, k1, k2, k3, k5, l, r⟩, sa, xc, ty, kC⟩⟩
theorem exm_mk {K : PySem.W.Frag} {h : Heap} {mg : Str → Option Value} {x y : Str} {C D : Addr} {b : Bool} (X : K.In h) (G : h.Ns mainGlobals mg) (a : PySem.W.nsIn K mainGlobals x = some (some (.ref C))) (c : PySem.W.nsIn K mainGlobals y = some (some (.ref D))) (n : PySem.W.exmOne K (.ref C) (.ref D) = some b) : Exm K mg x y b := fun C' D' z w => by
  rw [cls_eq z (PySem.W.mg_of X G a), cls_eq w (PySem.W.mg_of X G c)]
  exact n
theorem c_mk {K : PySem.W.Frag} {h : Heap} {mg : Str → Option Value} {x : Str} {C : Addr} (X : K.In h) (G : h.Ns mainGlobals mg) (a : PySem.W.nsIn K mainGlobals x = some (some (.ref C))) : ∃ C, mg x = some (.ref C) := ⟨C, PySem.W.mg_of X G a⟩
theorem nof_mk {K : PySem.W.Frag} {h : Heap} {mg : Str → Option Value} {x f : Str} {C : Addr} (X : K.In h) (G : h.Ns mainGlobals mg) (a : PySem.W.nsIn K mainGlobals x = some (some (.ref C))) (n : PySem.W.findIn K (.ref C) f = some none) : NoF K mg x f := fun D z => by
  rw [cls_eq z (PySem.W.mg_of X G a)]
  exact n
theorem kit_mk {K : PySem.W.Frag} {h : Heap} {mg : Str → Option Value} {x y : Str} {C D : Addr} {b : Bool} (X : K.In h) (G : h.Ns mainGlobals mg) (a : PySem.W.nsIn K mainGlobals x = some (some (.ref C))) (c : PySem.W.nsIn K mainGlobals y = some (some (.ref D))) (n : PySem.W.kitOne K (.ref C) (.ref D) = some b) : Kit K mg x y b := fun C' D' z w => by
  rw [cls_eq z (PySem.W.mg_of X G a), cls_eq w (PySem.W.mg_of X G c)]
  exact n
theorem kitB_mk {K : PySem.W.Frag} {h : Heap} {mg : Str → Option Value} {x : Str} {y : String} {C : Addr} {b : Bool} (X : K.In h) (G : h.Ns mainGlobals mg) (a : PySem.W.nsIn K mainGlobals x = some (some (.ref C))) (n : PySem.W.kitOne K (.ref C) (.type y) = some b) : KitB K mg x y b := fun C' z => by
  rw [cls_eq z (PySem.W.mg_of X G a)]
  exact n
end XB
namespace XB
open PySem PySem.Spec PyProof.Rows L2
theorem oc_mk {K : PySem.W.Frag} {h : Heap} {mg : Str → Option Value} {x : Str} {C : Addr} (X : K.In h) (G : h.Ns mainGlobals mg) (a : PySem.W.nsIn K mainGlobals x = some (some (.ref C)))
    (pg : PySem.W.plainGet K C Str.empty = true) (hd : PySem.W.hasDictIn K C = true) (po : PySem.W.plainOver K C = true) (sa : PySem.W.findIn K (.ref C) "__setattr__" = some (some (.builtin "object.__setattr__")))
    (sf : PySem.W.selfFirst K C = true) (mk : PySem.W.makesIn K C = true) (kp : PySem.W.keepIn K (.ref C) = true)
    (ca : PySem.W.findIn K (.ref C) "__class__" = some (some (.builtin "object.__class__"))) (sp : PySem.W.specialIn K (.builtin "object.__class__") "__get__" = some (some (.builtin "getset_descriptor.__get__"))) (tk : PySem.W.takesIn K (.builtin "object.__class__") = some true) (mo : PySem.W.mroIn K C (.type "object") = some true) : Oc K mg x :=
  ⟨⟨C, PySem.W.mg_of X G a, ⟨pg, hd, po, sa⟩, sf, mk, kp⟩, ⟨C, PySem.W.mg_of X G a, ca, sp, tk, mo⟩⟩
theorem mt_mk {K : PySem.W.Frag} {h : Heap} {mg : Str → Option Value} {x m q : Str} {st : Stmt} {C f : Addr} {oc : Value} {od an : Option Addr} {osl : Array (Option Value)} {kV doc pm cdv ct : Value} (X : K.In h) (G : h.Ns mainGlobals mg) (a : PySem.W.nsIn K mainGlobals x = some (some (.ref C)))
    (i : PySem.W.findIn K (.ref C) m = some (some (.ref f))) (fn : PySem.W.isFn K (.ref f) = true) (l : K.lookup f = some ⟨oc, od, .func (PySem.W.fnOf m q (defArgs st) (defBody st) (defScope st) .none kV doc pm an cdv ct), osl⟩)
    (c : PySem.W.codeIn K cdv q = true) (k : PySem.W.keepIn K (.ref f) = true) : Mt K mg x m q st := ⟨C, f, _, PySem.W.mg_of X G a, ⟨i, fn, k⟩, fun_mk l c k⟩
theorem pt_mk {K : PySem.W.Frag} {h : Heap} {mg : Str → Option Value} {x m q : Str} {st : Stmt} {C p g : Addr} {rest : List Value} {oc : Value} {od an : Option Addr} {osl : Array (Option Value)} {kV doc pm cdv ct : Value} (X : K.In h) (G : h.Ns mainGlobals mg) (a : PySem.W.nsIn K mainGlobals x = some (some (.ref C)))
    (i : PySem.W.findIn K (.ref C) m = some (some (.ref p))) (gt : PySem.W.specialIn K (.ref p) "__get__" = some (some (.builtin "property.__get__"))) (tk : PySem.W.takesIn K (.ref p) = some true) (re : PySem.W.recIn K p "property" = some (.ref g :: rest)) (l : K.lookup g = some ⟨oc, od, .func (PySem.W.fnOf m q (defArgs st) (defBody st) (defScope st) .none kV doc pm an cdv ct), osl⟩)
    (c : PySem.W.codeIn K cdv q = true) (k : PySem.W.keepIn K (.ref g) = true) : Pt K mg x m q st := ⟨C, p, g, _, PySem.W.mg_of X G a, ⟨i, gt, tk, rest, re⟩, fun_mk l c k⟩
theorem kitd_mk {K : PySem.W.Frag} {h : Heap} {mg : Str → Option Value} {x : Str} {C : Addr} (X : K.In h) (G : h.Ns mainGlobals mg) (a : PySem.W.nsIn K mainGlobals x = some (some (.ref C)))
    (n1 : PySem.W.kitOne K (.type "NoneType") (.ref C) = some false) (n2 : PySem.W.kitOne K (.type "int") (.ref C) = some false) (n3 : PySem.W.kitOne K (.type "bool") (.ref C) = some false) (n4 : PySem.W.kitOne K (.type "str") (.ref C) = some false)
    (n5 : PySem.W.kitOne K (.type "tuple") (.ref C) = some false) (n6 : PySem.W.kitOne K (.type "list") (.ref C) = some false) (n7 : PySem.W.kitOne K (.type "dict") (.ref C) = some false) : KitD K mg x := fun D z T hT => by
  rw [cls_eq z (PySem.W.mg_of X G a)]
  simp only [List.mem_cons, List.not_mem_nil, or_false] at hT
  rcases hT with e | e | e | e | e | e | e <;> subst e <;> assumption
end XB
open PySem PySem.W PyProof.Rows in
set_option maxRecDepth 100000 in
set_option maxHeartbeats 0 in
theorem PySem.Challenge.cw_deedpiles_k93_whole_sheets_holds : PySem.Challenge.rw_deedpiles_k93_whole_sheets.Holds := by
  w_on; o_law; k_head; (case hw => w_witness2)
  k_fill
  refine XB.walk_gT (TX := fun mg => (∃ t, mg "MOST_TIMES" = some (.int (10 ^ 30) t))) (l := PySem.Challenge.rw_deedpiles_k93_whole_sheets) (n := 63) (k := 10) (x := "script") (sp := XB.spLawK) (xs := XB.xsT) rfl (by decide) rfl ⟨rfl, by decide, by decide⟩ ?told (fun w h Y => PySem.W.km_in_of Y) ?recs ?noT ?F (fun _ _ a ns hl hT s => ⟨a, ns, rfl, s, Nat.le_trans hl (by decide), hT, fun _ => rfl⟩)
  case recs =>
    intro y hy
    rw [List.mem_singleton.mp hy]
    exact ⟨_, rfl⟩
  case noT =>
    intro w
    kernel_rfl
  case told =>
    intro mg h x
    exact XB.loose_int x
  case F =>
    intro w mg fa h KX G hmg hMT
    refine' XB.law_mkT KX G hmg ?T ?la ?ll ?lc ?lk ?xa1 ?xl1 ?xe1 ?xm1 ?xn1
    case T =>
      constructor
      case c_PileError =>
        refine' XB.c_mk KX G ?z1a
        (case z1a => k_is)
      case c_BadField =>
        refine' XB.c_mk KX G ?z2a
        (case z2a => k_is)
      case c_BadScript =>
        refine' XB.c_mk KX G ?z3a
        (case z3a => k_is)
      case c_BadNumber =>
        refine' XB.c_mk KX G ?z4a
        (case z4a => k_is)
      case c_BadClaims =>
        refine' XB.c_mk KX G ?z5a
        (case z5a => k_is)
      case c_BadText =>
        refine' XB.c_mk KX G ?z6a
        (case z6a => k_is)
      case c_Unlike =>
        refine' XB.c_mk KX G ?z7a
        (case z7a => k_is)
      case c_Held =>
        refine' XB.c_mk KX G ?z8a
        (case z8a => k_is)
      case c_TooGreat =>
        refine' XB.c_mk KX G ?z9a
        (case z9a => k_is)
      case e_BadField =>
        refine' XB.ek_mk KX G ?z10a ?z10b ?z10c ?z10d ?z10e ?z10f ?z10g ?z10h ?z10i ?z10j ?z10k ?z10l ?z10m ?z10n ?z10o ?z10p ?z10q ?z10r ?z10s
        (case z10a => first | k_is | rfl | decide +kernel)
        (case z10b => first | k_is | rfl | decide +kernel)
        (case z10c => first | k_is | rfl | decide +kernel)
        (case z10d => first | k_is | rfl | decide +kernel)
        (case z10e => first | k_is | rfl | decide +kernel)
        (case z10f => first | k_is | rfl | decide +kernel)
        (case z10g => first | k_is | rfl | decide +kernel)
        (case z10h => first | k_is | rfl | decide +kernel)
        (case z10i => first | k_is | rfl | decide +kernel)
        (case z10j => first | k_is | rfl | decide +kernel)
        (case z10k => first | k_is | rfl | decide +kernel)
        (case z10l => first | k_is | rfl | decide +kernel)
        (case z10m => first | k_is | rfl | decide +kernel)
        (case z10n => first | k_is | rfl | decide +kernel)
        (case z10o => first | k_is | rfl | decide +kernel)
        (case z10p => first | k_is | rfl | decide +kernel)
        (case z10q => first | k_is | rfl | decide +kernel)
        (case z10r => first | k_is | rfl | decide +kernel)
        (case z10s => first | k_is | rfl | decide +kernel)
      case e_BadScript =>
        refine' XB.ek_mk KX G ?z11a ?z11b ?z11c ?z11d ?z11e ?z11f ?z11g ?z11h ?z11i ?z11j ?z11k ?z11l ?z11m ?z11n ?z11o ?z11p ?z11q ?z11r ?z11s
        (case z11a => first | k_is | rfl | decide +kernel)
        (case z11b => first | k_is | rfl | decide +kernel)
        (case z11c => first | k_is | rfl | decide +kernel)
        (case z11d => first | k_is | rfl | decide +kernel)
        (case z11e => first | k_is | rfl | decide +kernel)
        (case z11f => first | k_is | rfl | decide +kernel)
        (case z11g => first | k_is | rfl | decide +kernel)
        (case z11h => first | k_is | rfl | decide +kernel)
        (case z11i => first | k_is | rfl | decide +kernel)
        (case z11j => first | k_is | rfl | decide +kernel)
        (case z11k => first | k_is | rfl | decide +kernel)
        (case z11l => first | k_is | rfl | decide +kernel)
        (case z11m => first | k_is | rfl | decide +kernel)
        (case z11n => first | k_is | rfl | decide +kernel)
        (case z11o => first | k_is | rfl | decide +kernel)
        (case z11p => first | k_is | rfl | decide +kernel)
        (case z11q => first | k_is | rfl | decide +kernel)
        (case z11r => first | k_is | rfl | decide +kernel)
        (case z11s => first | k_is | rfl | decide +kernel)
      case e_BadNumber =>
        refine' XB.ek_mk KX G ?z12a ?z12b ?z12c ?z12d ?z12e ?z12f ?z12g ?z12h ?z12i ?z12j ?z12k ?z12l ?z12m ?z12n ?z12o ?z12p ?z12q ?z12r ?z12s
        (case z12a => first | k_is | rfl | decide +kernel)
        (case z12b => first | k_is | rfl | decide +kernel)
        (case z12c => first | k_is | rfl | decide +kernel)
        (case z12d => first | k_is | rfl | decide +kernel)
        (case z12e => first | k_is | rfl | decide +kernel)
        (case z12f => first | k_is | rfl | decide +kernel)
        (case z12g => first | k_is | rfl | decide +kernel)
        (case z12h => first | k_is | rfl | decide +kernel)
        (case z12i => first | k_is | rfl | decide +kernel)
        (case z12j => first | k_is | rfl | decide +kernel)
        (case z12k => first | k_is | rfl | decide +kernel)
        (case z12l => first | k_is | rfl | decide +kernel)
        (case z12m => first | k_is | rfl | decide +kernel)
        (case z12n => first | k_is | rfl | decide +kernel)
        (case z12o => first | k_is | rfl | decide +kernel)
        (case z12p => first | k_is | rfl | decide +kernel)
        (case z12q => first | k_is | rfl | decide +kernel)
        (case z12r => first | k_is | rfl | decide +kernel)
        (case z12s => first | k_is | rfl | decide +kernel)
      case e_TooGreat =>
        refine' XB.ek_mkO KX G ?z13a ?z13b ?z13c ?z13d ?z13e ?z13f ?z13g ?z13h ?z13i ?z13j ?z13k ?z13l ?z13m ?z13n ?z13o ?z13p ?z13q ?z13r ?z13s
        (case z13a => first | k_is | rfl | decide +kernel)
        (case z13b => first | k_is | rfl | decide +kernel)
        (case z13c => first | k_is | rfl | decide +kernel)
        (case z13d => first | k_is | rfl | decide +kernel)
        (case z13e => first | k_is | rfl | decide +kernel)
        (case z13f => first | k_is | rfl | decide +kernel)
        (case z13g => first | k_is | rfl | decide +kernel)
        (case z13h => first | k_is | rfl | decide +kernel)
        (case z13i => first | k_is | rfl | decide +kernel)
        (case z13j => first | k_is | rfl | decide +kernel)
        (case z13k => first | k_is | rfl | decide +kernel)
        (case z13l => first | k_is | rfl | decide +kernel)
        (case z13m => first | k_is | rfl | decide +kernel)
        (case z13n => first | k_is | rfl | decide +kernel)
        (case z13o => first | k_is | rfl | decide +kernel)
        (case z13p => first | k_is | rfl | decide +kernel)
        (case z13q => first | k_is | rfl | decide +kernel)
        (case z13r => first | k_is | rfl | decide +kernel)
        (case z13s => first | k_is | rfl | decide +kernel)
      case e_Held =>
        refine' XB.ek_mk KX G ?z14a ?z14b ?z14c ?z14d ?z14e ?z14f ?z14g ?z14h ?z14i ?z14j ?z14k ?z14l ?z14m ?z14n ?z14o ?z14p ?z14q ?z14r ?z14s
        (case z14a => first | k_is | rfl | decide +kernel)
        (case z14b => first | k_is | rfl | decide +kernel)
        (case z14c => first | k_is | rfl | decide +kernel)
        (case z14d => first | k_is | rfl | decide +kernel)
        (case z14e => first | k_is | rfl | decide +kernel)
        (case z14f => first | k_is | rfl | decide +kernel)
        (case z14g => first | k_is | rfl | decide +kernel)
        (case z14h => first | k_is | rfl | decide +kernel)
        (case z14i => first | k_is | rfl | decide +kernel)
        (case z14j => first | k_is | rfl | decide +kernel)
        (case z14k => first | k_is | rfl | decide +kernel)
        (case z14l => first | k_is | rfl | decide +kernel)
        (case z14m => first | k_is | rfl | decide +kernel)
        (case z14n => first | k_is | rfl | decide +kernel)
        (case z14o => first | k_is | rfl | decide +kernel)
        (case z14p => first | k_is | rfl | decide +kernel)
        (case z14q => first | k_is | rfl | decide +kernel)
        (case z14r => first | k_is | rfl | decide +kernel)
        (case z14s => first | k_is | rfl | decide +kernel)
      case n_BadField_part =>
        refine' XB.nof_mk KX G ?z15a ?z15b
        (case z15a => first | k_is | rfl | decide +kernel)
        (case z15b => first | k_is | rfl | decide +kernel)
      case n_BadScript_place =>
        refine' XB.nof_mk KX G ?z16a ?z16b
        (case z16a => first | k_is | rfl | decide +kernel)
        (case z16b => first | k_is | rfl | decide +kernel)
      case n_BadNumber_value =>
        refine' XB.nof_mk KX G ?z17a ?z17b
        (case z17a => first | k_is | rfl | decide +kernel)
        (case z17b => first | k_is | rfl | decide +kernel)
      case n_TooGreat_most =>
        refine' XB.nof_mk KX G ?z18a ?z18b
        (case z18a => first | k_is | rfl | decide +kernel)
        (case z18b => first | k_is | rfl | decide +kernel)
      case n_Held_value =>
        refine' XB.nof_mk KX G ?z19a ?z19b
        (case z19a => first | k_is | rfl | decide +kernel)
        (case z19b => first | k_is | rfl | decide +kernel)
      case x_BadField_PileError =>
        refine' XB.exm_mk KX G ?z20a ?z20b ?z20c
        (case z20a => first | k_is | rfl | decide +kernel)
        (case z20b => first | k_is | rfl | decide +kernel)
        (case z20c => first | k_is | rfl | decide +kernel)
      case x_BadField_TooGreat =>
        refine' XB.exm_mk KX G ?z21a ?z21b ?z21c
        (case z21a => first | k_is | rfl | decide +kernel)
        (case z21b => first | k_is | rfl | decide +kernel)
        (case z21c => first | k_is | rfl | decide +kernel)
      case x_BadScript_PileError =>
        refine' XB.exm_mk KX G ?z22a ?z22b ?z22c
        (case z22a => first | k_is | rfl | decide +kernel)
        (case z22b => first | k_is | rfl | decide +kernel)
        (case z22c => first | k_is | rfl | decide +kernel)
      case x_BadScript_TooGreat =>
        refine' XB.exm_mk KX G ?z23a ?z23b ?z23c
        (case z23a => first | k_is | rfl | decide +kernel)
        (case z23b => first | k_is | rfl | decide +kernel)
        (case z23c => first | k_is | rfl | decide +kernel)
      case x_BadNumber_PileError =>
        refine' XB.exm_mk KX G ?z24a ?z24b ?z24c
        (case z24a => first | k_is | rfl | decide +kernel)
        (case z24b => first | k_is | rfl | decide +kernel)
        (case z24c => first | k_is | rfl | decide +kernel)
      case x_BadNumber_TooGreat =>
        refine' XB.exm_mk KX G ?z25a ?z25b ?z25c
        (case z25a => first | k_is | rfl | decide +kernel)
        (case z25b => first | k_is | rfl | decide +kernel)
        (case z25c => first | k_is | rfl | decide +kernel)
      case x_TooGreat_PileError =>
        refine' XB.exm_mk KX G ?z26a ?z26b ?z26c
        (case z26a => first | k_is | rfl | decide +kernel)
        (case z26b => first | k_is | rfl | decide +kernel)
        (case z26c => first | k_is | rfl | decide +kernel)
      case x_TooGreat_TooGreat =>
        refine' XB.exm_mk KX G ?z27a ?z27b ?z27c
        (case z27a => first | k_is | rfl | decide +kernel)
        (case z27b => first | k_is | rfl | decide +kernel)
        (case z27c => first | k_is | rfl | decide +kernel)
      case x_Held_PileError =>
        refine' XB.exm_mk KX G ?z28a ?z28b ?z28c
        (case z28a => first | k_is | rfl | decide +kernel)
        (case z28b => first | k_is | rfl | decide +kernel)
        (case z28c => first | k_is | rfl | decide +kernel)
      case x_Held_TooGreat =>
        refine' XB.exm_mk KX G ?z29a ?z29b ?z29c
        (case z29a => first | k_is | rfl | decide +kernel)
        (case z29b => first | k_is | rfl | decide +kernel)
        (case z29c => first | k_is | rfl | decide +kernel)
      case i_BadField_BadScript =>
        refine' XB.kit_mk KX G ?z30a ?z30b ?z30c
        (case z30a => first | k_is | rfl | decide +kernel)
        (case z30b => first | k_is | rfl | decide +kernel)
        (case z30c => first | k_is | rfl | decide +kernel)
      case i_BadField_BadClaims =>
        refine' XB.kit_mk KX G ?z31a ?z31b ?z31c
        (case z31a => first | k_is | rfl | decide +kernel)
        (case z31b => first | k_is | rfl | decide +kernel)
        (case z31c => first | k_is | rfl | decide +kernel)
      case i_BadField_BadField =>
        refine' XB.kit_mk KX G ?z32a ?z32b ?z32c
        (case z32a => first | k_is | rfl | decide +kernel)
        (case z32b => first | k_is | rfl | decide +kernel)
        (case z32c => first | k_is | rfl | decide +kernel)
      case i_BadField_BadText =>
        refine' XB.kit_mk KX G ?z33a ?z33b ?z33c
        (case z33a => first | k_is | rfl | decide +kernel)
        (case z33b => first | k_is | rfl | decide +kernel)
        (case z33c => first | k_is | rfl | decide +kernel)
      case i_BadField_BadNumber =>
        refine' XB.kit_mk KX G ?z34a ?z34b ?z34c
        (case z34a => first | k_is | rfl | decide +kernel)
        (case z34b => first | k_is | rfl | decide +kernel)
        (case z34c => first | k_is | rfl | decide +kernel)
      case i_BadField_Unlike =>
        refine' XB.kit_mk KX G ?z35a ?z35b ?z35c
        (case z35a => first | k_is | rfl | decide +kernel)
        (case z35b => first | k_is | rfl | decide +kernel)
        (case z35c => first | k_is | rfl | decide +kernel)
      case i_BadField_Held =>
        refine' XB.kit_mk KX G ?z36a ?z36b ?z36c
        (case z36a => first | k_is | rfl | decide +kernel)
        (case z36b => first | k_is | rfl | decide +kernel)
        (case z36c => first | k_is | rfl | decide +kernel)
      case i_BadField_TooGreat =>
        refine' XB.kit_mk KX G ?z37a ?z37b ?z37c
        (case z37a => first | k_is | rfl | decide +kernel)
        (case z37b => first | k_is | rfl | decide +kernel)
        (case z37c => first | k_is | rfl | decide +kernel)
      case i_BadScript_BadScript =>
        refine' XB.kit_mk KX G ?z38a ?z38b ?z38c
        (case z38a => first | k_is | rfl | decide +kernel)
        (case z38b => first | k_is | rfl | decide +kernel)
        (case z38c => first | k_is | rfl | decide +kernel)
      case i_BadScript_BadClaims =>
        refine' XB.kit_mk KX G ?z39a ?z39b ?z39c
        (case z39a => first | k_is | rfl | decide +kernel)
        (case z39b => first | k_is | rfl | decide +kernel)
        (case z39c => first | k_is | rfl | decide +kernel)
      case i_BadScript_BadField =>
        refine' XB.kit_mk KX G ?z40a ?z40b ?z40c
        (case z40a => first | k_is | rfl | decide +kernel)
        (case z40b => first | k_is | rfl | decide +kernel)
        (case z40c => first | k_is | rfl | decide +kernel)
      case i_BadScript_BadText =>
        refine' XB.kit_mk KX G ?z41a ?z41b ?z41c
        (case z41a => first | k_is | rfl | decide +kernel)
        (case z41b => first | k_is | rfl | decide +kernel)
        (case z41c => first | k_is | rfl | decide +kernel)
      case i_BadScript_BadNumber =>
        refine' XB.kit_mk KX G ?z42a ?z42b ?z42c
        (case z42a => first | k_is | rfl | decide +kernel)
        (case z42b => first | k_is | rfl | decide +kernel)
        (case z42c => first | k_is | rfl | decide +kernel)
      case i_BadScript_Unlike =>
        refine' XB.kit_mk KX G ?z43a ?z43b ?z43c
        (case z43a => first | k_is | rfl | decide +kernel)
        (case z43b => first | k_is | rfl | decide +kernel)
        (case z43c => first | k_is | rfl | decide +kernel)
      case i_BadScript_Held =>
        refine' XB.kit_mk KX G ?z44a ?z44b ?z44c
        (case z44a => first | k_is | rfl | decide +kernel)
        (case z44b => first | k_is | rfl | decide +kernel)
        (case z44c => first | k_is | rfl | decide +kernel)
      case i_BadScript_TooGreat =>
        refine' XB.kit_mk KX G ?z45a ?z45b ?z45c
        (case z45a => first | k_is | rfl | decide +kernel)
        (case z45b => first | k_is | rfl | decide +kernel)
        (case z45c => first | k_is | rfl | decide +kernel)
      case i_BadNumber_BadScript =>
        refine' XB.kit_mk KX G ?z46a ?z46b ?z46c
        (case z46a => first | k_is | rfl | decide +kernel)
        (case z46b => first | k_is | rfl | decide +kernel)
        (case z46c => first | k_is | rfl | decide +kernel)
      case i_BadNumber_BadClaims =>
        refine' XB.kit_mk KX G ?z47a ?z47b ?z47c
        (case z47a => first | k_is | rfl | decide +kernel)
        (case z47b => first | k_is | rfl | decide +kernel)
        (case z47c => first | k_is | rfl | decide +kernel)
      case i_BadNumber_BadField =>
        refine' XB.kit_mk KX G ?z48a ?z48b ?z48c
        (case z48a => first | k_is | rfl | decide +kernel)
        (case z48b => first | k_is | rfl | decide +kernel)
        (case z48c => first | k_is | rfl | decide +kernel)
      case i_BadNumber_BadText =>
        refine' XB.kit_mk KX G ?z49a ?z49b ?z49c
        (case z49a => first | k_is | rfl | decide +kernel)
        (case z49b => first | k_is | rfl | decide +kernel)
        (case z49c => first | k_is | rfl | decide +kernel)
      case i_BadNumber_BadNumber =>
        refine' XB.kit_mk KX G ?z50a ?z50b ?z50c
        (case z50a => first | k_is | rfl | decide +kernel)
        (case z50b => first | k_is | rfl | decide +kernel)
        (case z50c => first | k_is | rfl | decide +kernel)
      case i_BadNumber_Unlike =>
        refine' XB.kit_mk KX G ?z51a ?z51b ?z51c
        (case z51a => first | k_is | rfl | decide +kernel)
        (case z51b => first | k_is | rfl | decide +kernel)
        (case z51c => first | k_is | rfl | decide +kernel)
      case i_BadNumber_Held =>
        refine' XB.kit_mk KX G ?z52a ?z52b ?z52c
        (case z52a => first | k_is | rfl | decide +kernel)
        (case z52b => first | k_is | rfl | decide +kernel)
        (case z52c => first | k_is | rfl | decide +kernel)
      case i_BadNumber_TooGreat =>
        refine' XB.kit_mk KX G ?z53a ?z53b ?z53c
        (case z53a => first | k_is | rfl | decide +kernel)
        (case z53b => first | k_is | rfl | decide +kernel)
        (case z53c => first | k_is | rfl | decide +kernel)
      case i_TooGreat_BadScript =>
        refine' XB.kit_mk KX G ?z54a ?z54b ?z54c
        (case z54a => first | k_is | rfl | decide +kernel)
        (case z54b => first | k_is | rfl | decide +kernel)
        (case z54c => first | k_is | rfl | decide +kernel)
      case i_TooGreat_BadClaims =>
        refine' XB.kit_mk KX G ?z55a ?z55b ?z55c
        (case z55a => first | k_is | rfl | decide +kernel)
        (case z55b => first | k_is | rfl | decide +kernel)
        (case z55c => first | k_is | rfl | decide +kernel)
      case i_TooGreat_BadField =>
        refine' XB.kit_mk KX G ?z56a ?z56b ?z56c
        (case z56a => first | k_is | rfl | decide +kernel)
        (case z56b => first | k_is | rfl | decide +kernel)
        (case z56c => first | k_is | rfl | decide +kernel)
      case i_TooGreat_BadText =>
        refine' XB.kit_mk KX G ?z57a ?z57b ?z57c
        (case z57a => first | k_is | rfl | decide +kernel)
        (case z57b => first | k_is | rfl | decide +kernel)
        (case z57c => first | k_is | rfl | decide +kernel)
      case i_TooGreat_BadNumber =>
        refine' XB.kit_mk KX G ?z58a ?z58b ?z58c
        (case z58a => first | k_is | rfl | decide +kernel)
        (case z58b => first | k_is | rfl | decide +kernel)
        (case z58c => first | k_is | rfl | decide +kernel)
      case i_TooGreat_Unlike =>
        refine' XB.kit_mk KX G ?z59a ?z59b ?z59c
        (case z59a => first | k_is | rfl | decide +kernel)
        (case z59b => first | k_is | rfl | decide +kernel)
        (case z59c => first | k_is | rfl | decide +kernel)
      case i_TooGreat_Held =>
        refine' XB.kit_mk KX G ?z60a ?z60b ?z60c
        (case z60a => first | k_is | rfl | decide +kernel)
        (case z60b => first | k_is | rfl | decide +kernel)
        (case z60c => first | k_is | rfl | decide +kernel)
      case i_TooGreat_TooGreat =>
        refine' XB.kit_mk KX G ?z61a ?z61b ?z61c
        (case z61a => first | k_is | rfl | decide +kernel)
        (case z61b => first | k_is | rfl | decide +kernel)
        (case z61c => first | k_is | rfl | decide +kernel)
      case i_Held_BadScript =>
        refine' XB.kit_mk KX G ?z62a ?z62b ?z62c
        (case z62a => first | k_is | rfl | decide +kernel)
        (case z62b => first | k_is | rfl | decide +kernel)
        (case z62c => first | k_is | rfl | decide +kernel)
      case i_Held_BadClaims =>
        refine' XB.kit_mk KX G ?z63a ?z63b ?z63c
        (case z63a => first | k_is | rfl | decide +kernel)
        (case z63b => first | k_is | rfl | decide +kernel)
        (case z63c => first | k_is | rfl | decide +kernel)
      case i_Held_BadField =>
        refine' XB.kit_mk KX G ?z64a ?z64b ?z64c
        (case z64a => first | k_is | rfl | decide +kernel)
        (case z64b => first | k_is | rfl | decide +kernel)
        (case z64c => first | k_is | rfl | decide +kernel)
      case i_Held_BadText =>
        refine' XB.kit_mk KX G ?z65a ?z65b ?z65c
        (case z65a => first | k_is | rfl | decide +kernel)
        (case z65b => first | k_is | rfl | decide +kernel)
        (case z65c => first | k_is | rfl | decide +kernel)
      case i_Held_BadNumber =>
        refine' XB.kit_mk KX G ?z66a ?z66b ?z66c
        (case z66a => first | k_is | rfl | decide +kernel)
        (case z66b => first | k_is | rfl | decide +kernel)
        (case z66c => first | k_is | rfl | decide +kernel)
      case i_Held_Unlike =>
        refine' XB.kit_mk KX G ?z67a ?z67b ?z67c
        (case z67a => first | k_is | rfl | decide +kernel)
        (case z67b => first | k_is | rfl | decide +kernel)
        (case z67c => first | k_is | rfl | decide +kernel)
      case i_Held_Held =>
        refine' XB.kit_mk KX G ?z68a ?z68b ?z68c
        (case z68a => first | k_is | rfl | decide +kernel)
        (case z68b => first | k_is | rfl | decide +kernel)
        (case z68c => first | k_is | rfl | decide +kernel)
      case i_Held_TooGreat =>
        refine' XB.kit_mk KX G ?z69a ?z69b ?z69c
        (case z69a => first | k_is | rfl | decide +kernel)
        (case z69b => first | k_is | rfl | decide +kernel)
        (case z69c => first | k_is | rfl | decide +kernel)
      case o_Sheet =>
        refine' XB.oc_mk KX G ?z70a ?z70b ?z70c ?z70d ?z70e ?z70f ?z70g ?z70h ?z70i ?z70j ?z70k ?z70l
        (case z70a => first | k_is | rfl | decide +kernel)
        (case z70b => first | k_is | rfl | decide +kernel)
        (case z70c => first | k_is | rfl | decide +kernel)
        (case z70d => first | k_is | rfl | decide +kernel)
        (case z70e => first | k_is | rfl | decide +kernel)
        (case z70f => first | k_is | rfl | decide +kernel)
        (case z70g => first | k_is | rfl | decide +kernel)
        (case z70h => first | k_is | rfl | decide +kernel)
        (case z70i => first | k_is | rfl | decide +kernel)
        (case z70j => first | k_is | rfl | decide +kernel)
        (case z70k => first | k_is | rfl | decide +kernel)
        (case z70l => first | k_is | rfl | decide +kernel)
      case m_Sheet___init__ =>
        refine' XB.mt_mk KX G ?z71a ?z71b ?z71c ?z71d ?z71e ?z71f
        (case z71a => first | k_is | rfl | decide +kernel)
        (case z71b => first | k_is | rfl | decide +kernel)
        (case z71c => first | k_is | rfl | decide +kernel)
        (case z71d => first | k_is | rfl | decide +kernel)
        (case z71e => first | k_is | rfl | decide +kernel)
        (case z71f => first | k_is | rfl | decide +kernel)
      case m_Sheet___len__ =>
        refine' XB.mt_mk KX G ?z72a ?z72b ?z72c ?z72d ?z72e ?z72f
        (case z72a => first | k_is | rfl | decide +kernel)
        (case z72b => first | k_is | rfl | decide +kernel)
        (case z72c => first | k_is | rfl | decide +kernel)
        (case z72d => first | k_is | rfl | decide +kernel)
        (case z72e => first | k_is | rfl | decide +kernel)
        (case z72f => first | k_is | rfl | decide +kernel)
      case m_Sheet___contains__ =>
        refine' XB.mt_mk KX G ?z73a ?z73b ?z73c ?z73d ?z73e ?z73f
        (case z73a => first | k_is | rfl | decide +kernel)
        (case z73b => first | k_is | rfl | decide +kernel)
        (case z73c => first | k_is | rfl | decide +kernel)
        (case z73d => first | k_is | rfl | decide +kernel)
        (case z73e => first | k_is | rfl | decide +kernel)
        (case z73f => first | k_is | rfl | decide +kernel)
      case m_Sheet___eq__ =>
        refine' XB.mt_mk KX G ?z74a ?z74b ?z74c ?z74d ?z74e ?z74f
        (case z74a => first | k_is | rfl | decide +kernel)
        (case z74b => first | k_is | rfl | decide +kernel)
        (case z74c => first | k_is | rfl | decide +kernel)
        (case z74d => first | k_is | rfl | decide +kernel)
        (case z74e => first | k_is | rfl | decide +kernel)
        (case z74f => first | k_is | rfl | decide +kernel)
      case m_Sheet_least =>
        refine' XB.mt_mk KX G ?z75a ?z75b ?z75c ?z75d ?z75e ?z75f
        (case z75a => first | k_is | rfl | decide +kernel)
        (case z75b => first | k_is | rfl | decide +kernel)
        (case z75c => first | k_is | rfl | decide +kernel)
        (case z75d => first | k_is | rfl | decide +kernel)
        (case z75e => first | k_is | rfl | decide +kernel)
        (case z75f => first | k_is | rfl | decide +kernel)
      case m_Sheet_do =>
        refine' XB.mt_mk KX G ?z76a ?z76b ?z76c ?z76d ?z76e ?z76f
        (case z76a => first | k_is | rfl | decide +kernel)
        (case z76b => first | k_is | rfl | decide +kernel)
        (case z76c => first | k_is | rfl | decide +kernel)
        (case z76d => first | k_is | rfl | decide +kernel)
        (case z76e => first | k_is | rfl | decide +kernel)
        (case z76f => first | k_is | rfl | decide +kernel)
      case m_Sheet_free =>
        refine' XB.mt_mk KX G ?z77a ?z77b ?z77c ?z77d ?z77e ?z77f
        (case z77a => first | k_is | rfl | decide +kernel)
        (case z77b => first | k_is | rfl | decide +kernel)
        (case z77c => first | k_is | rfl | decide +kernel)
        (case z77d => first | k_is | rfl | decide +kernel)
        (case z77e => first | k_is | rfl | decide +kernel)
        (case z77f => first | k_is | rfl | decide +kernel)
      case m_Sheet_ahead_of =>
        refine' XB.mt_mk KX G ?z78a ?z78b ?z78c ?z78d ?z78e ?z78f
        (case z78a => first | k_is | rfl | decide +kernel)
        (case z78b => first | k_is | rfl | decide +kernel)
        (case z78c => first | k_is | rfl | decide +kernel)
        (case z78d => first | k_is | rfl | decide +kernel)
        (case z78e => first | k_is | rfl | decide +kernel)
        (case z78f => first | k_is | rfl | decide +kernel)
      case m_Sheet_take_back =>
        refine' XB.mt_mk KX G ?z79a ?z79b ?z79c ?z79d ?z79e ?z79f
        (case z79a => first | k_is | rfl | decide +kernel)
        (case z79b => first | k_is | rfl | decide +kernel)
        (case z79c => first | k_is | rfl | decide +kernel)
        (case z79d => first | k_is | rfl | decide +kernel)
        (case z79e => first | k_is | rfl | decide +kernel)
        (case z79f => first | k_is | rfl | decide +kernel)
      case m_Sheet_take_all =>
        refine' XB.mt_mk KX G ?z80a ?z80b ?z80c ?z80d ?z80e ?z80f
        (case z80a => first | k_is | rfl | decide +kernel)
        (case z80b => first | k_is | rfl | decide +kernel)
        (case z80c => first | k_is | rfl | decide +kernel)
        (case z80d => first | k_is | rfl | decide +kernel)
        (case z80e => first | k_is | rfl | decide +kernel)
        (case z80f => first | k_is | rfl | decide +kernel)
      case m_Sheet_undo =>
        refine' XB.mt_mk KX G ?z81a ?z81b ?z81c ?z81d ?z81e ?z81f
        (case z81a => first | k_is | rfl | decide +kernel)
        (case z81b => first | k_is | rfl | decide +kernel)
        (case z81c => first | k_is | rfl | decide +kernel)
        (case z81d => first | k_is | rfl | decide +kernel)
        (case z81e => first | k_is | rfl | decide +kernel)
        (case z81f => first | k_is | rfl | decide +kernel)
      case m_Sheet_redo =>
        refine' XB.mt_mk KX G ?z82a ?z82b ?z82c ?z82d ?z82e ?z82f
        (case z82a => first | k_is | rfl | decide +kernel)
        (case z82b => first | k_is | rfl | decide +kernel)
        (case z82c => first | k_is | rfl | decide +kernel)
        (case z82d => first | k_is | rfl | decide +kernel)
        (case z82e => first | k_is | rfl | decide +kernel)
        (case z82f => first | k_is | rfl | decide +kernel)
      case m_Sheet_copy =>
        refine' XB.mt_mk KX G ?z83a ?z83b ?z83c ?z83d ?z83e ?z83f
        (case z83a => first | k_is | rfl | decide +kernel)
        (case z83b => first | k_is | rfl | decide +kernel)
        (case z83c => first | k_is | rfl | decide +kernel)
        (case z83d => first | k_is | rfl | decide +kernel)
        (case z83e => first | k_is | rfl | decide +kernel)
        (case z83f => first | k_is | rfl | decide +kernel)
      case m_Sheet_trial =>
        refine' XB.mt_mk KX G ?z84a ?z84b ?z84c ?z84d ?z84e ?z84f
        (case z84a => first | k_is | rfl | decide +kernel)
        (case z84b => first | k_is | rfl | decide +kernel)
        (case z84c => first | k_is | rfl | decide +kernel)
        (case z84d => first | k_is | rfl | decide +kernel)
        (case z84e => first | k_is | rfl | decide +kernel)
        (case z84f => first | k_is | rfl | decide +kernel)
      case m_Sheet__go_on =>
        refine' XB.mt_mk KX G ?z85a ?z85b ?z85c ?z85d ?z85e ?z85f
        (case z85a => first | k_is | rfl | decide +kernel)
        (case z85b => first | k_is | rfl | decide +kernel)
        (case z85c => first | k_is | rfl | decide +kernel)
        (case z85d => first | k_is | rfl | decide +kernel)
        (case z85e => first | k_is | rfl | decide +kernel)
        (case z85f => first | k_is | rfl | decide +kernel)
      case m_Sheet__leave_out =>
        refine' XB.mt_mk KX G ?z86a ?z86b ?z86c ?z86d ?z86e ?z86f
        (case z86a => first | k_is | rfl | decide +kernel)
        (case z86b => first | k_is | rfl | decide +kernel)
        (case z86c => first | k_is | rfl | decide +kernel)
        (case z86d => first | k_is | rfl | decide +kernel)
        (case z86e => first | k_is | rfl | decide +kernel)
        (case z86f => first | k_is | rfl | decide +kernel)
      case p_Sheet_field =>
        refine' XB.pt_mk KX G ?z87a ?z87b ?z87c ?z87d ?z87e ?z87f ?z87g ?z87h
        (case z87a => first | k_is | rfl | decide +kernel)
        (case z87b => first | k_is | rfl | decide +kernel)
        (case z87c => first | k_is | rfl | decide +kernel)
        (case z87d => first | k_is | rfl | decide +kernel)
        (case z87e => first | k_is | rfl | decide +kernel)
        (case z87f => first | k_is | rfl | decide +kernel)
        (case z87g => first | k_is | rfl | decide +kernel)
        (case z87h => first | k_is | rfl | decide +kernel)
      case p_Sheet_row =>
        refine' XB.pt_mk KX G ?z88a ?z88b ?z88c ?z88d ?z88e ?z88f ?z88g ?z88h
        (case z88a => first | k_is | rfl | decide +kernel)
        (case z88b => first | k_is | rfl | decide +kernel)
        (case z88c => first | k_is | rfl | decide +kernel)
        (case z88d => first | k_is | rfl | decide +kernel)
        (case z88e => first | k_is | rfl | decide +kernel)
        (case z88f => first | k_is | rfl | decide +kernel)
        (case z88g => first | k_is | rfl | decide +kernel)
        (case z88h => first | k_is | rfl | decide +kernel)
      case p_Sheet_steps =>
        refine' XB.pt_mk KX G ?z89a ?z89b ?z89c ?z89d ?z89e ?z89f ?z89g ?z89h
        (case z89a => first | k_is | rfl | decide +kernel)
        (case z89b => first | k_is | rfl | decide +kernel)
        (case z89c => first | k_is | rfl | decide +kernel)
        (case z89d => first | k_is | rfl | decide +kernel)
        (case z89e => first | k_is | rfl | decide +kernel)
        (case z89f => first | k_is | rfl | decide +kernel)
        (case z89g => first | k_is | rfl | decide +kernel)
        (case z89h => first | k_is | rfl | decide +kernel)
      case n_Sheet__field =>
        refine' XB.nof_mk KX G ?z90a ?z90b
        (case z90a => first | k_is | rfl | decide +kernel)
        (case z90b => first | k_is | rfl | decide +kernel)
      case n_Sheet__state =>
        refine' XB.nof_mk KX G ?z91a ?z91b
        (case z91a => first | k_is | rfl | decide +kernel)
        (case z91b => first | k_is | rfl | decide +kernel)
      case k_Sheet =>
        refine' XB.kitd_mk KX G ?z92a ?z92b ?z92c ?z92d ?z92e ?z92f ?z92g ?z92h
        (case z92a => first | k_is | rfl | decide +kernel)
        (case z92b => first | k_is | rfl | decide +kernel)
        (case z92c => first | k_is | rfl | decide +kernel)
        (case z92d => first | k_is | rfl | decide +kernel)
        (case z92e => first | k_is | rfl | decide +kernel)
        (case z92f => first | k_is | rfl | decide +kernel)
        (case z92g => first | k_is | rfl | decide +kernel)
        (case z92h => first | k_is | rfl | decide +kernel)
      case i_Sheet_Sheet =>
        refine' XB.kit_mk KX G ?z93a ?z93b ?z93c
        (case z93a => first | k_is | rfl | decide +kernel)
        (case z93b => first | k_is | rfl | decide +kernel)
        (case z93c => first | k_is | rfl | decide +kernel)
      case b_OverflowError =>
        refine' PySem.W.mg_none_of KX G ?z94a
        (case z94a => k_is)
      case b_ValueError =>
        refine' PySem.W.mg_none_of KX G ?z95a
        (case z95a => k_is)
      case b_abs =>
        refine' PySem.W.mg_none_of KX G ?z96a
        (case z96a => k_is)
      case b_all =>
        refine' PySem.W.mg_none_of KX G ?z97a
        (case z97a => k_is)
      case b_bool =>
        refine' PySem.W.mg_none_of KX G ?z98a
        (case z98a => k_is)
      case b_enumerate =>
        refine' PySem.W.mg_none_of KX G ?z99a
        (case z99a => k_is)
      case b_int =>
        refine' PySem.W.mg_none_of KX G ?z100a
        (case z100a => k_is)
      case b_isinstance =>
        refine' PySem.W.mg_none_of KX G ?z101a
        (case z101a => k_is)
      case b_len =>
        refine' PySem.W.mg_none_of KX G ?z102a
        (case z102a => k_is)
      case b_list =>
        refine' PySem.W.mg_none_of KX G ?z103a
        (case z103a => k_is)
      case b_max =>
        refine' PySem.W.mg_none_of KX G ?z104a
        (case z104a => k_is)
      case b_min =>
        refine' PySem.W.mg_none_of KX G ?z105a
        (case z105a => k_is)
      case b_range =>
        refine' PySem.W.mg_none_of KX G ?z106a
        (case z106a => k_is)
      case b_repr =>
        refine' PySem.W.mg_none_of KX G ?z107a
        (case z107a => k_is)
      case b_str =>
        refine' PySem.W.mg_none_of KX G ?z108a
        (case z108a => k_is)
      case b_tuple =>
        refine' PySem.W.mg_none_of KX G ?z109a
        (case z109a => k_is)
      case b_zip =>
        refine' PySem.W.mg_none_of KX G ?z110a
        (case z110a => k_is)
      case g_MOST_NAMES =>
        refine' XB.int_mk KX G ?z111a ?z111q
        (case z111a => k_is)
        (case z111q => rfl)
      case g_MOST_LETTERS =>
        refine' XB.int_mk KX G ?z112a ?z112q
        (case z112a => k_is)
        (case z112q => rfl)
      case g_MOST_STEPS =>
        refine' XB.int_mk KX G ?z113a ?z113q
        (case z113a => k_is)
        (case z113q => rfl)
      case g_MOST_TIMES => exact hMT
      case d__wall =>
        refine' XB.dn_mk KX G ?z115a ?z115l ?z115c ?z115k
        (case z115a => k_is)
        (case z115l => k_is)
        (case z115c => k_is)
        (case z115k => k_is)
      case d_is_whole =>
        refine' XB.dn_mk KX G ?z116a ?z116l ?z116c ?z116k
        (case z116a => k_is)
        (case z116l => k_is)
        (case z116c => k_is)
        (case z116k => k_is)
      case d_is_pair =>
        refine' XB.dn_mk KX G ?z117a ?z117l ?z117c ?z117k
        (case z117a => k_is)
        (case z117l => k_is)
        (case z117c => k_is)
        (case z117k => k_is)
      case d_is_ascending =>
        refine' XB.dn_mk KX G ?z118a ?z118l ?z118c ?z118k
        (case z118a => k_is)
        (case z118l => k_is)
        (case z118c => k_is)
        (case z118k => k_is)
      case d_need_field =>
        refine' XB.dn_mk KX G ?z119a ?z119l ?z119c ?z119k
        (case z119a => k_is)
        (case z119l => k_is)
        (case z119c => k_is)
        (case z119k => k_is)
      case d_touch_table =>
        refine' XB.dn_mk KX G ?z120a ?z120l ?z120c ?z120k
        (case z120a => k_is)
        (case z120l => k_is)
        (case z120c => k_is)
        (case z120k => k_is)
      case d_names_touching =>
        refine' XB.dn_mk KX G ?z121a ?z121l ?z121c ?z121k
        (case z121a => k_is)
        (case z121l => k_is)
        (case z121c => k_is)
        (case z121k => k_is)
      case d_are_apart =>
        refine' XB.dn_mk KX G ?z122a ?z122l ?z122c ?z122k
        (case z122a => k_is)
        (case z122l => k_is)
        (case z122c => k_is)
        (case z122k => k_is)
      case d_are_names =>
        refine' XB.dn_mk KX G ?z123a ?z123l ?z123c ?z123k
        (case z123a => k_is)
        (case z123l => k_is)
        (case z123c => k_is)
        (case z123k => k_is)
      case d_is_name =>
        refine' XB.dn_mk KX G ?z124a ?z124l ?z124c ?z124k
        (case z124a => k_is)
        (case z124l => k_is)
        (case z124c => k_is)
        (case z124k => k_is)
      case d_are_pairs =>
        refine' XB.dn_mk KX G ?z125a ?z125l ?z125c ?z125k
        (case z125a => k_is)
        (case z125l => k_is)
        (case z125c => k_is)
        (case z125k => k_is)
      case d_is_pair_of =>
        refine' XB.dn_mk KX G ?z126a ?z126l ?z126c ?z126k
        (case z126a => k_is)
        (case z126l => k_is)
        (case z126c => k_is)
        (case z126k => k_is)
      case d_need_script =>
        refine' XB.dn_mk KX G ?z127a ?z127l ?z127c ?z127k
        (case z127a => k_is)
        (case z127l => k_is)
        (case z127c => k_is)
        (case z127k => k_is)
      case d_is_step =>
        refine' XB.dn_mk KX G ?z128a ?z128l ?z128c ?z128k
        (case z128a => k_is)
        (case z128l => k_is)
        (case z128c => k_is)
        (case z128k => k_is)
      case d_is_great_step =>
        refine' XB.dn_mk KX G ?z129a ?z129l ?z129c ?z129k
        (case z129a => k_is)
        (case z129l => k_is)
        (case z129c => k_is)
        (case z129k => k_is)
      case d_is_times =>
        refine' XB.dn_mk KX G ?z130a ?z130l ?z130c ?z130k
        (case z130a => k_is)
        (case z130l => k_is)
        (case z130c => k_is)
        (case z130k => k_is)
      case d_least_pile =>
        refine' XB.dn_mk KX G ?z131a ?z131l ?z131c ?z131k
        (case z131a => k_is)
        (case z131l => k_is)
        (case z131c => k_is)
        (case z131k => k_is)
      case d_are_alike =>
        refine' XB.dn_mk KX G ?z132a ?z132l ?z132c ?z132k
        (case z132a => k_is)
        (case z132l => k_is)
        (case z132c => k_is)
        (case z132k => k_is)
      case d_piled =>
        refine' XB.dn_mk KX G ?z133a ?z133l ?z133c ?z133k
        (case z133a => k_is)
        (case z133l => k_is)
        (case z133c => k_is)
        (case z133k => k_is)
      case d_last_touched =>
        refine' XB.dn_mk KX G ?z134a ?z134l ?z134c ?z134k
        (case z134a => k_is)
        (case z134l => k_is)
        (case z134c => k_is)
        (case z134k => k_is)
      case d_place_behind =>
        refine' XB.dn_mk KX G ?z135a ?z135l ?z135c ?z135k
        (case z135a => k_is)
        (case z135l => k_is)
        (case z135c => k_is)
        (case z135k => k_is)
      case d_need_place =>
        refine' XB.dn_mk KX G ?z136a ?z136l ?z136c ?z136k
        (case z136a => k_is)
        (case z136l => k_is)
        (case z136c => k_is)
        (case z136k => k_is)
      case d_holders =>
        refine' XB.dn_mk KX G ?z137a ?z137l ?z137c ?z137k
        (case z137a => k_is)
        (case z137l => k_is)
        (case z137c => k_is)
        (case z137k => k_is)
      case d__law_mixed =>
        refine' XB.dn_mk KX G ?z138a ?z138l ?z138c ?z138k
        (case z138a => k_is)
        (case z138l => k_is)
        (case z138c => k_is)
        (case z138k => k_is)
      case d__law_folded =>
        refine' XB.dn_mk KX G ?z139a ?z139l ?z139c ?z139k
        (case z139a => k_is)
        (case z139l => k_is)
        (case z139c => k_is)
        (case z139k => k_is)
      case d__law_draw =>
        refine' XB.dn_mk KX G ?z140a ?z140l ?z140c ?z140k
        (case z140a => k_is)
        (case z140l => k_is)
        (case z140c => k_is)
        (case z140k => k_is)
      case d__law_begun =>
        refine' XB.dn_mk KX G ?z141a ?z141l ?z141c ?z141k
        (case z141a => k_is)
        (case z141l => k_is)
        (case z141c => k_is)
        (case z141k => k_is)
      case d__law_like =>
        refine' XB.dn_mk KX G ?z142a ?z142l ?z142c ?z142k
        (case z142a => k_is)
        (case z142l => k_is)
        (case z142c => k_is)
        (case z142k => k_is)
      case d__law_field =>
        refine' XB.dn_mk KX G ?z143a ?z143l ?z143c ?z143k
        (case z143a => k_is)
        (case z143l => k_is)
        (case z143c => k_is)
        (case z143k => k_is)
      case d__law_apart =>
        refine' XB.dn_mk KX G ?z144a ?z144l ?z144c ?z144k
        (case z144a => k_is)
        (case z144l => k_is)
        (case z144c => k_is)
        (case z144k => k_is)
      case d__law_meet =>
        refine' XB.dn_mk KX G ?z145a ?z145l ?z145c ?z145k
        (case z145a => k_is)
        (case z145l => k_is)
        (case z145c => k_is)
        (case z145k => k_is)
      case d__law_pile =>
        refine' XB.dn_mk KX G ?z146a ?z146l ?z146c ?z146k
        (case z146a => k_is)
        (case z146l => k_is)
        (case z146c => k_is)
        (case z146k => k_is)
      case d__law_firsts =>
        refine' XB.dn_mk KX G ?z147a ?z147l ?z147c ?z147k
        (case z147a => k_is)
        (case z147l => k_is)
        (case z147c => k_is)
        (case z147k => k_is)
      case d__law_least =>
        refine' XB.dn_mk KX G ?z148a ?z148l ?z148c ?z148k
        (case z148a => k_is)
        (case z148l => k_is)
        (case z148c => k_is)
        (case z148k => k_is)
      case d__law_back =>
        refine' XB.dn_mk KX G ?z149a ?z149l ?z149c ?z149k
        (case z149a => k_is)
        (case z149l => k_is)
        (case z149c => k_is)
        (case z149k => k_is)
      case d__law_said =>
        refine' XB.dn_mk KX G ?z150a ?z150l ?z150c ?z150k
        (case z150a => k_is)
        (case z150l => k_is)
        (case z150c => k_is)
        (case z150k => k_is)
      case d__law_own =>
        refine' XB.dn_mk KX G ?z151a ?z151l ?z151c ?z151k
        (case z151a => k_is)
        (case z151l => k_is)
        (case z151c => k_is)
        (case z151k => k_is)
      case d__law_held =>
        refine' XB.dn_mk KX G ?z152a ?z152l ?z152c ?z152k
        (case z152a => k_is)
        (case z152l => k_is)
        (case z152c => k_is)
        (case z152k => k_is)
      case d__law_kept =>
        refine' XB.dn_mk KX G ?z153a ?z153l ?z153c ?z153k
        (case z153a => k_is)
        (case z153l => k_is)
        (case z153c => k_is)
        (case z153k => k_is)
      case d__law_without =>
        refine' XB.dn_mk KX G ?z154a ?z154l ?z154c ?z154k
        (case z154a => k_is)
        (case z154l => k_is)
        (case z154c => k_is)
        (case z154k => k_is)
      case d__law_shift =>
        refine' XB.dn_mk KX G ?z155a ?z155l ?z155c ?z155k
        (case z155a => k_is)
        (case z155l => k_is)
        (case z155c => k_is)
        (case z155k => k_is)
      case d__law_stands =>
        refine' XB.dn_mk KX G ?z156a ?z156l ?z156c ?z156k
        (case z156a => k_is)
        (case z156l => k_is)
        (case z156c => k_is)
        (case z156k => k_is)
      case d__law_step =>
        refine' XB.dn_mk KX G ?z157a ?z157l ?z157c ?z157k
        (case z157a => k_is)
        (case z157l => k_is)
        (case z157c => k_is)
        (case z157k => k_is)
      case d__law_alike =>
        refine' XB.dn_mk KX G ?z158a ?z158l ?z158c ?z158k
        (case z158a => k_is)
        (case z158l => k_is)
        (case z158c => k_is)
        (case z158k => k_is)
      case d_law =>
        refine' XB.dn_mk KX G ?z159a ?z159l ?z159c ?z159k
        (case z159a => k_is)
        (case z159l => k_is)
        (case z159c => k_is)
        (case z159k => k_is)
    (case la => k_is)
    (case ll => k_is)
    (case lc => k_is)
    (case lk => k_is)
    (case xa1 => k_is)
    (case xl1 => k_is)
    (case xe1 => rfl)
    (case xm1 => k_is)
    (case xn1 => rfl)
