import PyProof.Rows.All
import HandS.ForMost
import HandS.Wide
import HandS.Walk
import HandS.WordsExc
import HandS.Codes
import HandS.ExcInit
import KE.KExcInit
import PyProof.ExcBaseAll.OverflowError
import HandS.ExcField
import HandS.ExcIs
import HandS.IsInst
import KE.KExcIs
import PySem.Challenge.RW_deedpiles_k13_whole_yards
import PyProof.ReprRoads
import PyProof.CallFns
import HandS.TupLe
import HandS.Zip
import HandS.Deep
import HandS.DictComp
import HandS.TupAny
import KE.GoesMore
import KE.GoesEnum
import PyProof.EnumMake
import PyProof.Draws
import HandS.Conv
import HandS.More
import HandS.Style
import KE.KRevSl
import HandS.Flow
import HandS.Strs
import PyProof.ReprBulk
import HandS.ExcValue
import HandS.Lambda
import KE.SortData
import PyProof.P3Eq
import HandS.ExcOwn
import KE.KDictZip
import HandS.Dict
import HandS.TupMul
import HandS.Ends
import HandS.EndTab
set_option Elab.async false
set_option linter.all false
set_option maxRecDepth 100000
set_option maxHeartbeats 4000000
namespace XB
open PySem PySem.Spec PyProof.Rows L2
/-! ### defs of the text, called by their names -/
structure Cl (P : Program) (w : World) (K : PySem.W.Frag) (mg : Str → Option Value) (base : Heap) (CX : CXT) (k : Nat) (x : Str) (sp : Sp) : Prop where
  ex : ∃ (f : Addr) (fd : FuncData) (ps : List Str), FnOk P w K mg base CX k f fd ps sp ∧ mg x = some (.ref f) ∧ PySem.W.keepIn K (.ref f) = true ∧ Binds K fd ps []
/-- a def that stands in the module under its own name -/
structure Dn (K : PySem.W.Frag) (mg : Str → Option Value) (x : Str) (st : Stmt) : Prop where
  ex : ∃ (f : Addr) (fd : FuncData), Fun K x x st f fd ∧ mg x = some (.ref f)
section
variable {P : Program} {w : World} {K : PySem.W.Frag} {mg : Str → Option Value} {base : Heap}
theorem cl0 {x : Str} {st : Stmt} {N ps : List Str} {k : Nat} {sp : Sp} (D : Dn K mg x st)
    (hb : ∀ (kV doc pm : Value) (an : Option Addr) (cdv ct : Value) (us : List Value), us.length = ps.length → bindArgs (PySem.W.fnOf x x (defArgs st) (defBody st) (defScope st) .none kV doc pm an cdv ct) ⟨us, []⟩ = pure (ps.zip us))
    (S : FnScope N ps (defScope st)) (len : ∀ vs H Q E, sp vs H Q E → vs.length = ps.length)
    (hbody : ∀ (f : Addr) (cdv : Value) (A : Around) (outer : List Env) (s : Shared) (H : Hp) (vs : List V) (Q : VK) (E : XK), Room k (A.deeper (envOfC x (defScope st) s.heap.objs.size f cdv)) → sp vs H Q E →
      ∃ t, PSs (cxOf CX0 P w K mg base N x (defScope st) f cdv A outer s H E).nox (defBody st) t ∧ t { nx := fun _ H' => Q .non H', rt := Q } (start N vs) H) : Cl P w K mg base CX0 (k + 1) x sp := by
  obtain ⟨f, fd, F, hm⟩ := D.ex
  exact ⟨f, fd, ps, F.ok S len (fun cdv A outer s H vs Q E hr h => hbody f cdv A outer s H vs Q E hr h), hm, F.kp, F.binds hb⟩
end
section
variable {X : Cx} {k j : Nat} {x : Str} {sp : Sp} {p pos : Pos} {e : Expr} {es : List Expr} {t : TA}
theorem pe_k (c : Cl X.prog X.w X.K X.mg X.base CX0 k x sp) (hr : Room j X.A) (hk : k ≤ j) (hg : Gl X x) (ha : PA X (e :: es) t)
    (hdb : (x == ("__debug__" : Str)) = false := by decide) (he : starEach (e :: es) X.env = (false, eval e X.env) :: starEach es X.env := by rfl) (hpl : (backTo pos (starEach es X.env)).any (·.1) = false := by rfl) :
    PE X (.Call (.Name x p) (e :: es) [] pos) (tCall sp [] E0 t) := by
  obtain ⟨f, fd, ps, F, hm, kp, b⟩ := c.ex
  exact pe_call F (hr.mono hk) hg hm kp b .nil pass0 ha hdb he hpl
end
/-! ### heaps -/
theorem same_upd {H : Hp} {p : Addr} {o : HO} (h : H p = none) : Same H (upd H p o) := fun b x e => by
  rw [upd_ne (ne_of_none e h)]
  exact e
theorem Same.put {H H1 : Hp} {D : Addr} {o : HO} (s : Same H H1) (hD : H D = none) : Same H (upd H1 D o) := fun b x e => by
  rw [upd_ne (ne_of_none e hD)]
  exact s b x e
theorem Same.new {H H1 : Hp} {D : Addr} {o : HO} (s : Same H H1) (hD : H1 D = none) : Same H (upd H1 D o) := fun b x e => by
  rw [upd_ne (ne_of_none (s b x e) hD)]
  exact s b x e
theorem same_put {H H1 : Hp} {D : Addr} {o : HO} (s : Same H H1) (hD : H D = none) : Same H (upd H1 D o) := Same.put s hD
theorem same_new {H H1 : Hp} {D : Addr} {o : HO} (s : Same H H1) (hD : H1 D = none) : Same H (upd H1 D o) := Same.new s hD
theorem yes_ {σ : L2.St} {H : Hp} {A B : Hp → Prop} (h : A H) : tYes σ H (fun b H3 => if b = true then A H3 else B H3) := by
  show if true = true then A H else B H
  rw [if_pos rfl]
  exact h
/-- the int that stands at a place of a row of ints -/
theorem int_at {ns : List Int} {i : Nat} {x : V} (h : (ns.map V.int)[i]? = some x) : ∃ z, ns[i]? = some z ∧ x = V.int z := by
  rw [List.getElem?_map] at h
  cases e : ns[i]? with
  | none =>
    rw [e] at h
    cases h
  | some z =>
    rw [e] at h
    exact ⟨z, rfl, (Option.some.inj h).symm⟩
theorem str_at {ns : List Str} {i : Nat} {x : V} (h : (ns.map V.str)[i]? = some x) : ∃ z, ns[i]? = some z ∧ x = V.str z := by
  rw [List.getElem?_map] at h
  obtain ⟨z, e, rfl⟩ := Option.map_eq_some_iff.mp h
  exact ⟨z, e, rfl⟩
theorem map_set {xs : List Int} (k : Nat) (z : Int) : (xs.map V.int).set k (.int z) = (xs.set k z).map V.int := by
  rw [List.map_set]
theorem ixN_of {n : Nat} {z : Int} {k : Nat} (e : z = (k : Int)) (h : k < n) : ixN n z = some k := by
  unfold ixN
  rw [if_pos (by omega), if_pos (by omega), e]
  rfl
theorem atI_of {xs : List Int} {z : Int} {k : Nat} {v : Int} (e : z = (k : Int)) (h : xs[k]? = some v) : atI (xs.map V.int) z = some (V.int v) := by
  refine at_of e ?_
  rw [List.getElem?_map, h]
  rfl
end XB
set_option Elab.async false
set_option linter.all false
set_option maxRecDepth 100000
set_option maxHeartbeats 4000000
/-! own exceptions of another built-in class than ValueError -/
namespace PySem
namespace XOK
open Builtin Builtin.ObjectAttr HandSPX PySem.Spec PyProof.Rows
section
variable {prog : Program} {w : World} {A : Around} {E : Value → Shared → Prop} {R : Result → Shared → Prop} {hp : Heap} {g : Array GenState} {d : Drawn} {t : Nat} {os : OsState}
theorem osaG {K : W.Frag} {nm : Str} {tk : Tok} {y : Value} {a C : Addr} {fv : Array Value} {cd : ClassData} (KI : K.In hp) (ea : hp.get? a = some { cls := .ref C, data := .fields fv }) (ec : W.clsIn K C = some cd)
    (pa : ∀ self, refuseLoop self "__setattr__" cd.mro = pure ()) (ob : cd.mro.contains (.type "object") = true) (ne : cd.mro.isEmpty = false) (hd : cd.hasDict = true) (nf : W.findIn K (.ref C) nm = some none)
    (hq : ∀ h' tk' dx, (∀ b o, b ≠ a → hp.get? b = some o → h'.get? b = some o) → hp.objs.size ≤ dx → dx ≠ a → h'.get? a = some { cls := .ref C, dict := some dx, data := .fields fv } → h'.Ns1 dx (fun z => if z = nm then some y else none) → R (.ok (.ret .none)) ⟨h', g, d, tk', os⟩) :
    codeAny (model prog w) A (.call (.builtin "object.__setattr__") ⟨[.ref a, .str nm tk, y], []⟩) R ⟨hp, g, d, t, os⟩ := by
  have J : W.InstAt hp a { cls := .ref C, data := .fields fv } C none := ⟨ea, rfl, rfl, trivial⟩
  have ZF := F.store_object
  have nax : a ≠ hp.objs.size := Nat.ne_of_lt (Heap.lt_size ea)
  have isO : W.Looks (model prog w) hp (isInstance (.ref a) (.type "object")) true := J.type.andThen (W.looks_mroIn KI (by unfold W.mroIn; rw [ec, Option.bind_some, ne, if_neg (by decide), ob]))
  refine codeAny_call_builtin ZF.slot.plain ZF.entry ?_
  refine @W.check_slot (model prog w) _ _ ⟨hp, g, d, t, os⟩ "object.__setattr__" "object" "__setattr__" (.ref a) [.str nm tk, y] [] _ ZF.kind ZF.split isO (ZF.args (.ref a) (.str nm tk) y) ?_
  have lm : W.Looks (model prog w) hp (mroOf (.ref C)) cd.mro := (W.looks_clsIn KI ec).andThen .now
  have lt : W.Looks (model prog w) hp (storeTaker? none) none := .now
  have lc : W.Looks (model prog w) hp (classData C) cd := W.looks_clsIn KI ec
  rw [W.osa_eq, refuse_eq]
  refine wpAny_bind (wpAny_bind (J.type.at (wpAny_bind (lm.at ?_))))
  rw [pa]
  refine wpAny_pure (wpAny_bind (J.type.at (wpAny_bind ((W.looks_findIn KI nf).at (wpAny_bind (lt.at ?_))))))
  show wpAny _ _ (storeInOwnDict (.ref a) (.ref C) (.str nm tk) nm y false) _ _ _
  obtain ⟨c1, c2, c3, c4, c5, c6, c7, c8, c9, c10, c11⟩ := cd
  dsimp only at hd
  subst hd
  unfold storeInOwnDict ownDictForStores
  repeat (first | with_reducible refine store_in_new ?_ ?_ | with_reducible refine wpAny_loadPart_at ea ?_ | with_reducible refine lc.at ?_ | wp_step)
  · refine ⟨_, #[], _, (Heap.get?_update_ne _ _ _ _ nax.symm).trans (Heap.get?_push_at rfl rfl), rfl, fun e he => ?_, fun _ => rfl⟩
    exact absurd he (by simp)
  · intro h' tk' nd sb
    have e2 : (hp.push { cls := .type "dict", data := .dict #[] }).get? a = some { cls := .ref C, data := .fields fv } := Heap.get?_push_of_some _ ea
    refine hq h' tk' hp.objs.size (fun b o nb eb => ?_) (Nat.le_refl _) nax.symm ((sb.2 a nax).trans (Heap.get?_update_self _ e2 rfl)) nd
    exact (sb.2 b (Nat.ne_of_lt (Heap.lt_size eb))).trans ((Heap.get?_update_ne _ _ _ _ nb).trans (Heap.get?_push_of_some _ eb))
end
end XOK
end PySem
namespace XB
open PySem PySem.Spec PyProof.Rows L2
/-- what the written part says of an own class of some built-in exception -/
structure OexG (K : PySem.W.Frag) (C : Addr) : Prop where
  cls : ∃ nm q N bs bm sn sub ab col dd k0 k1 k2 k3 k5, ∃ (B newId initId : String) (bmB : List Value), K.lookup C = some (excClassObj nm q C N bs bm true sn sub ab col dd k0 k1 k2 k3 k5 newId) ∧ ExcBaseFacts B newId initId bmB ∧ (∀ Y : String, bm.contains (.type Y) = bmB.contains (.type Y)) ∧
    (∀ self, PySem.refuseLoop self "__setattr__" (.ref C :: bm) = pure ()) ∧ (Value.ref C :: bm).contains (.type "object") = true
  sa : PySem.W.findIn K (.ref C) "__setattr__" = some (some (.builtin "object.__setattr__"))
  exC : PySem.W.subIn K (.ref C) (.type "BaseException") = some true
  tyC : PySem.W.typeIn K (.ref C) = some (.type "type")
  kC : PySem.W.keepIn K (.ref C) = true
section
variable {X : Cx} {pins : List (Addr × Obj)} {σ : L2.St} {H : Hp} {s : Shared} {a C : Addr} {f : Str} {y : V} {u : Value} {Q : Unit → Shared → Prop} {E : Value → Shared → Prop} {A : Around}
theorem ostG (T : OexG X.K C) (I : Inv X pins σ H s) (e : H a = some (exo a C none)) (nf : PySem.W.findIn X.K (.ref C) f = some none) (ry : RelV y u)
    (h : ∀ dx s', H dx = none → dx ≠ a → Inv X pins σ (upd (upd H dx (exd dx [(f, y)])) a (exo a C (some dx))) s' → Q () s') : wpAny (model X.prog X.w) A (setAttr (.ref a) f u) Q E s := by
  obtain ⟨nm, q, N, bs, bm, sn, sub, ab, col, dd, k0, k1, k2, k3, k5, B, ni, ii, bmB, hC, hF, hT, hp, hob⟩ := T.cls
  have ec : PySem.W.clsIn X.K C = some { name := nm, bases := bs, mro := .ref C :: bm, ns := N, qualname := q, hasDict := true, slotNames := sn, subclasses := sub, abstract := ab, collection := col, hasDel := false } := by
    unfold PySem.W.clsIn
    rw [hC] <;> rfl
  obtain ⟨t1, ho⟩ := exo_at I.hok e
  obtain ⟨hh, g, dr, tk, os⟩ := s
  refine PySem.W.set_plain I.kIn (od := none) (ox := { cls := .ref C, dict := none, data := .fields #[.ref t1, .none, .none, .none, .bool false, .none] }) ⟨ho, rfl, rfl, trivial⟩ T.sa ?_
  refine PySem.XOK.osaG I.kIn ho ec hp hob rfl rfl nf fun h' tk' dx kp le ne ex ns => ?_
  have fr : H dx = none := I.hok.fresh le
  have nd : ∀ {b : Addr} {o : Obj}, hh.get? b = some o → b ≠ dx := fun {b o} z e0 => by
    have w := Heap.lt_size z
    rw [e0] at w
    exact absurd w (Nat.not_lt.mpr le)
  have na : ∀ {b : Addr}, H b = none → b ≠ a := fun {b} n z => by
    rw [z, e] at n
    cases n
  have U : Un X.fs [] H (upd (upd H dx (exd dx [(f, y)])) a (exo a C (some dx))) hh h' := by
    refine ⟨fun b o z n _ _ => kp b o (na n) z, fun b o z n _ _ => ⟨o.slots, kp b o (na n) z⟩, fun b o z n _ => ?_, fun b o z _ => ?_, fun b xs z => ?_, fun b o v z => ?_, fun b ps z => ⟨#[], ?_⟩⟩
    · rw [upd_ne (na n), upd_ne (nd z), n]
    · by_cases hb : b = a
      · rw [hb]
        exact ⟨_, ex⟩
      · exact ⟨o, kp b o hb z⟩
    · rw [upd_ne (at_ne e z exo_tup), upd_ne (ne_of_none z fr), z]
    · rw [upd_ne (at_ne e z exo_frz), upd_ne (ne_of_none z fr), z]
    · rw [upd_ne (at_ne e z exo_tbl), upd_ne (ne_of_none z fr), z, Array.append_empty]
  refine h dx _ fr ne (I.un (t' := tk') U fun b o z => ?_)
  by_cases hb : b = a
  · subst hb
    rw [upd_same] at z
    cases z
    exact exo_ok ex
  · rw [upd_ne hb] at z
    by_cases hd : b = dx
    · subst hd
      rw [upd_same] at z
      cases z
      exact exd_ok ns (relO_put (fs := []) ry fun _ => True.intro)
    · rw [upd_ne hd] at z
      refine (I.hok b o z).stay (fun c v hc w => kp c v ?_ w) (fun c hc => ?_) (fun c xs hc => ?_)
      · rcases hc with hc | hc
        · rwa [hc]
        · exact at_ne e hc exo_own
      · rw [upd_ne (at_ne e hc exo_own), upd_ne (ne_of_none hc fr), hc]
      · rw [upd_ne (at_ne e hc exo_tup), upd_ne (ne_of_none hc fr), hc]
end
/-- self.f = e, the first field -/
def tOsG (K : PySem.W.Frag) (f : Str) (to te : TE) : TS := fun D σ H => te σ H fun y H1 => to σ H1 fun x H2 => ∃ a C : Addr, x = .ref a ∧ OexG K C ∧ PySem.W.findIn K (.ref C) f = some none ∧ H2 a = some (exo a C none) ∧ ∀ dx, H2 dx = none → dx ≠ a → D.nx σ (upd (upd H2 dx (exd dx [(f, y)])) a (exo a C (some dx)))
theorem ps_osG {X : Cx} {o e : Expr} {to te : TE} {f : Str} {p' pos : Pos} (ho : PE X o to) (he : PE X e te) (hs : swapsWith e (some (.Attribute o f p')) pos.line X.env = pure false := by rfl) : PS X (.Assign [.Attribute o f p'] e pos) (tOsG X.K f to te) := by
  constructor
  intro pins s σ H D I h
  refine plainObj_wpAny_Assign_Attribute (thn (he.run pins s σ H _ I h) ?_) hs
  rintro v s1 ⟨y, H1, I1, r1, q1⟩
  refine thn (ho.run pins s1 σ H1 _ I1 q1) ?_
  rintro u s2 ⟨x, H2, I2, r2, a, C, rfl, T, nf, ea, q⟩
  obtain rfl : u = Value.ref a := r2
  exact ostG T I2 ea nf r1 fun dx s' n ne J => ⟨σ, _, J, q dx n ne⟩
end XB
set_option Elab.async false
set_option linter.all false
set_option maxRecDepth 100000
set_option maxHeartbeats 4000000
/-! own exceptions as values: made by a call, their fields read, isinstance -/
namespace XB
open PySem PySem.Spec PyProof.Rows L2
/-- at a: an exception that was raised and kept -/
def exg (a : Addr) (cls : Value) (d : Option Addr) : HO := .ext fun h => ∃ (o : Obj) (vs : Array Value), h.get? a = some o ∧ o.cls = cls ∧ o.dict = d ∧ o.data = .fields vs
theorem exg_ok {P : Program} {w : World} {H : Hp} {h : Heap} {a : Addr} {cls : Value} {d : Option Addr} {o : Obj} {vs : Array Value} (e : h.get? a = some o) (h1 : o.cls = cls) (h2 : o.dict = d) (h3 : o.data = .fields vs) : ObjOk P w H h a (exg a cls d) :=
  ⟨⟨o, vs, e, h1, h2, h3⟩, ⟨o, e⟩, fun g1 g2 z k => by
    obtain ⟨o', vs', q, r⟩ := z
    exact ⟨o', vs', k _ q, r⟩⟩
theorem exg_at {P : Program} {w : World} {H : Hp} {h : Heap} {a : Addr} {cls : Value} {d : Option Addr} (hok : HOk P w H h) (e : H a = some (exg a cls d)) : ∃ (o : Obj) (vs : Array Value), h.get? a = some o ∧ o.cls = cls ∧ o.dict = d ∧ o.data = .fields vs := by
  have x : ObjOk P w H h a (.ext fun h => ∃ (o : Obj) (vs : Array Value), h.get? a = some o ∧ o.cls = cls ∧ o.dict = d ∧ o.data = .fields vs) := hok a _ e
  exact x.1
/-- an exception that stands, with its fields -/
def XOb (H : Hp) (a C : Addr) (fs : List (Str × V)) : Prop := ∃ dx, (H a = some (exo a C (some dx)) ∨ H a = some (exg a (.ref C) (some dx))) ∧ (H dx = some (exd dx fs) ∨ H dx = some (.xd fs))
theorem XOb.same {H H' : Hp} {a C : Addr} {fs : List (Str × V)} (h : XOb H a C fs) (s : Same H H') : XOb H' a C fs := by
  obtain ⟨dx, h1, h2⟩ := h
  exact ⟨dx, h1.imp (s _ _) (s _ _), h2.imp (s _ _) (s _ _)⟩
theorem xob_inst {X : Cx} {pins : List (Addr × Obj)} {σ : L2.St} {H : Hp} {s : Shared} {a C : Addr} {fs : List (Str × V)} (I : Inv X pins σ H s) (h : XOb H a C fs) :
    ∃ (ox od : Obj) (mA : Str → Option Value), PySem.W.InstAt s.heap a ox C (some od) ∧ (∀ n, PySem.W.lookIn n od = some (mA n)) ∧ ∀ n, RelO (fs.lookup n) (mA n) := by
  obtain ⟨dx, e, ed⟩ := h
  have hd : ∃ mA, s.heap.Ns1 dx mA ∧ ∀ f, RelO (fs.lookup f) (mA f) := by
    rcases ed with ed | ed
    · exact exd_at I.hok ed
    · exact I.hok dx _ ed
  obtain ⟨mA, hns, hr⟩ := hd
  obtain ⟨od, hod, hl⟩ := lookIn_ns hns
  rcases e with e | e
  · obtain ⟨t1, ho⟩ := exo_at I.hok e
    exact ⟨_, od, mA, ⟨ho, rfl, rfl, hod⟩, hl, hr⟩
  · obtain ⟨o, vs, h1, h2, h3, h4⟩ := exg_at I.hok e
    exact ⟨o, od, mA, ⟨h1, h2, by unfold PySem.W.notCls; rw [h4] <;> rfl, by rw [h3]; exact hod⟩, hl, hr⟩
section
variable {X : Cx}
/-- e.n of such an exception -/
@[irreducible] def rXo (K : PySem.W.Frag) (n : Str) (x : V) (H1 : Hp) (Q : VK) : Prop := ∃ (a C : Addr) (fs : List (Str × V)) (v : V), x = .ref a ∧ ExcC K C ∧ PySem.W.findIn K (.ref C) n = some none ∧ XOb H1 a C fs ∧ fs.lookup n = some v ∧ Q v H1
def tXo (K : PySem.W.Frag) (n : Str) (te : TE) : TE := fun σ H Q => te σ H fun x H1 => rXo K n x H1 Q
theorem pe_xo {K : PySem.W.Frag} (hk : X.K = K) {e : Expr} {te : TE} {pos : Pos} {n : Str} (he : PE X e te) (hb : attributeBase e n X.env (eval e X.env) = eval e X.env := by rfl) : PE X (.Attribute e n pos) (tXo K n te) := by
  subst hk
  constructor
  intro pins s σ H Q I h
  refine attr_of hb (thn (he.run pins s σ H _ I h) ?_)
  rintro u s1 ⟨x, H1, I1, rx, hh⟩
  unfold rXo at hh
  obtain ⟨a, C, fs, v, rfl, T, hno, hO, hv, q⟩ := hh
  obtain rfl : u = Value.ref a := rx
  obtain ⟨ox, od, mA, J, hl, hr⟩ := xob_inst I1 hO
  obtain ⟨z, hz, rz⟩ := RelO.some_of (v := v) (o := mA n) (by rw [← hv]; exact hr n)
  refine HandSPX.exc_get I1.kIn J T.hg T.hk T.hs (PySem.W.findObj_own T.hd hno rfl ?_) (handed_of rz) ⟨v, H1, I1.tok _, rz, q⟩
  rw [hl, hz]
@[irreducible] def rIsX (K : PySem.W.Frag) : List V → Hp → VK → Prop := fun xs H Q => ∃ (a C : Addr) (fs : List (Str × V)) (c : V) (u : Value) (b : Bool), xs = [.ref a, c] ∧ ClsV c u ∧ ExcC K C ∧ XOb H a C fs ∧ PySem.W.kitOne K (.ref C) u = some b ∧ Q (.bl b) H
theorem call_isX {K : PySem.W.Frag} (hk : X.K = K) : CallR X (.builtin "isinstance") (rIsX K) := by
  subst hk
  intro pins s σ H xs us Q I r h
  unfold rIsX at h
  obtain ⟨a, C, fs, c, u, b, rfl, k, T, hO, e, q⟩ := h
  obtain ⟨u1, u2, rfl, r1, r2⟩ := vals2 r
  have e2 := k.eq r2
  subst e2
  obtain rfl : u1 = Value.ref a := r1
  obtain ⟨ox, od, mA, J, _, _⟩ := xob_inst I hO
  have hcl : (PySem.W.clsIn X.K C).isSome = true := by
    have hd := T.hd
    unfold PySem.W.hasDictIn at hd
    cases hc : PySem.W.clsIn X.K C with
    | some _ => rfl
    | none =>
      rw [hc] at hd
      cases hd
  exact PySem.W.kia_one (PySem.W.kitx_exc hcl T.hg T.hk T.hs T.ha T.hn T.ht T.hm) I.kIn J e (fun z => nomatch z) fun tk => ⟨.bl b, H, I.tok tk, rfl, q⟩
/-- C(e, ..) as a value -/
def tMkV (C : Addr) (sp : Sp) (ta : TA) : TE := fun σ H Q => ta σ H fun vs H1 => vs.length ≤ 1000 ∧ ∀ a, H1 a = none → sp (.ref a :: vs) (upd H1 a (exo a C none)) (fun v H2 => v = .non ∧ Q (.ref a) H2) fun _ _ _ => False
theorem pe_oex {CX : CXT} {x : Str} {C fI : Addr} {k : Nat} {fd : FuncData} {ps : List Str} {sp : Sp} {e : Expr} {es : List Expr} {p pos : Pos} {ta : TA} (T : OexG X.K C) (iC : PySem.W.findIn X.K (.ref C) "__init__" = some (some (.ref fI)))
    (tI : PySem.W.typeIn X.K (.ref fI) = some (.type "function")) (F1 : FnOk X.prog X.w X.K X.mg X.base CX k fI fd ps sp) (hr : Room (k + 1) X.A) (hb : Binds X.K fd ps []) (hx : Passes CX X fun _ _ _ => False) (hg : Gl X x) (hm : X.mg x = some (.ref C)) (ha : PA X (e :: es) ta)
    (hdb : (x == ("__debug__" : Str)) = false := by decide) (he : starEach (e :: es) X.env = (false, eval e X.env) :: starEach es X.env := by rfl) (hpl : (backTo pos (starEach es X.env)).any (·.1) = false := by rfl) :
    PE X (.Call (.Name x p) (e :: es) [] pos) (tMkV C sp ta) := by
  constructor
  intro pins s σ H Q I h
  obtain ⟨nm, q, N, bs, bm, sn, sub, ab, col, dd, k0, k1, k2, k3, k5, B, ni, ii, bmB, hC, hF, hT, _, _⟩ := T.cls
  refine wpAny_Call_Name_kw (ld_glob I hg hm ?_ hdb)
  refine PySem.W.callWith_K (h₀ := X.base) I.ok.mod.kin T.kC (thn (ha.run pos pins s σ H _ I h) ?_) he hpl
  rintro us ⟨hp, g, dr, tk, os⟩ ⟨vs, H1, I1, r1, hz, q1⟩
  refine ⟨I1.kIn, ?_⟩
  show wpAny _ _ (call (.ref C) us) _ _ _
  have up1 : hp.objs.size ≤ hp.objs.size + 1 := by omega
  have hq := q1 (hp.objs.size + 1) (I1.hok.fresh up1)
  obtain ⟨h2, eh2⟩ : ∃ h2, h2 = (hp.push (PySem.W.kdv_tup us)).push (PySem.HandSPX.excO C hp.objs.size) := ⟨_, rfl⟩
  have kk : ∀ b o, hp.get? b = some o → h2.get? b = some o := fun b o z => by
    rw [eh2]
    exact Heap.get?_push_of_some _ (Heap.get?_push_of_some _ z)
  have hget : h2.get? (hp.objs.size + 1) = some (PySem.HandSPX.excO C hp.objs.size) := by
    rw [eh2]
    heap_get
  have I2 : Inv X pins σ (upd H1 (hp.objs.size + 1) (exo (hp.objs.size + 1) C none)) ⟨h2, g, dr, tk, os⟩ := I1.laid (t' := tk) (a := hp.objs.size + 1) (h' := h2) kk up1 (exo_ok hget)
  have r2 : Vals (V.ref (hp.objs.size + 1) :: vs) (Value.ref (hp.objs.size + 1) :: us) := .cons rfl r1
  have hl : (Value.ref (hp.objs.size + 1) :: us).length = ps.length := r2.length.symm.trans (F1.len _ _ _ _ hq)
  have hus : us.length ≤ sizeLine := by
    have z := Paired.length r1
    rw [sizeLine_eq]
    omega
  have hb2 := hb ⟨h2, g, dr, tk, os⟩ (Value.ref (hp.objs.size + 1) :: us) I2.kIn (by rw [List.append_nil]; exact hl)
  rw [List.append_nil] at hb2
  refine wpAny_call (PySem.HandSPX.call_own hF hT (I1.kIn _ _ hC) (PySem.W.looks_findIn I1.kIn iC) (fun self => PySem.W.bind_fn I1.kIn self tI) hus ?_)
  rw [← eh2]
  refine codeAny_mono (F1.run _ X.stack _ _ ⟨Value.ref (hp.objs.size + 1) :: us, []⟩ (Value.ref (hp.objs.size + 1) :: us) _ _ (fun _ _ _ => False) (hr.make C us []) (I2.env0.make C us []) hb2 r2 hq) ?_
  rintro (er | fl) s' hq'
  · exact hx pins σ _ _ er s' I2 hq'
  · cases fl with
    | ret u =>
      obtain ⟨v, H2, os2, bare2, un2, hok2, rv, ev, q2⟩ := hq'
      subst ev
      exact ⟨rv, .ref (hp.objs.size + 1), H2, I2.call' (ch := []) os2 un2 hok2 bare2 (fun b z => absurd z (by simp)), rfl, q2⟩
    | next => exact False.elim hq'
    | brk => exact False.elim hq'
    | cont => exact False.elim hq'
end
end XB
namespace XB
open PySem PySem.Spec PyProof.Rows L2
/-! ### own exception classes under their names -/
/-- what the written part says of an own exception class of ValueError, whose __init__ is st -/
structure Ek (K : PySem.W.Frag) (mg : Str → Option Value) (x q : Str) (st : Stmt) : Prop where
  ex : ∃ (C fI : Addr) (fd : FuncData), mg x = some (.ref C) ∧ OexG K C ∧ ExcC K C ∧ PySem.W.findIn K (.ref C) "__init__" = some (some (.ref fI)) ∧ PySem.W.typeIn K (.ref fI) = some (.type "function") ∧ Fun K "__init__" q st fI fd
/-- of a class: a name that it does not know -/
def NoF (K : PySem.W.Frag) (mg : Str → Option Value) (x f : Str) : Prop := ∀ C, mg x = some (.ref C) → PySem.W.findIn K (.ref C) f = some none
def Kit (K : PySem.W.Frag) (mg : Str → Option Value) (x y : Str) (b : Bool) : Prop := ∀ C D, mg x = some (.ref C) → mg y = some (.ref D) → PySem.W.kitOne K (.ref C) (.ref D) = some b
def KitB (K : PySem.W.Frag) (mg : Str → Option Value) (x : Str) (y : String) (b : Bool) : Prop := ∀ C, mg x = some (.ref C) → PySem.W.kitOne K (.ref C) (.type y) = some b
def Exm (K : PySem.W.Frag) (mg : Str → Option Value) (x y : Str) (b : Bool) : Prop := ∀ C D, mg x = some (.ref C) → mg y = some (.ref D) → PySem.W.exmOne K (.ref C) (.ref D) = some b
/-- an exception of the class of that name -/
def Ex1 (K : PySem.W.Frag) (mg : Str → Option Value) (x : Str) (H : Hp) (a : Addr) (fs : List (Str × V)) : Prop := ∃ C, mg x = some (.ref C) ∧ ExcC K C ∧ XOb H a C fs
theorem Ex1.same {K : PySem.W.Frag} {mg : Str → Option Value} {x : Str} {H H' : Hp} {a : Addr} {fs : List (Str × V)} (h : Ex1 K mg x H a fs) (s : Same H H') : Ex1 K mg x H' a fs := by
  obtain ⟨C, h1, h2, h3⟩ := h
  exact ⟨C, h1, h2, h3.same s⟩
theorem cls_eq {mg : Str → Option Value} {x : Str} {C D : Addr} (h : mg x = some (.ref C)) (g : mg x = some (.ref D)) : C = D := Value.ref.inj (Option.some.inj (h.symm.trans g))
/-- e.f -/
theorem xo_at {K : PySem.W.Frag} {mg : Str → Option Value} {x n : Str} {H : Hp} {a : Addr} {fs : List (Str × V)} {y : V} {Q : VK} (h : Ex1 K mg x H a fs) (nf : NoF K mg x n) (e : fs.lookup n = some y) (q : Q y H) : rXo K n (.ref a) H Q := by
  obtain ⟨C, hC, T, hO⟩ := h
  unfold rXo
  exact ⟨a, C, fs, y, rfl, T, nf C hC, hO, e, q⟩
theorem is_at {K : PySem.W.Frag} {mg : Str → Option Value} {x y : Str} {H : Hp} {a D : Addr} {fs : List (Str × V)} {b : Bool} {Q : VK} (h : Ex1 K mg x H a fs) (k : Kit K mg x y b) (hD : mg y = some (.ref D)) (q : Q (.bl b) H) : rIsX K [.ref a, .ref D] H Q := by
  obtain ⟨C, hC, T, hO⟩ := h
  unfold rIsX
  exact ⟨a, C, fs, .ref D, .ref D, b, rfl, .own D, T, hO, k C D hC hD, q⟩
theorem is_atB {K : PySem.W.Frag} {mg : Str → Option Value} {x : Str} {y : String} {H : Hp} {a : Addr} {fs : List (Str × V)} {b : Bool} {Q : VK} (h : Ex1 K mg x H a fs) (k : KitB K mg x y b) (q : Q (.bl b) H) : rIsX K [.ref a, .ty y] H Q := by
  obtain ⟨C, hC, T, hO⟩ := h
  unfold rIsX
  exact ⟨a, C, fs, .ty y, .type y, b, rfl, .ty y, T, hO, k C hC, q⟩
/-- the promise of an __init__ that sets one field -/
def spIni (K : PySem.W.Frag) (C : Addr) (f : Str) : Sp := fun vs H Q _ => ∃ (a : Addr) (y : V), vs = [.ref a, y] ∧ H a = some (exo a C none) ∧ ∀ dx, H dx = none → dx ≠ a → Q .non (upd (upd H dx (exd dx [(f, y)])) a (exo a C (some dx)))
structure MkE (P : Program) (w : World) (K : PySem.W.Frag) (mg : Str → Option Value) (base : Heap) (k : Nat) (x f : Str) : Prop where
  ex : ∃ (C fI : Addr) (fd : FuncData) (ps : List Str), mg x = some (.ref C) ∧ OexG K C ∧ ExcC K C ∧ PySem.W.findIn K (.ref C) "__init__" = some (some (.ref fI)) ∧ PySem.W.typeIn K (.ref fI) = some (.type "function") ∧ FnOk P w K mg base CX0 k fI fd ps (spIni K C f) ∧ Binds K fd ps [] ∧ ∀ (s : Shared) (u v : Value), BindsTo s fd ⟨[u], [(f, v)]⟩ (ps.zip [u, v])
section
variable {P : Program} {w : World} {K : PySem.W.Frag} {mg : Str → Option Value} {base : Heap}
theorem mke0 {x q f : Str} {st : Stmt} {N ps : List Str} {k : Nat} (D : Ek K mg x q st) (hp : ps.length = 2)
    (hb : ∀ (kV doc pm : Value) (an : Option Addr) (cdv ct : Value) (us : List Value), us.length = ps.length → bindArgs (PySem.W.fnOf "__init__" q (defArgs st) (defBody st) (defScope st) .none kV doc pm an cdv ct) ⟨us, []⟩ = pure (ps.zip us))
    (hk : ∀ (kV doc pm : Value) (an : Option Addr) (cdv ct u v : Value), bindArgs (PySem.W.fnOf "__init__" q (defArgs st) (defBody st) (defScope st) .none kV doc pm an cdv ct) ⟨[u], [(f, v)]⟩ = pure (ps.zip [u, v]))
    (S : FnScope N ps (defScope st))
    (hbody : ∀ (C f' : Addr) (cdv : Value) (A : Around) (outer : List Env) (s : Shared) (H : Hp) (vs : List V) (Q : VK) (E : XK), OexG K C → mg x = some (.ref C) → Room k (A.deeper (envOfC q (defScope st) s.heap.objs.size f' cdv)) → spIni K C f vs H Q E →
      ∃ t, PSs (cxOf CX0 P w K mg base N q (defScope st) f' cdv A outer s H E).nox (defBody st) t ∧ t { nx := fun _ H' => Q .non H', rt := Q } (start N vs) H) : MkE P w K mg base (k + 1) x f := by
  obtain ⟨C, fI, fd, h1, h2, h3, h4, h5, F⟩ := D.ex
  refine ⟨C, fI, fd, ps, h1, h2, h3, h4, h5, F.ok S (fun vs H Q E h => ?_) (fun cdv A outer s H vs Q E hr h => hbody C fI cdv A outer s H vs Q E h2 h1 hr h), F.binds hb, fun s u v => ?_⟩
  · obtain ⟨a, y, rfl, _⟩ := h
    rw [hp]
    rfl
  · obtain ⟨oc, od, kV, doc, pm, an, cdv, ct, osl, rfl, lk, hcd⟩ := F.ex
    exact .of_eq (hk kV doc pm an cdv ct u v)
end
section
variable {X : Cx}
@[irreducible] def rNew (K : PySem.W.Frag) (mg : Str → Option Value) (x f : Str) (σ : L2.St) (y : V) (H1 : Hp) (Q : VK) : Prop := ∀ C, mg x = some (.ref C) → ExcC K C → (tNil σ H1 fun ys H2 => (y :: ys).length ≤ 1000 ∧ ∀ a, H2 a = none → spIni K C f (.ref a :: (y :: ys)) (upd H2 a (exo a C none)) (fun v H3 => v = .non ∧ Q (.ref a) H3) fun _ _ _ => False)
def tNew (K : PySem.W.Frag) (mg : Str → Option Value) (x f : Str) (te : TE) : TE := fun σ H Q => te σ H fun y H1 => rNew K mg x f σ y H1 Q
theorem pe_new {k j : Nat} {x f : Str} {e : Expr} {te : TE} {p pos : Pos} (c : MkE X.prog X.w X.K X.mg X.base k x f) (hr : Room j X.A) (hk : k + 1 ≤ j) (hg : Gl X x) (ha : PE X e te)
    (hdb : (x == ("__debug__" : Str)) = false := by decide) (he : starEach [e] X.env = (false, eval e X.env) :: starEach [] X.env := by rfl) (hpl : (backTo pos (starEach ([] : List Expr) X.env)).any (·.1) = false := by rfl) :
    PE X (.Call (.Name x p) [e] [] pos) (tNew X.K X.mg x f te) := by
  obtain ⟨C, fI, fd, ps, h1, h2, h3, h4, h5, F, b, _⟩ := c.ex
  have r := pe_oex (pos := pos) (p := p) h2 h4 h5 F (hr.mono hk) b pass0 hg h1 (pa_cons (hs := he) ha pa_nil) hdb he hpl
  constructor
  intro pins s σ H Q I h
  refine r.run pins s σ H Q I ?_
  have e1 : ∀ P : Addr → Prop, (∀ C', X.mg x = some (.ref C') → ExcC X.K C' → P C') = P C := fun P => propext ⟨fun g => g C h1 h3, fun g C' z _ => by rw [cls_eq z h1]; exact g⟩
  unfold tNew rNew at h
  simp only [e1] at h
  exact h
/-- C(e) made: how it stands -/
theorem new_at {K : PySem.W.Frag} {mg : Str → Option Value} {x f : Str} {y : V} {σ : L2.St} {H1 : Hp} {Q : VK} (q : ∀ H' a, Same H1 H' → Ex1 K mg x H' a [(f, y)] → Q (.ref a) H') : rNew K mg x f σ y H1 Q := by
  unfold rNew
  intro C hC T
  refine (show 1 ≤ 1000 ∧ _ from ⟨by decide, fun a ha => ⟨a, y, rfl, upd_same, fun dx hdx hne => ⟨rfl, q _ a (fun b o z => ?_) ⟨C, hC, T, dx, .inl upd_same, .inl ?_⟩⟩⟩⟩)
  · have hb : b ≠ a := fun w => by
      rw [w, ha] at z
      cases z
    have hd : b ≠ dx := fun w => by
      rw [← w, upd_ne hb, z] at hdx
      cases hdx
    rw [upd_ne hb, upd_ne hd, upd_ne hb]
    exact z
  · rw [upd_ne hne, upd_same]
end
end XB
set_option Elab.async false
set_option linter.all false
set_option maxRecDepth 100000
set_option maxHeartbeats 4000000
namespace XB
open PySem PySem.Spec PyProof.Rows L2
def topS (i : Nat) : Stmt := PySem.Challenge.pw_deedpiles_k13_whole_yards.main.body.getD i (.Pass ⟨0, 0, 0, 0⟩)
abbrev s_BadField___init__ : Stmt := inClass (topS 2) 0
theorem sc_BadField___init__ : FnScope ["self", "part"] ["self", "part"] (defScope s_BadField___init__) := ⟨rfl, rfl, rfl, by decide +kernel, rfl, by decide +kernel, by decide +kernel⟩
abbrev s_BadScript___init__ : Stmt := inClass (topS 3) 0
theorem sc_BadScript___init__ : FnScope ["self", "place"] ["self", "place"] (defScope s_BadScript___init__) := ⟨rfl, rfl, rfl, by decide +kernel, rfl, by decide +kernel, by decide +kernel⟩
abbrev s_BadMoves___init__ : Stmt := inClass (topS 4) 0
theorem sc_BadMoves___init__ : FnScope ["self", "place"] ["self", "place"] (defScope s_BadMoves___init__) := ⟨rfl, rfl, rfl, by decide +kernel, rfl, by decide +kernel, by decide +kernel⟩
abbrev s_BadYard___init__ : Stmt := inClass (topS 5) 0
theorem sc_BadYard___init__ : FnScope ["self", "part"] ["self", "part"] (defScope s_BadYard___init__) := ⟨rfl, rfl, rfl, by decide +kernel, rfl, by decide +kernel, by decide +kernel⟩
abbrev s_BadSpot___init__ : Stmt := inClass (topS 6) 0
theorem sc_BadSpot___init__ : FnScope ["self", "value"] ["self", "value"] (defScope s_BadSpot___init__) := ⟨rfl, rfl, rfl, by decide +kernel, rfl, by decide +kernel, by decide +kernel⟩
abbrev s_BadPaper___init__ : Stmt := inClass (topS 7) 0
theorem sc_BadPaper___init__ : FnScope ["self", "word"] ["self", "word"] (defScope s_BadPaper___init__) := ⟨rfl, rfl, rfl, by decide +kernel, rfl, by decide +kernel, by decide +kernel⟩
abbrev s_is_whole : Stmt := topS 9
theorem sc_is_whole : FnScope ["value"] ["value"] (defScope s_is_whole) := ⟨rfl, rfl, rfl, by decide +kernel, rfl, by decide +kernel, by decide +kernel⟩
abbrev s_is_pair : Stmt := topS 10
theorem sc_is_pair : FnScope ["value"] ["value"] (defScope s_is_pair) := ⟨rfl, rfl, rfl, by decide +kernel, rfl, by decide +kernel, by decide +kernel⟩
abbrev s_is_ascending : Stmt := topS 11
theorem sc_is_ascending : FnScope ["items", "one", "other"] ["items"] (defScope s_is_ascending) := ⟨rfl, rfl, rfl, by decide +kernel, rfl, by decide +kernel, by decide +kernel⟩
abbrev s_need_field : Stmt := topS 15
theorem sc_need_field : FnScope ["field", "names", "pairs"] ["field"] (defScope s_need_field) := ⟨rfl, rfl, rfl, by decide +kernel, rfl, by decide +kernel, by decide +kernel⟩
abbrev s_are_names : Stmt := topS 16
theorem sc_are_names : FnScope ["value", "item"] ["value"] (defScope s_are_names) := ⟨rfl, rfl, rfl, by decide +kernel, rfl, by decide +kernel, by decide +kernel⟩
abbrev s_is_name : Stmt := topS 17
theorem sc_is_name : FnScope ["value", "letter"] ["value"] (defScope s_is_name) := ⟨rfl, rfl, rfl, by decide +kernel, rfl, by decide +kernel, by decide +kernel⟩
abbrev s_are_pairs : Stmt := topS 18
theorem sc_are_pairs : FnScope ["names", "value", "item"] ["names", "value"] (defScope s_are_pairs) := ⟨rfl, rfl, rfl, by decide +kernel, rfl, by decide +kernel, by decide +kernel⟩
abbrev s_is_pair_of : Stmt := topS 19
theorem sc_is_pair_of : FnScope ["names", "value", "one", "other"] ["names", "value"] (defScope s_is_pair_of) := ⟨rfl, rfl, rfl, by decide +kernel, rfl, by decide +kernel, by decide +kernel⟩
abbrev s_need_script : Stmt := topS 23
theorem sc_need_script : FnScope ["field", "deeds", "names", "_", "place", "item"] ["field", "deeds"] (defScope s_need_script) := ⟨rfl, rfl, rfl, by decide +kernel, rfl, by decide +kernel, by decide +kernel⟩
abbrev s_is_step : Stmt := topS 24
theorem sc_is_step : FnScope ["names", "value"] ["names", "value"] (defScope s_is_step) := ⟨rfl, rfl, rfl, by decide +kernel, rfl, by decide +kernel, by decide +kernel⟩
abbrev s_is_great_step : Stmt := topS 25
theorem sc_is_great_step : FnScope ["names", "value", "name", "times"] ["names", "value"] (defScope s_is_great_step) := ⟨rfl, rfl, rfl, by decide +kernel, rfl, by decide +kernel, by decide +kernel⟩
abbrev s_is_times : Stmt := topS 26
theorem sc_is_times : FnScope ["value"] ["value"] (defScope s_is_times) := ⟨rfl, rfl, rfl, by decide +kernel, rfl, by decide +kernel, by decide +kernel⟩
abbrev s_need_yard : Stmt := topS 29
theorem sc_need_yard : FnScope ["field", "yard", "names", "pairs", "rows", "row", "one", "other"] ["field", "yard"] (defScope s_need_yard) := ⟨rfl, rfl, rfl, by decide +kernel, rfl, by decide +kernel, by decide +kernel⟩
abbrev s_led : Stmt := topS 30
theorem sc_led : FnScope ["field", "yard", "deeds", "spot"] ["field", "yard", "deeds", "spot"] (defScope s_led) := ⟨rfl, rfl, rfl, by decide +kernel, rfl, by decide +kernel, by decide +kernel⟩
abbrev s_do_alike_in : Stmt := topS 31
theorem sc_do_alike_in : FnScope ["field", "yard", "one", "other"] ["field", "yard", "one", "other"] (defScope s_do_alike_in) := ⟨rfl, rfl, rfl, by decide +kernel, rfl, by decide +kernel, by decide +kernel⟩
abbrev s_is_yard_form : Stmt := topS 32
theorem sc_is_yard_form : FnScope ["names", "value"] ["names", "value"] (defScope s_is_yard_form) := ⟨rfl, rfl, rfl, by decide +kernel, rfl, by decide +kernel, by decide +kernel⟩
abbrev s_is_turn : Stmt := topS 33
theorem sc_is_turn : FnScope ["value", "many", "item"] ["value", "many"] (defScope s_is_turn) := ⟨rfl, rfl, rfl, by decide +kernel, rfl, by decide +kernel, by decide +kernel⟩
abbrev s_do_change_places : Stmt := topS 34
theorem sc_do_change_places : FnScope ["one", "other", "spot"] ["one", "other"] (defScope s_do_change_places) := ⟨rfl, rfl, rfl, by decide +kernel, rfl, by decide +kernel, by decide +kernel⟩
abbrev s_all_led : Stmt := topS 35
theorem sc_all_led : FnScope ["field", "yard", "steps", "names", "_", "rows", "spots", "name", "times", "told", "spot"] ["field", "yard", "steps"] (defScope s_all_led) := ⟨rfl, rfl, rfl, by decide +kernel, rfl, by decide +kernel, by decide +kernel⟩
abbrev s_done_times : Stmt := topS 36
theorem sc_done_times : FnScope ["row", "times", "told", "spot", "trip", "at", "place"] ["row", "times"] (defScope s_done_times) := ⟨rfl, rfl, rfl, by decide +kernel, rfl, by decide +kernel, by decide +kernel⟩
abbrev s_round_trip : Stmt := topS 37
theorem sc_round_trip : FnScope ["row", "spot", "trip"] ["row", "spot"] (defScope s_round_trip) := ⟨rfl, rfl, rfl, by decide +kernel, rfl, by decide +kernel, by decide +kernel⟩
abbrev s__law_mixed : Stmt := topS 39
theorem sc__law_mixed : FnScope ["cell", "n", "blend"] ["cell", "n"] (defScope s__law_mixed) := ⟨rfl, rfl, rfl, by decide +kernel, rfl, by decide +kernel, by decide +kernel⟩
abbrev s__law_folded : Stmt := topS 40
theorem sc__law_folded : FnScope ["script", "found", "n", "cell"] ["script"] (defScope s__law_folded) := ⟨rfl, rfl, rfl, by decide +kernel, rfl, by decide +kernel, by decide +kernel⟩
abbrev s__law_draw : Stmt := topS 41
theorem sc__law_draw : FnScope ["m", "limit", "n", "lot", "here", "cell"] ["m", "limit"] (defScope s__law_draw) := ⟨rfl, rfl, rfl, by decide +kernel, rfl, by decide +kernel, by decide +kernel⟩
abbrev s__law_begun : Stmt := topS 42
theorem sc__law_begun : FnScope ["script", "m", "cell"] ["script"] (defScope s__law_begun) := ⟨rfl, rfl, rfl, by decide +kernel, rfl, by decide +kernel, by decide +kernel⟩
abbrev s__law_like : Stmt := topS 43
theorem sc__law_like : FnScope ["heard", "due"] ["heard", "due"] (defScope s__law_like) := ⟨rfl, rfl, rfl, by decide +kernel, rfl, by decide +kernel, by decide +kernel⟩
abbrev s__law_field : Stmt := topS 44
theorem sc__law_field : FnScope ["m", "most", "names", "pairs_so", "chance", "k", "other"] ["m", "most"] (defScope s__law_field) := ⟨rfl, rfl, rfl, by decide +kernel, rfl, by decide +kernel, by decide +kernel⟩
abbrev s__law_script : Stmt := topS 45
theorem sc__law_script : FnScope ["m", "field", "most", "row", "some", "many", "turn"] ["m", "field", "most"] (defScope s__law_script) := ⟨rfl, rfl, rfl, by decide +kernel, rfl, by decide +kernel, by decide +kernel⟩
abbrev s__law_apart : Stmt := topS 46
theorem sc__law_apart : FnScope ["field", "one", "other"] ["field", "one", "other"] (defScope s__law_apart) := ⟨rfl, rfl, rfl, by decide +kernel, rfl, by decide +kernel, by decide +kernel⟩
abbrev s__law_stirred : Stmt := topS 47
theorem sc__law_stirred : FnScope ["m", "field", "steps", "many", "row", "turn", "k", "way", "name", "times"] ["m", "field", "steps", "many"] (defScope s__law_stirred) := ⟨rfl, rfl, rfl, by decide +kernel, rfl, by decide +kernel, by decide +kernel⟩
abbrev s__law_turn : Stmt := topS 48
theorem sc__law_turn : FnScope ["m", "many", "left", "row", "turn"] ["m", "many"] (defScope s__law_turn) := ⟨rfl, rfl, rfl, by decide +kernel, rfl, by decide +kernel, by decide +kernel⟩
abbrev s__law_stepped : Stmt := topS 49
theorem sc__law_stepped : FnScope ["spot", "many", "size", "turn", "here"] ["spot", "many", "size", "turn"] (defScope s__law_stepped) := ⟨rfl, rfl, rfl, by decide +kernel, rfl, by decide +kernel, by decide +kernel⟩
abbrev s__law_yard : Stmt := topS 50
theorem sc__law_yard : FnScope ["m", "field", "pairs_so", "blocks", "whole", "one", "turn", "other", "many", "rows", "name", "row", "size", "turns", "spot"] ["m", "field"] (defScope s__law_yard) := ⟨rfl, rfl, rfl, by decide +kernel, rfl, by decide +kernel, by decide +kernel⟩
abbrev s__law_touching : Stmt := topS 51
theorem sc__law_touching : FnScope ["field", "one", "other"] ["field", "one"] (defScope s__law_touching) := ⟨rfl, rfl, rfl, by decide +kernel, rfl, by decide +kernel, by decide +kernel⟩
abbrev s__law_led : Stmt := topS 52
theorem sc__law_led : FnScope ["field", "yard", "steps", "spot", "name", "times", "row", "ring", "here"] ["field", "yard", "steps", "spot"] (defScope s__law_led) := ⟨rfl, rfl, rfl, by decide +kernel, rfl, by decide +kernel, by decide +kernel⟩
abbrev s__law_heard : Stmt := topS 53
theorem sc__law_heard : FnScope ["call", "heard", "error", "e", "kinds_so", "words", "found", "one", "is_so"] ["call"] (defScope s__law_heard) := ⟨rfl, rfl, rfl, by decide +kernel, rfl, by decide +kernel, by decide +kernel⟩
abbrev s__law_wrong : Stmt := topS 54
theorem sc__law_wrong : FnScope ["field", "yard", "many", "row", "one", "other", "mine", "yours", "spot"] ["field", "yard"] (defScope s__law_wrong) := ⟨rfl, rfl, rfl, by decide +kernel, rfl, by decide +kernel, by decide +kernel⟩
abbrev s__law_bent : Stmt := topS 55
theorem sc__law_bent : FnScope ["m", "yard", "k", "many", "odd", "rows", "spot", "row"] ["m", "yard"] (defScope s__law_bent) := ⟨rfl, rfl, rfl, by decide +kernel, rfl, by decide +kernel, by decide +kernel⟩
abbrev s__law_great_right : Stmt := topS 56
theorem sc__law_great_right : FnScope ["ring", "field", "yard", "longer"] [] (defScope s__law_great_right) := ⟨rfl, rfl, rfl, by decide +kernel, rfl, by decide +kernel, by decide +kernel⟩
abbrev s_law : Stmt := topS 57
theorem sc_law : FnScope ["script", "m", "turn", "field", "yard", "row", "bent", "kept", "one", "word", "due", "other", "mine", "yours", "told_so", "odd", "spot"] ["script"] (defScope s_law) := ⟨rfl, rfl, rfl, by decide +kernel, rfl, by decide +kernel, by decide +kernel⟩
structure Tx (K : PySem.W.Frag) (mg : Str → Option Value) : Prop where
  c_PileError : ∃ C, mg "PileError" = some (.ref C)
  c_BadField : ∃ C, mg "BadField" = some (.ref C)
  c_BadScript : ∃ C, mg "BadScript" = some (.ref C)
  c_BadMoves : ∃ C, mg "BadMoves" = some (.ref C)
  c_BadYard : ∃ C, mg "BadYard" = some (.ref C)
  c_BadSpot : ∃ C, mg "BadSpot" = some (.ref C)
  c_BadPaper : ∃ C, mg "BadPaper" = some (.ref C)
  e_BadField : Ek K mg "BadField" "BadField.__init__" s_BadField___init__
  e_BadScript : Ek K mg "BadScript" "BadScript.__init__" s_BadScript___init__
  e_BadYard : Ek K mg "BadYard" "BadYard.__init__" s_BadYard___init__
  e_BadSpot : Ek K mg "BadSpot" "BadSpot.__init__" s_BadSpot___init__
  n_BadField_part : NoF K mg "BadField" "part"
  n_BadScript_place : NoF K mg "BadScript" "place"
  n_BadYard_part : NoF K mg "BadYard" "part"
  n_BadSpot_value : NoF K mg "BadSpot" "value"
  x_BadField_PileError : Exm K mg "BadField" "PileError" true
  x_BadScript_PileError : Exm K mg "BadScript" "PileError" true
  x_BadYard_PileError : Exm K mg "BadYard" "PileError" true
  x_BadSpot_PileError : Exm K mg "BadSpot" "PileError" true
  i_BadField_BadField : Kit K mg "BadField" "BadField" true
  i_BadField_BadScript : Kit K mg "BadField" "BadScript" false
  i_BadField_BadMoves : Kit K mg "BadField" "BadMoves" false
  i_BadField_BadYard : Kit K mg "BadField" "BadYard" false
  i_BadField_BadSpot : Kit K mg "BadField" "BadSpot" false
  i_BadField_BadPaper : Kit K mg "BadField" "BadPaper" false
  i_BadField_ValueError : KitB K mg "BadField" "ValueError" true
  i_BadScript_BadField : Kit K mg "BadScript" "BadField" false
  i_BadScript_BadScript : Kit K mg "BadScript" "BadScript" true
  i_BadScript_BadMoves : Kit K mg "BadScript" "BadMoves" false
  i_BadScript_BadYard : Kit K mg "BadScript" "BadYard" false
  i_BadScript_BadSpot : Kit K mg "BadScript" "BadSpot" false
  i_BadScript_BadPaper : Kit K mg "BadScript" "BadPaper" false
  i_BadScript_ValueError : KitB K mg "BadScript" "ValueError" true
  i_BadYard_BadField : Kit K mg "BadYard" "BadField" false
  i_BadYard_BadScript : Kit K mg "BadYard" "BadScript" false
  i_BadYard_BadMoves : Kit K mg "BadYard" "BadMoves" false
  i_BadYard_BadYard : Kit K mg "BadYard" "BadYard" true
  i_BadYard_BadSpot : Kit K mg "BadYard" "BadSpot" false
  i_BadYard_BadPaper : Kit K mg "BadYard" "BadPaper" false
  i_BadYard_ValueError : KitB K mg "BadYard" "ValueError" true
  i_BadSpot_BadField : Kit K mg "BadSpot" "BadField" false
  i_BadSpot_BadScript : Kit K mg "BadSpot" "BadScript" false
  i_BadSpot_BadMoves : Kit K mg "BadSpot" "BadMoves" false
  i_BadSpot_BadYard : Kit K mg "BadSpot" "BadYard" false
  i_BadSpot_BadSpot : Kit K mg "BadSpot" "BadSpot" true
  i_BadSpot_BadPaper : Kit K mg "BadSpot" "BadPaper" false
  i_BadSpot_ValueError : KitB K mg "BadSpot" "ValueError" true
  b_ValueError : mg "ValueError" = none
  b_abs : mg "abs" = none
  b_all : mg "all" = none
  b_bool : mg "bool" = none
  b_dict : mg "dict" = none
  b_enumerate : mg "enumerate" = none
  b_int : mg "int" = none
  b_isinstance : mg "isinstance" = none
  b_len : mg "len" = none
  b_list : mg "list" = none
  b_range : mg "range" = none
  b_repr : mg "repr" = none
  b_sorted : mg "sorted" = none
  b_str : mg "str" = none
  b_tuple : mg "tuple" = none
  b_zip : mg "zip" = none
  g_MOST_NAMES : ∃ t, mg "MOST_NAMES" = some (.int (6) t)
  g_MOST_LETTERS : ∃ t, mg "MOST_LETTERS" = some (.int (6) t)
  g_MOST_STEPS : ∃ t, mg "MOST_STEPS" = some (.int (60) t)
  g_MOST_TIMES : ∃ t, mg "MOST_TIMES" = some (.int (10 ^ 30) t)
  g_MOST_SPOTS : ∃ t, mg "MOST_SPOTS" = some (.int (2000) t)
  d_is_whole : Dn K mg "is_whole" s_is_whole
  d_is_pair : Dn K mg "is_pair" s_is_pair
  d_is_ascending : Dn K mg "is_ascending" s_is_ascending
  d_need_field : Dn K mg "need_field" s_need_field
  d_are_names : Dn K mg "are_names" s_are_names
  d_is_name : Dn K mg "is_name" s_is_name
  d_are_pairs : Dn K mg "are_pairs" s_are_pairs
  d_is_pair_of : Dn K mg "is_pair_of" s_is_pair_of
  d_need_script : Dn K mg "need_script" s_need_script
  d_is_step : Dn K mg "is_step" s_is_step
  d_is_great_step : Dn K mg "is_great_step" s_is_great_step
  d_is_times : Dn K mg "is_times" s_is_times
  d_need_yard : Dn K mg "need_yard" s_need_yard
  d_led : Dn K mg "led" s_led
  d_do_alike_in : Dn K mg "do_alike_in" s_do_alike_in
  d_is_yard_form : Dn K mg "is_yard_form" s_is_yard_form
  d_is_turn : Dn K mg "is_turn" s_is_turn
  d_do_change_places : Dn K mg "do_change_places" s_do_change_places
  d_all_led : Dn K mg "all_led" s_all_led
  d_done_times : Dn K mg "done_times" s_done_times
  d_round_trip : Dn K mg "round_trip" s_round_trip
  d__law_mixed : Dn K mg "_law_mixed" s__law_mixed
  d__law_folded : Dn K mg "_law_folded" s__law_folded
  d__law_draw : Dn K mg "_law_draw" s__law_draw
  d__law_begun : Dn K mg "_law_begun" s__law_begun
  d__law_like : Dn K mg "_law_like" s__law_like
  d__law_field : Dn K mg "_law_field" s__law_field
  d__law_script : Dn K mg "_law_script" s__law_script
  d__law_apart : Dn K mg "_law_apart" s__law_apart
  d__law_stirred : Dn K mg "_law_stirred" s__law_stirred
  d__law_turn : Dn K mg "_law_turn" s__law_turn
  d__law_stepped : Dn K mg "_law_stepped" s__law_stepped
  d__law_yard : Dn K mg "_law_yard" s__law_yard
  d__law_touching : Dn K mg "_law_touching" s__law_touching
  d__law_led : Dn K mg "_law_led" s__law_led
  d__law_heard : Dn K mg "_law_heard" s__law_heard
  d__law_wrong : Dn K mg "_law_wrong" s__law_wrong
  d__law_bent : Dn K mg "_law_bent" s__law_bent
  d__law_great_right : Dn K mg "_law_great_right" s__law_great_right
  d_law : Dn K mg "law" s_law
end XB
set_option Elab.async false
set_option linter.all false
set_option maxRecDepth 100000
set_option maxHeartbeats 4000000
namespace XB
open PySem PySem.Spec PyProof.Rows L2
section
variable {P : Program} {w : World} {K : PySem.W.Frag} {mg : Str → Option Value} {base : Heap}
def spMixed : Sp := fun vs H Q _ => ∃ c n : Int, vs = [.int c, .int n] ∧ 0 ≤ c ∧ c < 1099511627776 ∧ 0 ≤ n ∧ n < 1099511627776 ∧ ∀ r : Int, 0 ≤ r → r < 1099511627 → Q (.int r) H
theorem c_mixed (T : Tx K mg) : Cl P w K mg base CX0 1 "_law_mixed" spMixed := by
  refine cl0 T.d__law_mixed (ps := ["cell", "n"]) (fun _ _ _ _ _ _ us hl => match us, hl with | [_, _], _ => rfl) sc__law_mixed (fun vs H Q E h => ?_) (fun f cdv A outer s H vs Q E hr h => ?_)
  · obtain ⟨c, n, rfl, _⟩ := h
    rfl
  · obtain ⟨c, n, rfl, c0, c1, n0, n1, q⟩ := h
    have nd := sc__law_mixed.nd
    refine ⟨_, pss_cons (ps_set (i := 2) nd rfl (.inl rfl) (pe_op op_add (pe_op op_add
        (pe_op op_mod (pe_callTy call_int1 (by rfl) T.b_int (by decide +kernel) (pa_cons (pe_op op_mul (pe_op op_mul (pv 0) (pe_op op_add pe_int (pe_op op_mul pe_int (pv 1)))) pe_int) pa_nil)) pe_int)
        (pe_op op_mul (pe_op op_mul pe_int (pv 1)) (pv 1))) (pe_op op_mul pe_int (pv 1))))
      (pss_one (ps_ret (pe_op op_fdiv (pe_op op_mod (pe_callTy call_int1 (by rfl) T.b_int (by decide +kernel) (pa_cons (pe_op op_mul (pv 2) pe_int) pa_nil)) pe_int) pe_int))), ?_⟩
    refine ⟨_, rfl, _, rfl, _, _, rfl, rfl, .inl (by constructor <;> omega), _, _, rfl, rfl, _, _, rfl, rfl, .inl (by constructor <;> omega), ?_⟩
    refine ⟨_, _, rfl, rfl, .inr (by decide), .inl ⟨_, rfl, ?_⟩⟩
    refine ⟨_, _, rfl, rfl, (show (0 : Int) < 2147483647 by decide), ?_⟩
    refine ⟨_, rfl, _, _, rfl, rfl, .inl (by decide), _, rfl, _, _, rfl, rfl, .inl (by constructor <;> omega), ?_⟩
    refine ⟨_, _, rfl, rfl, _, rfl, _, _, rfl, rfl, .inl (by decide), _, _, rfl, rfl, ?_⟩
    refine ⟨_, rfl, _, _, rfl, rfl, .inr (by decide), .inl ⟨_, rfl, ?_⟩⟩
    refine ⟨_, _, rfl, rfl, (show (0 : Int) < 2147483629 by decide), _, _, rfl, rfl, ⟨by decide, by decide⟩, ?_⟩
    refine q _ ?_ ?_
    · exact Int.ediv_nonneg (Int.emod_nonneg _ (by decide)) (by decide)
    · have h1 := Int.emod_lt_of_pos (c * (1 + 2 * n) * 48271 % 2147483647 + 7919 * n * n + 104729 * n) (b := 2147483629) (by decide)
      generalize (c * (1 + 2 * n) * 48271 % 2147483647 + 7919 * n * n + 104729 * n) = z
      have h1 := Int.emod_lt_of_pos (z * 69621) (b := 2147483629) (by decide)
      generalize (z * 69621) % 2147483629 = y at h1 ⊢
      show y / 7 < 1099511627
      omega
/-- what a row of numbers is that draws come from -/
structure Good (xs : List Int) : Prop where
  len : xs.length = 64
  bd : ∀ v ∈ xs, 0 ≤ v ∧ v < 2147483647
theorem Good.set {xs : List Int} (g : Good xs) (k : Nat) (z : Int) : Good (xs.set k (z % 2147483647)) := by
  refine ⟨by rw [List.length_set]; exact g.len, fun v hv => ?_⟩
  rcases List.mem_or_eq_of_mem_set hv with h | h
  · exact g.bd v h
  · rw [h]
    exact ⟨Int.emod_nonneg _ (by decide), Int.emod_lt_of_pos _ (by decide)⟩
theorem Good.at (xs : List Int) (g : Good xs) {k : Nat} (h : k < 64) : ∃ v, xs[k]? = some v ∧ 0 ≤ v ∧ v < 2147483647 := by
  have h' : k < xs.length := by rw [g.len]; exact h
  exact ⟨xs[k], List.getElem?_eq_getElem h', g.bd _ (List.getElem_mem h')⟩
theorem mod_nat {z : Int} : ∃ k : Nat, z % 64 = (k : Int) ∧ k < 64 := by
  have h0 := Int.emod_nonneg z (b := 64) (by decide)
  have h1 := Int.emod_lt_of_pos z (b := 64) (by decide)
  exact ⟨(z % 64).toNat, by omega, by omega⟩
def spFolded (K : PySem.W.Frag) : Sp := fun vs H Q _ => ∃ (a : Addr) (ns : List Int), vs = [.ref a] ∧ SqL K H a (ns.map V.int) ∧ ns.length ≤ 1000 ∧
  ∀ H' p xs, Same H H' → H p = none → H' p = some (.lst (xs.map V.int)) → Good xs → Q (.ref p) H'
theorem c_folded (T : Tx K mg) : Cl P w K mg base CX0 1 "_law_folded" (spFolded K) := by
  refine cl0 T.d__law_folded (ps := ["script"]) (fun _ _ _ _ _ _ us hl => match us, hl with | [_], _ => rfl) sc__law_folded (fun vs H Q E h => ?_) (fun f cdv A outer s H vs Q E hr h => ?_)
  · obtain ⟨a, ns, rfl, _⟩ := h
    rfl
  · obtain ⟨a, ns, rfl, hS, hlen, q⟩ := h
    have nd := sc__law_folded.nd
    refine ⟨_, pss_cons (ps_setLc (i := 1) (own := [("n", 2)]) (g := gName 2) (tt := tYes) rfl nd rfl rfl (sw_true rfl rfl rfl (by decide +kernel)) (pi_range1 (by rfl) T.b_range (pa_cons pe_int pa_nil)) (blkOk_by (own := [("n", 2)]) (N := ["script", "found", "n", "cell"]) (sc := defScope s__law_folded) (by decide +kernel))
          (fun _ _ _ _ _ => pg_name (i := 2) nd rfl (Or.inl rfl)) (fun _ _ _ _ _ => pts_nil) (fun _ _ _ _ _ => pe_op op_add pe_int (pv 2)))
      (pss_cons (ps_for PassesOwn.never rfl (pi_enum (by rfl) T.b_enumerate (pa_cons (pv 0) pa_nil)) (pg_tup rfl (pgs_cons (pg_name (i := 2) nd rfl (.inl rfl)) (pgs_cons (pg_name (i := 3) nd rfl (.inl rfl)) pgs_nil)))
        (pss_one (ps_asg (pe_op op_mod (pe_callTy call_int1 (by rfl) T.b_int (by decide +kernel) (pa_cons (pe_op op_add (pe_op op_mul (pe_ix ix_list (pv 1) (pe_op op_mod (pe_callTy call_int1 (by rfl) T.b_int (by decide +kernel) (pa_cons (pv 2) pa_nil)) pe_int) (fun _ _ => rfl)) pe_int) (pv 3)) pa_nil)) pe_int)
          (pg_sub (pv 1) (pe_op op_mod (pe_callTy call_int1 (by rfl) T.b_int (by decide +kernel) (pa_cons (pv 2) pa_nil)) pe_int) set_list))))
      (pss_cons (ps_for PassesOwn.never rfl (pi_range2 (by rfl) T.b_range (pa_cons pe_int (pa_cons pe_int pa_nil))) (pg_name (i := 2) nd rfl (.inl rfl))
        (pss_one (ps_asg (pe_op op_mod (pe_callTy call_int1 (by rfl) T.b_int (by decide +kernel) (pa_cons (pe_op op_add (pe_ix ix_list (pv 1) (pv 2) (fun _ _ => rfl)) (pe_op op_mul (pe_ix ix_list (pv 1) (pe_op op_sub (pv 2) pe_int) (fun _ _ => rfl)) pe_int)) pa_nil)) pe_int)
          (pg_sub (pv 1) (pv 2) set_list))))
      (pss_one (ps_ret (pv 1))))), ?_⟩
    refine ⟨64, rfl, by decide, by decide, fun D hD => ?_⟩
    refine lc_range (lo := 0) (n := 64) (fun i H' => ∃ acc : List Int, H' D = some (.lst (acc.map V.int)) ∧ acc.length = i ∧ (∀ v ∈ acc, 0 ≤ v ∧ v < 2147483647) ∧ Same H H')
      ⟨[], upd_same, rfl, (fun _ h => nomatch h), same_upd hD⟩ (fun i H' hi ⟨acc, eD, el, eb, sm⟩ => ?_) (fun H' ⟨acc, eD, el, eb, sm⟩ => ?_)
    · refine ⟨rfl, yes_ ?_⟩
      refine ⟨_, rfl, _, _, rfl, rfl, _, eD, by rw [List.length_map]; exact small1000 (by omega), acc ++ [17 + (0 + (i : Int))], ?_, by rw [List.length_append, el]; rfl, fun v hv => ?_, same_put sm hD⟩
      · rw [upd_same, List.map_append]
        rfl
      · rcases List.mem_append.mp hv with h | h
        · exact eb v h
        · rw [List.mem_singleton.mp h]
          omega
    · refine ⟨_, rfl, a, ns.map V.int, rfl, sm.seq hS, for_it (walk_enum (xs := ns.map V.int)) (fun i σ H2 => ∃ (xs : List Int) (y2 y3 : Option V), σ = [some (.ref a), some (.ref D), y2, y3] ∧ Same H H2 ∧ H2 D = some (.lst (xs.map V.int)) ∧ Good xs)
        ⟨acc, none, none, rfl, sm, eD, ⟨el, eb⟩⟩ (fun i σ H2 _ ⟨xs, y2, y3, _, s2, _⟩ => s2.seq hS) (fun i x σ H2 H3 hi ⟨xs, y2, y3, eσ, s2, e2, g⟩ hy => ?_) (fun σ H2 ⟨xs, y2, y3, eσ, s2, e2, g⟩ => ?_)⟩
      · obtain ⟨Tt, x1, x2, rfl, nT, rfl, f1, f2⟩ := hy
        subst eσ
        obtain ⟨k, hk, k64⟩ := mod_nat (z := (i : Int))
        obtain ⟨v, hv, v0, v1⟩ := g.at xs k64
        have e1 : x1 = V.int (i : Int) := (Option.some.inj f1).symm
        obtain ⟨z, _, rfl⟩ := int_at f2
        subst e1
        have nDT : D ≠ Tt := ne_of_none e2 nT
        have e3 : upd H2 Tt (.tup [.int (i : Int), .int z]) D = some (.lst (xs.map V.int)) := by
          rw [upd_ne nDT]
          exact e2
        refine ⟨Tt, _, rfl, SqT.of upd_same, rfl, _, _, rfl, _, _, rfl, rfl, ?_⟩
        refine ⟨_, rfl, _, rfl, .inl ⟨_, rfl, _, _, rfl, rfl, (show (0 : Int) < 64 by decide), _, _, _, _, rfl, rfl, SqL.of e3, atI_of hk hv, ?_⟩⟩
        refine ⟨_, _, rfl, rfl, .inr (by decide), _, rfl, _, _, rfl, rfl, .inl ⟨_, rfl, _, _, rfl, rfl, (show (0 : Int) < 2147483647 by decide), ?_⟩⟩
        refine ⟨_, rfl, _, rfl, .inl ⟨_, rfl, _, _, rfl, rfl, (show (0 : Int) < 64 by decide), _, _, _, k, rfl, rfl, e3, ?_, ?_⟩⟩
        · rw [List.length_map, g.len]
          exact ixN_of hk k64
        · refine ⟨_, _, _, rfl, same_put (same_new s2 nT) hD, by rw [upd_same, map_set], g.set k _⟩
      · subst eσ
        refine ⟨1, 64, rfl, by decide, for_range (lo := 1) (n := 63) (fun i σ H3 => ∃ (xs : List Int) (y2 y3 : Option V), σ = [some (.ref a), some (.ref D), y2, y3] ∧ Same H H3 ∧ H3 D = some (.lst (xs.map V.int)) ∧ Good xs)
          ⟨xs, y2, y3, rfl, s2, e2, g⟩ (fun i σ H3 hi ⟨xs, y2, y3, eσ, s3, e3, g⟩ => ?_) (fun σ H3 ⟨xs, y2, y3, eσ, s3, e3, g⟩ => ?_)⟩
        · subst eσ
          obtain ⟨v, hv, v0, v1⟩ := g.at xs (k := i + 1) (by omega)
          obtain ⟨u, hu, u0, u1⟩ := g.at xs (k := i) (by omega)
          refine ⟨_, rfl, _, rfl, _, _, _, _, rfl, rfl, SqL.of e3, atI_of (k := i + 1) (by omega) hv, ?_⟩
          refine ⟨_, rfl, _, rfl, _, _, rfl, rfl, _, _, _, _, rfl, rfl, SqL.of e3, atI_of (k := i) (by omega) hu, ?_⟩
          refine ⟨_, _, rfl, rfl, .inr (by decide), _, _, rfl, rfl, .inl ⟨_, rfl, _, _, rfl, rfl, (show (0 : Int) < 2147483647 by decide), ?_⟩⟩
          refine ⟨_, rfl, _, rfl, _, _, _, i + 1, rfl, rfl, e3, ?_, ?_⟩
          · rw [List.length_map, g.len]
            exact ixN_of (by omega) (by omega)
          · exact ⟨_, _, _, rfl, same_put s3 hD, by rw [upd_same, map_set], g.set _ _⟩
        · subst eσ
          exact ⟨_, rfl, q _ _ _ s3 hD e3 g⟩
end
end XB
set_option Elab.async false
set_option linter.all false
set_option maxRecDepth 100000
set_option maxHeartbeats 4000000
namespace XB
open PySem PySem.Spec PyProof.Rows L2
/-! ### the draws' state: a dict of two rows and a number -/
abbrev kCells : Key := .inr "cells"
abbrev kGreat : Key := .inr "great"
abbrev kSpot : Key := .inr "spot"
def drawn (c g : Addr) (s : Int) : List (Key × V) := [(kCells, .ref c), (kGreat, .ref g), (kSpot, .int s)]
theorem drawn_spot (c g : Addr) (s : Int) : valV (drawn c g s) kSpot = some (.int s) := by rfl
theorem drawn_great (c g : Addr) (s : Int) : valV (drawn c g s) kGreat = some (.ref g) := by rfl
theorem drawn_cells (c g : Addr) (s : Int) : valV (drawn c g s) kCells = some (.ref c) := by rfl
theorem drawn_put (c g : Addr) (s z : Int) : putK (drawn c g s) kSpot (.int z) = drawn c g z := by rfl
structure Dr (H : Hp) (m c g : Addr) (s : Int) : Prop where
  ex : ∃ cs gs : List Int, H m = some (.dK (drawn c g s)) ∧ H c = some (.lst (cs.map V.int)) ∧ H g = some (.lst (gs.map V.int)) ∧ Good cs ∧ gs.length ≤ 1000
  ne : c ≠ g
  s0 : 0 ≤ s
/-- all but the draws' state stands -/
def Kp (m g : Addr) (H H' : Hp) : Prop := ∀ b o, b ≠ m → b ≠ g → H b = some o → H' b = some o
theorem Kp.refl {m g : Addr} {H : Hp} : Kp m g H H := fun _ _ _ _ e => e
theorem Kp.trans {m g : Addr} {H H1 H2 : Hp} (a : Kp m g H H1) (b : Kp m g H1 H2) : Kp m g H H2 := fun x o h1 h2 e => b x o h1 h2 (a x o h1 h2 e)
theorem Kp.of {m g : Addr} {H H1 : Hp} (a : Same H H1) : Kp m g H H1 := fun x o _ _ e => a x o e
theorem Kp.putM {m g : Addr} {H H1 : Hp} {o : HO} (a : Kp m g H H1) : Kp m g H (upd H1 m o) := fun x u h1 h2 e => by
  rw [upd_ne h1]
  exact a x u h1 h2 e
theorem Kp.putG {m g : Addr} {H H1 : Hp} {o : HO} (a : Kp m g H H1) : Kp m g H (upd H1 g o) := fun x u h1 h2 e => by
  rw [upd_ne h2]
  exact a x u h1 h2 e
theorem Kp.new {m g p : Addr} {H H1 : Hp} {o : HO} (a : Kp m g H H1) (hp : H1 p = none) : Kp m g H (upd H1 p o) := fun x u h1 h2 e => by
  rw [upd_ne (ne_of_none (a x u h1 h2 e) hp)]
  exact a x u h1 h2 e
theorem dpInts {K : PySem.W.Frag} {H : Hp} : ∀ gs : List Int, DpAll K H (gs.map V.int) (gs.map PyData.int)
  | [] => .nil
  | x :: r => .cons (.int x) (dpInts r)
theorem layInts : ∀ gs : List Int, PyData.canLayAll0 (gs.map PyData.int) = true
  | [] => rfl
  | x :: r => by
    show (PyData.canLay0 (.int x) && PyData.canLayAll0 (r.map PyData.int)) = true
    rw [layInts r]
    rfl
theorem deepInts : ∀ gs : List Int, PyData.depthAll (gs.map PyData.int) = 0
  | [] => rfl
  | x :: r => by
    show max (PyData.depth (.int x)) (PyData.depthAll (r.map PyData.int)) = 0
    rw [deepInts r]
    rfl
theorem shInts (gs : List Int) : SeqAt.shaped (.list (gs.map PyData.int)) = true := by
  show (PyData.canLayAll0 (gs.map PyData.int) && decide (PyData.depthAll (gs.map PyData.int) + 1 ≤ 64)) = true
  rw [layInts, deepInts]
  rfl
theorem neInts (gs : List Int) : PyData.eqv (.list (gs.map .int)) (.list []) = gs.isEmpty := by
  cases gs <;> rfl
section
variable {P : Program} {w : World} {K : PySem.W.Frag} {mg : Str → Option Value} {base : Heap}
def spDraw : Sp := fun vs H Q _ => ∃ (m c g : Addr) (s lim : Int), vs = [.ref m, .int lim] ∧ Dr H m c g s ∧ 0 < lim ∧ lim < 1073741824 ∧ s < 1073741824 ∧
  ∀ r H', 0 ≤ r → r < lim → Dr H' m c g (s + 1) → Kp m g H H' → Q (.int r) H'
theorem c_draw (T : Tx K mg) : Cl P w K mg base CX0 2 "_law_draw" spDraw := by
  refine cl0 T.d__law_draw (ps := ["m", "limit"]) (fun _ _ _ _ _ _ us hl => match us, hl with | [_, _], _ => rfl) sc__law_draw (fun vs H Q E h => ?_) (fun f cdv A outer st H vs Q E hr h => ?_)
  · obtain ⟨m, c, g, s, lim, rfl, _⟩ := h
    rfl
  · obtain ⟨m, c, g, s, lim, rfl, D, l0, l1, s1, q⟩ := h
    obtain ⟨⟨cs, gs, em, ec, eg, gc, gl⟩, ncg, s0⟩ := D
    have nd := sc__law_draw.nd
    have hu := hu_of hr
    refine ⟨_, pss_cons (ps_set (i := 2) nd rfl (.inl rfl) (pe_dget hu (pv 0) pe_str (fun _ _ => rfl)))
      (pss_cons (ps_dput hu (pv 0) pe_str (pe_op op_add (pv 2) pe_int) rfl)
      (C8.pss_cut (ps_if (pt_cmpR (op_neD hr.units) (pe_dget hu (pv 0) pe_str (fun _ _ => rfl)) (pe_lst pa_nil) (nomark _))
        (pss_cons (ps_set (i := 3) nd rfl (.inl rfl) (pe_dget hu (pv 0) pe_str (fun _ _ => rfl)))
        (pss_cons (ps_set (i := 4) nd rfl (.inl rfl) (pe_op op_mod (pe_callTy call_int1 (by rfl) T.b_int (by decide +kernel) (pa_cons (pv 2) pa_nil)) (pe_callB call_len_seq (by rfl) T.b_len PySem.boot_len (pa_cons (pv 3) pa_nil))))
        (pss_cons (ps_set (i := 5) nd rfl (.inl rfl) (pe_ix ix_list (pv 3) (pv 4) (fun _ _ => rfl)))
        (pss_one (ps_if (pt_cmpR op_gt (pv 5) pe_int (nomark _))
          (pss_cons (ps_asg (pe_op op_fdivW (pv 5) (pv 1)) (pg_sub (pv 3) (pv 4) set_list))
          (pss_one (ps_ret (pe_op op_mod (pe_callTy call_int1 (by rfl) T.b_int (by decide +kernel) (pa_cons (pv 5) pa_nil)) (pv 1))))) pss_nil)))))
        pss_nil)
      (pss_cons (ps_set (i := 3) nd rfl (.inl rfl) (pe_dget hu (pv 0) pe_str (fun _ _ => rfl)))
      (pss_one (ps_ret (pe_op op_mod (pe_callTy call_int1 (by rfl) T.b_int (by decide +kernel) (pa_cons
        (pe_k (c_mixed T) hr (by decide) (by rfl) (pa_cons
          (pe_k (c_mixed T) hr (by decide) (by rfl) (pa_cons (pe_op op_add (pe_ix ix_list (pv 3) (pe_op op_mod (pe_callTy call_int1 (by rfl) T.b_int (by decide +kernel) (pa_cons (pv 2) pa_nil)) pe_int) (fun _ _ => rfl)) (pe_op op_mul pe_int (pe_op op_fdiv (pv 2) pe_int))) (pa_cons (pv 2) pa_nil)))
          (pa_cons (pe_op op_add (pv 2) pe_int) pa_nil))) pa_nil)) (pv 1))))))), ?_⟩
    have nmc : m ≠ c := ne_of em ec (by intro z; cases z)
    have nmg : m ≠ g := ne_of em eg (by intro z; cases z)
    refine ⟨_, rfl, m, _, rfl, DGet.k (k := kSpot) em, ?_⟩
    refine ⟨_, rfl, _, _, rfl, rfl, _, rfl, m, _, rfl, DPut.k (k := kSpot) em (by show 3 < sizeLine; decide), ?_⟩
    have em1 : upd H m (.dK (putK (drawn c g s) kSpot (.int (s + 1)))) m = some (.dK (drawn c g (s + 1))) := upd_same
    generalize hH1 : upd H m (.dK (putK (drawn c g s) kSpot (.int (s + 1)))) = H1 at em1
    have ec1 : H1 c = some (.lst (cs.map V.int)) := by
      rw [← hH1, upd_ne nmc.symm]
      exact ec
    have eg1 : H1 g = some (.lst (gs.map V.int)) := by
      rw [← hH1, upd_ne nmg.symm]
      exact eg
    have k1 : Kp m g H H1 := by
      rw [← hH1]
      exact Kp.refl.putM
    refine ⟨fun σ H' => ∃ y3 y4 y5, σ = [some (.ref m), some (.int lim), some (.int s), y3, y4, y5] ∧ Dr H' m c g (s + 1) ∧ Kp m g H H', ?_, ?_⟩
    · refine ⟨_, rfl, m, _, rfl, DGet.k (k := kGreat) em1, Nat.zero_le _, fun p hp => ?_⟩
      have em2 := (same_upd (o := .lst []) hp) m _ em1
      have ec2 := (same_upd (o := .lst []) hp) c _ ec1
      have eg2 := (same_upd (o := .lst []) hp) g _ eg1
      have k2 : Kp m g H (upd H1 p (.lst [])) := k1.new hp
      have ep2 : upd H1 p (.lst []) p = some (.lst []) := upd_same
      generalize upd H1 p (.lst []) = H2 at em2 ec2 eg2 k2 ep2 ⊢
      refine ⟨.list (gs.map .int), .list [], .lst (SqL.of eg2) (dpInts gs), .lst (SqL.of ep2) .nil, shInts gs, rfl, _, rfl, ?_⟩
      refine ite2 (fun hne => ?_) (fun _ => ⟨_, _, _, rfl, ⟨⟨cs, gs, em2, ec2, eg2, gc, gl⟩, ncg, by omega⟩, k2⟩)
      have hpos : 0 < gs.length := by
        rw [neInts] at hne
        cases gs with
        | nil => exact absurd hne (by decide)
        | cons _ _ => exact Nat.succ_pos _
      refine ⟨_, rfl, m, _, rfl, DGet.k (k := kGreat) em2, ?_⟩
      refine ⟨_, rfl, .inl ⟨_, rfl, _, rfl, g, _, rfl, .inl (SqL.of eg2), _, _, rfl, rfl, ?_, ?_⟩⟩
      · show (0 : Int) < ((gs.map V.int).length : Int)
        rw [List.length_map]
        omega
      have h0 := Int.emod_nonneg s (b := ((gs.map V.int).length : Int)) (by rw [List.length_map]; omega)
      have h1 := Int.emod_lt_of_pos s (b := ((gs.map V.int).length : Int)) (by rw [List.length_map]; omega)
      rw [List.length_map] at h0 h1
      obtain ⟨k, hk⟩ : ∃ k : Nat, s % (gs.length : Int) = (k : Int) := ⟨(s % (gs.length : Int)).toNat, by omega⟩
      have hkl : k < gs.length := by omega
      have hk' : s % ((gs.map V.int).length : Int) = (k : Int) := by
        rw [List.length_map]
        exact hk
      refine ⟨_, rfl, _, rfl, _, _, _, _, rfl, rfl, SqL.of eg2, atI_of hk' (List.getElem?_eq_getElem hkl), ?_⟩
      refine ⟨_, rfl, _, _, rfl, rfl, _, rfl, ?_⟩
      refine ite2 (fun hp => ?_) (fun _ => ⟨_, _, _, rfl, ⟨⟨cs, gs, em2, ec2, eg2, gc, gl⟩, ncg, by omega⟩, k2⟩)
      refine ⟨_, rfl, _, rfl, _, _, rfl, rfl, wide_div l0 (b := 31) (by omega) (by decide) (by decide), ?_⟩
      refine ⟨_, rfl, _, rfl, _, _, _, k, rfl, rfl, eg2, ixN_of hk' (by rw [List.length_map]; exact hkl), ?_⟩
      refine ⟨_, rfl, .inl ⟨_, rfl, _, rfl, _, _, rfl, rfl, l0, ?_⟩⟩
      refine q _ _ (Int.emod_nonneg _ (by omega)) (Int.emod_lt_of_pos _ l0) ⟨⟨cs, _, ?_, ?_, by rw [upd_same, map_set], gc, by rw [List.length_set]; exact gl⟩, ncg, by omega⟩ k2.putG
      · rw [upd_ne nmg]
        exact em2
      · rw [upd_ne ncg]
        exact ec2
    · rintro σ H3 ⟨y3, y4, y5, rfl, ⟨⟨cs, gs, em3, ec3, eg3, gc3, gl3⟩, _, _⟩, k3⟩
      obtain ⟨k, hk, k64⟩ := mod_nat (z := s)
      obtain ⟨v, hv, v0, v1⟩ := gc3.at cs k64
      refine ⟨_, rfl, m, _, rfl, DGet.k (k := kCells) em3, ?_⟩
      refine ⟨_, rfl, _, rfl, .inl ⟨_, rfl, _, _, rfl, rfl, (show (0 : Int) < 64 by decide), _, _, _, _, rfl, rfl, SqL.of ec3, atI_of hk hv, ?_⟩⟩
      refine ⟨_, rfl, _, _, rfl, rfl, ⟨by decide, by decide⟩, _, _, rfl, rfl, .inl (by decide), _, _, rfl, rfl, ?_⟩
      refine ⟨_, rfl, _, _, rfl, by omega, by omega, s0, by omega, fun r1 a0 a1 => ?_⟩
      refine ⟨_, rfl, _, _, rfl, rfl, _, _, rfl, a0, by omega, by omega, by omega, fun r2 b0 b1 => ?_⟩
      refine .inl ⟨_, rfl, _, rfl, _, _, rfl, rfl, l0, ?_⟩
      exact q _ _ (Int.emod_nonneg _ (by omega)) (Int.emod_lt_of_pos _ l0) ⟨⟨cs, gs, em3, ec3, eg3, gc3, gl3⟩, ncg, by omega⟩ k3
end
end XB
set_option Elab.async false
set_option linter.all false
set_option maxRecDepth 100000
set_option maxHeartbeats 4000000
namespace XB
open PySem PySem.Spec PyProof.Rows L2
section
variable {P : Program} {w : World} {K : PySem.W.Frag} {mg : Str → Option Value} {base : Heap}
def spBegun (K : PySem.W.Frag) : Sp := fun vs H Q _ => ∃ (a : Addr) (ns : List Int), vs = [.ref a] ∧ SqL K H a (ns.map V.int) ∧ ns.length ≤ 1000 ∧
  ∀ H' m c g, Same H H' → H m = none → H c = none → H g = none → Dr H' m c g 0 → Q (.ref m) H'
theorem c_begun (T : Tx K mg) : Cl P w K mg base CX0 2 "_law_begun" (spBegun K) := by
  refine cl0 T.d__law_begun (ps := ["script"]) (fun _ _ _ _ _ _ us hl => match us, hl with | [_], _ => rfl) sc__law_begun (fun vs H Q E h => ?_) (fun f cdv A outer st H vs Q E hr h => ?_)
  · obtain ⟨a, ns, rfl, _⟩ := h
    rfl
  · obtain ⟨a, ns, rfl, hS, hlen, q⟩ := h
    have nd := sc__law_begun.nd
    have hu := hu_of hr
    refine ⟨_, pss_cons (ps_set (i := 1) nd rfl (.inl rfl) (pe_disp (pps_cons pe_str (pe_k (c_folded T) hr (by decide) (by rfl) (pa_cons (pv 0) pa_nil)) (pps_cons pe_str (pe_lst pa_nil) (pps_cons pe_str pe_int pps_nil))) (by rfl) (by rfl) (fun z => by cases z) (by decide)))
      (pss_cons (ps_dput hu (pv 1) pe_str (pe_lc (own := [("cell", 2)]) (g := gName 2) (tt := tYes) (by rfl) nd (pi_list (pv 0)) (blkOk_by (own := [("cell", 2)]) (N := ["script", "m", "cell"]) (sc := defScope s__law_begun) (by decide +kernel))
          (fun _ _ _ _ _ => pg_name (i := 2) nd rfl (Or.inl rfl)) (fun _ _ _ _ _ => pts_nil) (fun _ _ _ _ _ => pe_ifExp (pt_cmpR op_ge (pv 2) (pe_op op_pow pe_int pe_int) (nomark _)) (pv 2) pe_int)) rfl)
      (pss_one (ps_ret (pv 1)))), ?_⟩
    refine fun m hm => ?_
    have s1 : Same H (upd H m (.dK [])) := same_upd hm
    refine ⟨_, rfl, a, ns, rfl, s1.seq hS, hlen, fun H1 c cs sm nc ec gc => ?_⟩
    have hc0 : H c = none := s1.free nc
    have nmc : m ≠ c := fun e => by
      rw [← e, upd_same] at nc
      cases nc
    have em1 : H1 m = some (.dK []) := sm _ _ upd_same
    refine ⟨Nat.zero_le _, fun g0 hg0 => ?_⟩
    have em2 : upd H1 g0 (.lst []) m = some (.dK []) := (same_upd (o := .lst []) hg0) _ _ em1
    have ec2 : upd H1 g0 (.lst []) c = some (.lst (cs.map V.int)) := (same_upd (o := .lst []) hg0) _ _ ec
    have s2 : Same H (upd H1 g0 (.lst [])) := (s1.trans sm).trans (same_upd hg0)
    generalize upd H1 g0 (.lst []) = H2 at em2 ec2 s2 ⊢
    refine ⟨em2, [(kCells, .ref c), (kGreat, .ref g0), (kSpot, .int 0)], rfl, by show 3 ≤ 15; decide, ?_⟩
    have em3 : upd H2 m (.dK (mergeK [] [(kCells, .ref c), (kGreat, .ref g0), (kSpot, .int 0)])) m = some (.dK (drawn c g0 0)) := by
      rw [upd_same]
      rfl
    have ec3 : upd H2 m (.dK (mergeK [] [(kCells, .ref c), (kGreat, .ref g0), (kSpot, .int 0)])) c = some (.lst (cs.map V.int)) := by
      rw [upd_ne nmc.symm]
      exact ec2
    have s3 : Same H (upd H2 m (.dK (mergeK [] [(kCells, .ref c), (kGreat, .ref g0), (kSpot, .int 0)]))) := same_put s2 hm
    generalize upd H2 m (.dK (mergeK [] [(kCells, .ref c), (kGreat, .ref g0), (kSpot, .int 0)])) = H3 at em3 ec3 s3 ⊢
    refine ⟨_, rfl, a, rfl, ⟨_, s3.seq hS⟩, fun g hg => ?_⟩
    have hgH : H g = none := s3.free hg
    refine lc_list (K := K) (a := a) (xs := ns.map V.int) (fun i H' => ∃ acc : List Int, H' g = some (.lst (acc.map V.int)) ∧ acc.length = i ∧ Same H H' ∧ H' m = some (.dK (drawn c g0 0)) ∧ H' c = some (.lst (cs.map V.int)))
      ⟨[], upd_same, rfl, same_new s3 hg, (same_upd hg) _ _ em3, (same_upd hg) _ _ ec3⟩ (fun i H' _ ⟨_, _, _, s', _⟩ => s'.seq hS) (fun i x H' hi ⟨acc, eg, el, s', em', ec'⟩ => ?_) (fun H' ⟨acc, eg, el, s', em', ec'⟩ => ?_)
    · obtain ⟨z, hz, rfl⟩ := int_at hi
      have hil : i < ns.length := (List.getElem?_eq_some_iff.mp hz).1
      have nmg : m ≠ g := ne_of em' eg (by intro z; cases z)
      have ncg : c ≠ g := fun e => by
        rw [← e, ec3] at hg
        cases hg
      refine ⟨rfl, yes_ ?_⟩
      refine ⟨_, rfl, _, _, rfl, rfl, ⟨by decide, by decide, by decide⟩, _, _, rfl, rfl, _, rfl, ?_⟩
      have fin : ∀ y : Int, ∃ acc_1, H' g = some (.lst acc_1) ∧ acc_1.length < sizeLine ∧ ∃ acc2 : List Int, upd H' g (.lst (acc_1 ++ [V.int y])) g = some (.lst (acc2.map V.int)) ∧ acc2.length = i + 1 ∧ Same H (upd H' g (.lst (acc_1 ++ [V.int y]))) ∧
          upd H' g (.lst (acc_1 ++ [V.int y])) m = some (.dK (drawn c g0 0)) ∧ upd H' g (.lst (acc_1 ++ [V.int y])) c = some (.lst (cs.map V.int)) := fun y => by
        refine ⟨_, eg, by rw [List.length_map, el]; exact small1000 (by omega), acc ++ [y], ?_, by rw [List.length_append, el]; rfl, same_put s' hgH, ?_, ?_⟩
        · rw [upd_same, List.map_append]
          rfl
        · rw [upd_ne nmg]
          exact em'
        · rw [upd_ne ncg]
          exact ec'
      refine ite2 (fun _ => ?_) (fun _ => ?_)
      · exact ⟨_, rfl, fin z⟩
      · exact fin 0
    · have nmg : m ≠ g := ne_of em' eg (by intro z; cases z)
      have ncg : c ≠ g := fun e => by
        rw [← e, ec3] at hg
        cases hg
      refine ⟨_, rfl, m, _, rfl, DPut.k (k := kGreat) em' (by show 3 < sizeLine; decide), _, rfl, ?_⟩
      refine q _ m c g (same_put s' hm) hm hc0 hgH ⟨⟨cs, acc, ?_, ?_, ?_, gc, ?_⟩, ncg, Int.le_refl _⟩
      · rw [upd_same]
        rfl
      · rw [upd_ne nmc.symm]
        exact ec'
      · rw [upd_ne nmg.symm]
        exact eg
      · rw [el, List.length_map]
        exact hlen
end
end XB
set_option Elab.async false
set_option linter.all false
set_option maxRecDepth 100000
set_option maxHeartbeats 4000000
/-! promises of defs that may ask for repr: no repr runs around them -/
namespace XB
open PySem PySem.Spec PyProof.Rows L2
section
variable {P : Program} {w : World} {K : PySem.W.Frag} {mg : Str → Option Value} {base : Heap} {CX : CXT}
/-- a promise that is kept where no repr runs around -/
structure FnG (P : Program) (w : World) (K : PySem.W.Frag) (mg : Str → Option Value) (base : Heap) (CX : CXT) (lev : Nat) (at_ : Addr) (fdat : FuncData) (pars : List Str) (sp : Sp) : Prop where
  many : ∀ vs H Q E, sp vs H Q E → vs.length = pars.length
  goes : ∀ {A : Around} {outer : List Env} {s : Shared} {H : Hp} {args : Args} {us : List Value} {vs : List V} {Q : VK} {E : XK}, A.guards = some [] → Room lev A → Env0 P w K mg base A outer s H →
    BindsTo s fdat args (pars.zip us) → Vals vs us → sp vs H Q E → codeAny (model P w) A (.call (.ref at_) args) (CR CX outer P w H s Q E) s
theorem FnOk.toG {k : Nat} {f : Addr} {fd : FuncData} {ps : List Str} {sp : Sp} (F : FnOk P w K mg base CX k f fd ps sp) : FnG P w K mg base CX k f fd ps sp :=
  ⟨F.len, fun _ hr e0 hb r h => F.run _ _ _ _ _ _ _ _ _ hr e0 hb r h⟩
theorem FnG.mono {j k : Nat} {f : Addr} {fd : FuncData} {ps : List Str} {sp : Sp} (F : FnG P w K mg base CX j f fd ps sp) (h : j ≤ k) : FnG P w K mg base CX k f fd ps sp :=
  ⟨F.many, fun hg hr => F.goes hg (hr.mono h)⟩
/-- the def's body, where no repr runs around -/
theorem fng_of {k : Nat} {f : Addr} {nm ql : Str} {pars : Arguments} {bd : List Stmt} {sc : Scope} {d1 d2 d3 d4 cdv d5 d6 : Value} {o1 o2 : Option Addr} {osl : Array (Option Value)} {N ps : List Str} {sp : Sp}
    (lk : K.lookup f = some ⟨d6, o2, .func (PySem.W.fnOf nm ql pars bd sc d1 d2 d3 d4 o1 cdv d5), osl⟩) (hcd : PySem.W.codeIn K cdv ql = true) (S : FnScope N ps sc) (len : ∀ vs H Q E, sp vs H Q E → vs.length = ps.length)
    (hbody : ∀ (A : Around) (outer : List Env) (s : Shared) (H : Hp) (vs : List V) (Q : VK) (E : XK), A.guards = some [] → Room k (A.deeper (envOfC ql sc s.heap.objs.size f cdv)) → sp vs H Q E →
      ∃ t, PSs (cxOf CX P w K mg base N ql sc f cdv A outer s H E) bd t ∧ t { nx := fun _ H' => Q .non H', rt := Q } (start N vs) H) :
    FnG P w K mg base CX (k + 1) f (PySem.W.fnOf nm ql pars bd sc d1 d2 d3 d4 o1 cdv d5) ps sp := by
  constructor
  · exact len
  · intro A outer s H args us vs Q E hgu hr e0 hbd rel hsp
    have stays : ∀ b o, base.get? b = some o → s.heap.get? b = some o := fun b o e => (e0.bs b o e).1
    have KX : K.In s.heap := e0.mod.kin.keeps stays
    have kinds : ∀ y ∈ ps.zip us, sc.names.lookup y.1 = some .local ∨ (sc.names.lookup y.1 = some .cell ∧ ((cellsFrom (s.heap.objs.size + 1) sc.names []).lookup y.1).isSome = true) := by
      rintro ⟨x, v⟩ hy
      exact (S.par x (List.of_mem_zip hy).1).imp id fun q => ⟨q, PySem.W.cellsFrom_some _ _ _ (.inl q)⟩
    refine codeAny_call_function hr.depth (KX _ _ lk) rfl S.co S.gen rfl (PySem.W.codeRec_of KX hcd) (hbd _ _ _ _ ?_)
    refine wpAny_newFunctionEnv_cells S.kind kinds (fun env he s1 x => ?_)
    cases he
    refine ⟨(e0.mod.nolimit.keeps stays).keeps x.toInCall.keep, codeAny_func ?_⟩
    obtain ⟨t, ht, hq⟩ := hbody A outer s H vs Q E hgu (hr.deeper _) hsp
    have I := inv_start (CX := CX) (mg := mg) (base := base) (P := P) (w := w) (E := E) (cd := cdv) (f := f) (qual := ql) S hr.hd e0 (len _ _ _ _ hsp) rel x
    refine wpAny_mono (ht.run [] s1 _ H _ I hq) ?_ (fun _ _ z => z)
    rintro fl s' hs
    rcases fl with u | _ | _ | _ <;> first
      | (obtain ⟨v, σ', H', J, rv, q⟩ := hs; exact ⟨v, H', J.os, J.bare, J.base, J.hok, rv, q⟩)
      | (obtain ⟨σ', H', J, q⟩ := hs; first | exact ⟨V.non, H', J.os, J.bare, J.base, J.hok, rfl, q⟩ | exact False.elim q)
/-- a def that asks for repr, by its name -/
structure Cg (P : Program) (w : World) (K : PySem.W.Frag) (mg : Str → Option Value) (base : Heap) (CX : CXT) (k : Nat) (x : Str) (sp : Sp) : Prop where
  ex : ∃ (f : Addr) (fd : FuncData) (ps : List Str), FnG P w K mg base CX k f fd ps sp ∧ mg x = some (.ref f) ∧ PySem.W.keepIn K (.ref f) = true ∧ Binds K fd ps []
theorem Cl.toG {k : Nat} {x : Str} {sp : Sp} (c : Cl P w K mg base CX k x sp) : Cg P w K mg base CX k x sp := by
  obtain ⟨f, fd, ps, F, r⟩ := c.ex
  exact ⟨f, fd, ps, FnOk.toG F, r⟩
theorem cg0 {x : Str} {st : Stmt} {N ps : List Str} {k : Nat} {sp : Sp} (D : Dn K mg x st)
    (hb : ∀ (kV doc pm : Value) (an : Option Addr) (cdv ct : Value) (us : List Value), us.length = ps.length → bindArgs (PySem.W.fnOf x x (defArgs st) (defBody st) (defScope st) .none kV doc pm an cdv ct) ⟨us, []⟩ = pure (ps.zip us))
    (S : FnScope N ps (defScope st)) (len : ∀ vs H Q E, sp vs H Q E → vs.length = ps.length)
    (hbody : ∀ (f : Addr) (cdv : Value) (A : Around) (outer : List Env) (s : Shared) (H : Hp) (vs : List V) (Q : VK) (E : XK), (A.deeper (envOfC x (defScope st) s.heap.objs.size f cdv)).guards = some [] → Room k (A.deeper (envOfC x (defScope st) s.heap.objs.size f cdv)) → sp vs H Q E →
      ∃ t, PSs (cxOf CX0 P w K mg base N x (defScope st) f cdv A outer s H E).nox (defBody st) t ∧ t { nx := fun _ H' => Q .non H', rt := Q } (start N vs) H) : Cg P w K mg base CX0 (k + 1) x sp := by
  obtain ⟨f, fd, F, hm⟩ := D.ex
  obtain ⟨oc, od, kV, doc, pm, an, cdv, ct, osl, rfl, lk, hcd⟩ := id F.ex
  refine ⟨f, _, ps, fng_of lk hcd S len (fun A outer s H vs Q E hg hr h => ?_), hm, F.kp, F.binds hb⟩
  obtain ⟨t, ht, q⟩ := hbody f cdv A outer s H vs Q E hg hr h
  exact ⟨t, ht.nox, q⟩
end
section
variable {X : Cx} {k j : Nat} {x : Str} {sp : Sp} {p pos : Pos} {e : Expr} {es : List Expr} {t : TA}
theorem pe_g (c : Cg X.prog X.w X.K X.mg X.base CX0 k x sp) (hgu : X.A.guards = some []) (hr : Room j X.A) (hk : k ≤ j) (hg : Gl X x) (ha : PA X (e :: es) t)
    (hdb : (x == ("__debug__" : Str)) = false := by decide) (he : starEach (e :: es) X.env = (false, eval e X.env) :: starEach es X.env := by rfl) (hpl : (backTo pos (starEach es X.env)).any (·.1) = false := by rfl) :
    PE X (.Call (.Name x p) (e :: es) [] pos) (tCall sp [] E0 t) := by
  obtain ⟨f, fd, ps, F, hm, kp, b⟩ := c.ex
  constructor
  intro pins s σ H Q I h
  refine wpAny_Call_Name_kw (ld_glob I hg hm ?_ hdb)
  refine PySem.W.callWith_K (h₀ := X.base) I.ok.mod.kin kp (thn (ha.run pos pins s σ H _ I h) ?_) he hpl
  rintro us s1 ⟨vs, H1, I1, r, q⟩
  have q' : sp vs H1 Q E0 := by
    rw [List.append_nil] at q
    exact q
  have hl : us.length = ps.length := by
    rw [← r.length]
    exact F.many _ _ _ _ q'
  have bb := b s1 us I1.kIn (by rw [List.append_nil]; exact hl)
  rw [List.append_nil] at bb
  refine ⟨I1.kIn, wpAny_call (codeAny_mono (F.goes (outer := X.stack) (Q := Q) (E := E0) hgu (hr.mono hk) I1.env0 bb r q') ?_)⟩
  rintro (er | fl) s' hq
  · exact hq.elim
  · rcases fl with u | _ | _ | _ <;> first
      | exact I1.after hq
      | exact False.elim hq
/-- repr of data -/
theorem call_reprD (hgu : X.A.guards = some []) (hu : X.A.units + 70 < cLine) : CallR X (.builtin "repr") (fun xs H Q => ∃ x d, xs = [x] ∧ Dp X.K H x d ∧ d.showable = true ∧ d.hasDict = false ∧ d.depth ≤ 64 ∧ d.shown.length ≤ sizeLine ∧ Q (.str d.shown) H) := by
  intro pins s σ H xs us Q I r h
  obtain ⟨x, d, rfl, hd, hs, hnd, hdp, hz, q⟩ := h
  cases r with
  | cons rx rr =>
    cases rr
    obtain ⟨as, hr⟩ := Dp.reads I d x _ hd rx
    cases hr with
    | none => exact PySem.P.repr_of_none ⟨.str _, H, I.tok _, ⟨_, rfl⟩, q⟩
    | bool b => exact PySem.P.repr_of_bool ⟨.str _, H, I.tok _, ⟨_, rfl⟩, q⟩
    | int i t => exact PySem.P.repr_of_int (of_decide_eq_true hs) ⟨.str _, H, I.tok _, ⟨_, rfl⟩, q⟩
    | str z t => exact PySem.P.repr_of_str ⟨.str _, H, I.tok _, ⟨_, rfl⟩, q⟩ hz
    | list h1 h2 h3 h4 => exact repr_of_reads' (.list h1 h2 h3 h4) hs (fun z => by rw [hnd] at z; cases z) hgu (by omega) (fun _ _ e => e) (fun h' u tk k => ⟨.str _, H, I.kept k, ⟨_, rfl⟩, q⟩) hz
    | tuple h1 h2 h3 h4 => exact repr_of_reads' (.tuple h1 h2 h3 h4) hs (fun z => by rw [hnd] at z; cases z) hgu (by omega) (fun _ _ e => e) (fun h' u tk k => ⟨.str _, H, I.kept k, ⟨_, rfl⟩, q⟩) hz
    | dict h1 h2 h3 h4 h5 => cases hnd
end
end XB
set_option Elab.async false
set_option linter.all false
set_option maxRecDepth 100000
set_option maxHeartbeats 4000000
/-! further rules: enumerate of a tuple, min and max of two texts, the order of pairs of texts -/
namespace PySem
open Sem (wp)
open AutoSeq1 (wpAny_loadPart')
theorem XBmeets_enumT (l : Addr) (items : Array Value) :
    Meets (Builtin.«enumerate.__new__» ⟨[.type "enumerate", .ref l], []⟩) (fun _ R s => s.heap.IsTuple l items ∧
      R (.ok (.ret (.ref (s.heap.push { cls := .type "tuple_iterator", data := .fields #[.ref l, .int 0 0] }).objs.size)))
        { s with heap := (s.heap.push { cls := .type "tuple_iterator", data := .fields #[.ref l, .int 0 0] }).push { cls := .type "enumerate", data := .fields #[.none, .bool false, .ref s.heap.objs.size, rawInt 0, .none, .none] } }) :=
  .of_wp fun prog w A R s ⟨hT, hR⟩ => by
    obtain ⟨hp, gg, dd, tk, os⟩ := s
    have subE := sub_enumerate
    have hT' : Heap.IsTuple (Shared.heap ⟨hp, gg, dd, tk, os⟩) l items := hT
    have it_ : ∀ {A' : Around} {E : Value → Shared → Prop} {Q : Value → Shared → Prop}, Q (.ref hp.objs.size) ⟨hp.push { cls := .type "tuple_iterator", data := .fields #[.ref l, .int 0 0] }, gg, dd, tk, os⟩ → wpAny (model prog w) A' (pyIter (.ref l)) Q E ⟨hp, gg, dd, tk, os⟩ :=
      fun q => wpAny_pyIter_tuple hT' q
    wp_walk using it_
    refine wpAny_stack_any fun st => wpAny_pure ?_
    split
    · rename_i c _ _ _ _ _
      cases (c == Value.type "enumerate") <;> (wp_walk using it_; exact ⟨_, rfl, hR⟩)
    · wp_walk using it_
      exact ⟨_, rfl, hR⟩
section
variable {prog : Program} {w : World} {A : Around} {E : Value → Shared → Prop} {s : Shared}
theorem XBcall_enumT {l : Addr} {items : Array Value} {Q : Value → Shared → Prop} (hT : s.heap.IsTuple l items)
    (h : ∀ h', IsEnum h' (s.heap.objs.size + 1) s.heap.objs.size 0 .none → h'.IsTupleIter s.heap.objs.size l 0 → (∀ b o, s.heap.get? b = some o → h'.get? b = some o) → Q (.ref (s.heap.objs.size + 1)) { s with heap := h' }) :
    wpAny (model prog w) A (call (.type "enumerate") [.ref l]) Q E s := by
  refine callType_new F.called_enumerate (by decide) (F.typeCall_enumerate_1 _) (F.newCall_enumerate_1 _) (fun obj => F.args_object_init_2 obj _) F.entry_enumerate_new (XBmeets_enumT l items) ⟨hT, ?_⟩
  have hz : (s.heap.push { cls := .type "tuple_iterator", data := .fields #[.ref l, .int 0 0] }).objs.size = s.heap.objs.size + 1 := Heap.size_push ..
  show _ ∧ _
  rw [hz]
  have he := Heap.get?_push_size (s.heap.push { cls := .type "tuple_iterator", data := .fields #[.ref l, .int 0 0] }) (o := { cls := .type "enumerate", data := .fields #[.none, .bool false, .ref s.heap.objs.size, rawInt 0, .none, .none] }) rfl
  rw [hz] at he
  exact ⟨⟨_, he, rfl⟩, h _ he ⟨_, Heap.get?_push_of_some _ (Heap.get?_push_size _ rfl), rfl, rfl⟩ fun b o x => Heap.get?_push_of_some _ (Heap.get?_push_of_some _ x)⟩
end
end PySem
namespace XB
open PySem PySem.Spec PyProof.Rows L2
/-- the tuple at a, each item in a new pair with its number -/
def IeT (K : PySem.W.Frag) (a : Addr) : It where
  go := fun i H => ∃ (xs : List V) (x : V), SqT K H a xs ∧ xs[i]? = some x
  yld := fun i H v H' => ∃ T x, v = .ref T ∧ H T = none ∧ H' = upd H T (.tup [.int (i : Nat), x]) ∧ ∀ xs, SqT K H a xs → xs[i]? = some x
  stop := fun i H => ∃ xs : List V, SqT K H a xs ∧ xs.length = i
theorem turn_IeT {P : Program} {w : World} {K : PySem.W.Frag} {elts : List Expr} {kk : Nat} {tpos : Pos} (a e it : Addr) :
    Turn P w K (.Tuple elts kk tpos) (IeT K a) [e, it] e (fun i h => (∃ old, IsEnum h e it ((i : Nat) : Int) old) ∧ h.IsTupleIter it a i ∧ e ≠ it ∧ a ≠ it ∧ a ≠ e) where
  mem := List.mem_cons_self
  obj := fun i h st b hb => by
    obtain ⟨⟨old, he⟩, ⟨o, ho, hc, hd⟩, _⟩ := st
    rcases List.mem_cons.mp hb with rfl | hb
    · exact ⟨_, he, fun v q => nomatch q⟩
    · rw [List.mem_singleton.mp hb]
      exact ⟨o, ho, fun v q => by rw [hd] at q; cases q⟩
  keep := fun i h h' ⟨⟨old, he⟩, hi, r⟩ k => ⟨⟨old, k e List.mem_cons_self _ he⟩, hi.at fun o q => k it (by simp) o q, r⟩
  item := by
    intro X hP hw hK hc i pins s σ H E I hf st hg
    subst hP hw hK
    obtain ⟨⟨old, he⟩, hit, hne, nai, nae⟩ := st
    obtain ⟨xs, x, hq, hx⟩ := hg
    obtain ⟨its, rv, p, hz⟩ := I.tuple hq
    obtain ⟨u, hu, ru⟩ := rv.get hx
    have hel : e < s.heap.objs.size := Heap.lt_size he
    have hil : it < s.heap.objs.size := by
      obtain ⟨_, q, _⟩ := hit
      exact Heap.lt_size q
    have hlen : i < its.toArray.size := by
      rw [List.size_toArray]
      exact (List.getElem?_eq_some_iff.mp hu).1
    refine wpAny_pyNext_enum_itemD (Draws.tuple (prog := X.prog) (w := X.w) (A := X.A.in1) (I.ok.hd hc) it a nai its.toArray) he ⟨hit, p⟩ hlen hne (by simp [hne]; exact fun z => nae z.symm) fun v h' tk hv ho hs hT hsz hk => ?_
    have hv' : v = u := by
      rw [List.getElem?_toArray, hu] at hv
      exact (Option.some.inj hv).symm
    subst hv'
    refine ⟨_, rfl, wpAny_letOwnedTupleGo_enum (s := { s with heap := h', toks := tk + 1 }) ho fun h'' he' sb => ?_⟩
    have hT2 : h''.get? s.heap.objs.size = some { cls := .type "tuple", data := .seq #[.int i tk, v] } := (sb.2 _ (Nat.ne_of_gt hel)).trans hT
    have new : ObjOk X.prog X.w (upd H s.heap.objs.size (.tup [.int (i : Nat), x])) h'' s.heap.objs.size (.tup [.int (i : Nat), x]) :=
      ⟨by show 2 ≤ sizeLine; decide, [.int i tk, v], .cons ⟨_, rfl⟩ (.cons ru .nil), ⟨_, hT2, rfl, _, rfl⟩⟩
    have I1 := I.turnedNew (t' := tk + 1) (ch := [e, it]) (fun b ob hb q => (sb.2 b (fun z => hb (by simp [z]))).trans (hk b ob (fun z => hb (by simp [z])) (fun z => hb (by simp [z])) q)) hf (Nat.le_refl _) new
    refine ⟨.ref s.heap.objs.size, _, I1, rfl, ⟨_, x, rfl, I.hok.fresh (Nat.le_refl _), rfl, fun ys hy => by rw [I.tuple_inj hy hq]; exact hx⟩, ⟨⟨v, ?_⟩, hs.1.at fun o q => (sb.2 it (Ne.symm hne)).trans q, hne, nai, nae⟩, fun b hb => ?_⟩
    · rw [show ((i + 1 : Nat) : Int) = (i : Int) + 1 by omega]
      exact he'
    · have hb' : b < s.heap.objs.size := by
        rcases List.mem_cons.mp hb with rfl | z
        · exact hel
        · rw [List.mem_singleton.mp z]
          exact hil
      rw [upd_ne (Nat.ne_of_lt hb')]
      exact (hf b hb).1
  done := by
    intro X hP hw hK hc i pins s σ H E I hf st hg
    subst hP hw hK
    obtain ⟨⟨old, he⟩, hit, hne, nai, nae⟩ := st
    obtain ⟨xs, hq, hx⟩ := hg
    obtain ⟨its, rv, p, hz⟩ := I.tuple hq
    obtain ⟨f0, f1, f2, f3, f4, f5⟩ := hf it (by simp)
    have hsz : its.toArray.size = i := by
      rw [List.size_toArray, ← rv.length]
      exact hx
    refine wpAny_pyNext_enum_endD (Draws.tuple (prog := X.prog) (w := X.w) (A := X.A.in1) (I.ok.hd hc) it a nai its.toArray) he (by rw [hsz]; exact ⟨hit, p⟩) fun h' eb => ⟨rfl, I.turned (t' := s.toks) (fun b o hb q => eb b o hb q) f0 f1 f3 f4 f5⟩
  self := fun A i s Q E st h => let ⟨⟨_, he⟩, _⟩ := st; wpAny_pyIter_enum he h
def iEnT (K : PySem.W.Frag) (ta : TA) : TI := fun σ H R => ta σ H fun vs H1 => ∃ a xs, vs = [.ref a] ∧ SqT K H1 a xs ∧ R (IeT K a) H1
/-- enumerate(t), t a tuple, to a target of several names -/
theorem pi_enumT {X : Cx} {e : Expr} {ta : TA} {p pos tpos : Pos} {elts : List Expr} {kk : Nat} (hg : Gl X "enumerate") (hm : X.mg "enumerate" = none) (ha : PA X [e] ta) (hs : starEach [e] X.env = [(false, eval e X.env)] := by rfl) :
    PI X (.Tuple elts kk tpos) (.Call (.Name "enumerate" p) [e] [] pos) (iEnT X.K ta) := by
  constructor
  intro pins s σ H R I h
  refine Call_ (ld_blt I hg hm boot_enumerate (PyProof.Rows.callWith_type1 (thn (ha.run pos pins s σ H _ I h) ?_) hs rfl))
  rintro us s1 ⟨vs, H1, I1, r1, a, xs, rfl, hq, q⟩
  cases r1 with
  | cons r rr =>
    cases rr
    cases r
    obtain ⟨its, rv, p', hz⟩ := I1.tuple hq
    refine XBcall_enumT p' fun h' he hit hk => wpAny_pyIter_enum he ?_
    have hal : a < s1.heap.objs.size := by
      obtain ⟨o, e1, _⟩ := p'
      exact Heap.lt_size e1
    have I2 : Inv X pins σ H1 { s1 with heap := h' } := I1.kept (t' := s1.toks) hk
    refine ⟨s1.heap.objs.size + 1, [s1.heap.objs.size + 1, s1.heap.objs.size], _, _, H1, rfl, I2, turn_IeT a (s1.heap.objs.size + 1) s1.heap.objs.size, ⟨⟨.none, he⟩, hit, Nat.succ_ne_self _, Nat.ne_of_lt hal, Nat.ne_of_lt (Nat.lt_succ_of_lt hal)⟩, fun b hb => ?_, q⟩
    have hle : s1.heap.objs.size ≤ b := by
      rcases List.mem_cons.mp hb with rfl | z
      · exact Nat.le_succ _
      · rw [List.mem_singleton.mp z]
        exact Nat.le_refl _
    exact I1.fpOk hle (I1.hok.fresh hle)
theorem walk_IeT {K : PySem.W.Frag} {a : Addr} {xs : List V} : Walk (IeT K a) xs.length (fun H => SqT K H a xs) (YPair (fun i => some (.int (i : Nat))) (fun i => xs[i]?)) := by
  refine ⟨fun i _ hi q => ⟨xs, xs[i], q, by simp [hi]⟩, fun _ q => ⟨xs, q, rfl⟩, fun i H v H' _ q y => ?_⟩
  obtain ⟨T, x, h1, h2, h3, h4⟩ := y
  exact ⟨T, .int (i : Nat), x, h1, h2, h3, rfl, h4 xs q⟩
/-! ### the order of texts -/
/-- the one text ahead of the other -/
def sLt (a b : Str) : Bool := decide (a.cps.toList < b.cps.toList)
theorem cmp_gt {prog : Program} {w : World} {A : Around} {a b : Str} {t u : Tok} : CmpOf prog w A .Gt (fun i v => (#[Value.str a t, Value.str b u] : Array Value)[i]? = some v) (fun i j => sLt ([a, b].getD j a) ([a, b].getD i a)) := fun i j vi vj s Q E hi hj h => by
  rcases i with _ | _ | i <;> rcases j with _ | _ | j <;> simp at hi hj
  all_goals (subst hi; subst hj; exact PySem.P.gt_str h)
theorem cmp_lt {prog : Program} {w : World} {A : Around} {a b : Str} {t u : Tok} : CmpOf prog w A .Lt (fun i v => (#[Value.str a t, Value.str b u] : Array Value)[i]? = some v) (fun i j => sLt ([a, b].getD i a) ([a, b].getD j a)) := fun i j vi vj s Q E hi hj h => by
  rcases i with _ | _ | i <;> rcases j with _ | _ | j <;> simp at hi hj
  all_goals (subst hi; subst hj; exact PyProof.Rows.lt_str h)
section
variable {prog : Program} {w : World} {A : Around} {E : Value → Shared → Prop} {s : Shared}
/-- the pair that min and max lay, walked -/
theorem two_walk {x y : Value} (hh : A.handled = none) {op : CmpOp} {bt : Nat → Nat → Bool} {Q : Value → Shared → Prop} (cmp : CmpOf prog w A.in1 op (fun i v => (#[x, y] : Array Value)[i]? = some v) bt)
    (h : ∀ v h' tk, (#[x, y] : Array Value)[argBest bt 1]? = some v → (∀ c o, s.heap.get? c = some o → h'.get? c = some o) → Q v { s with heap := h', toks := tk }) :
    wpAny (model prog w) A.in1 (pyIter (.ref s.heap.objs.size)) (fun it s₂ => ∃ I fp wr n P St bt, it = .ref I ∧ Walks prog w A.in1 I fp wr n P St ∧ St 0 s₂.heap ∧ (∀ b ∈ fp, b < s₂.heap.objs.size) ∧ 0 < n ∧ CmpOf prog w A.in1 op P bt ∧
      ∀ v h' tk, P (argBest bt (n - 1)) v → (∀ b o, b ∉ wr → s₂.heap.get? b = some o → h'.get? b = some o) → Q v { s₂ with heap := h', toks := tk }) E
      { s with heap := s.heap.push { cls := .type "tuple", data := .seq #[x, y] } } := by
  have hT : (s.heap.push { cls := .type "tuple", data := .seq #[x, y] }).IsTuple s.heap.objs.size #[x, y] := ⟨_, Heap.get?_push_size _ rfl, rfl, 0, rfl⟩
  have hsz : (s.heap.push { cls := .type "tuple", data := .seq #[x, y] }).objs.size = s.heap.objs.size + 1 := Heap.size_push ..
  refine wpAny_pyIter_tuple hT ?_
  refine ⟨(s.heap.push { cls := .type "tuple", data := .seq #[x, y] }).objs.size, [(s.heap.push { cls := .type "tuple", data := .seq #[x, y] }).objs.size, s.heap.objs.size], [(s.heap.push { cls := .type "tuple", data := .seq #[x, y] }).objs.size], 2, _, _, bt, rfl,
    Walks.tuple (A := A.in1) hh _ s.heap.objs.size (by rw [hsz]; exact Nat.ne_of_lt (Nat.lt_succ_self _)) #[x, y], ⟨⟨_, Heap.get?_push_size _ rfl, rfl, rfl⟩, hT.push _⟩, fun c hc => ?_, by decide, cmp, fun v h' tk hP hk => ?_⟩
  · show c < ((s.heap.push _).push _).objs.size
    rw [Heap.size_push, hsz]
    rcases List.mem_cons.mp hc with rfl | hc
    · rw [hsz]
      exact Nat.lt_succ_self _
    · rw [List.mem_singleton.mp hc]
      exact Nat.lt_succ_of_lt (Nat.lt_succ_self _)
  · refine h v h' tk hP fun c o e => hk c o (fun hm => ?_) (Heap.get?_push_of_some _ (Heap.get?_push_of_some _ e))
    have e2 := Heap.lt_size e
    rw [List.mem_singleton.mp hm, hsz] at e2
    exact Nat.lt_irrefl _ (Nat.lt_of_succ_lt e2)
end
section
variable {X : Cx}
theorem call_max2S (hc : X.calm = true) : CallR X (.builtin "max") (fun xs H Q => ∃ i j, xs = [.str i, .str j] ∧ Q (.str (if sLt i j then j else i)) H) := by
  intro pins s σ H xs us Q I r h
  obtain ⟨i, j, rfl, q⟩ := h
  obtain ⟨u, w', rfl, ⟨t, rfl⟩, ⟨t', rfl⟩⟩ := vals2 r
  refine call_max_two (two_walk (I.ok.hd hc) cmp_gt fun v h' tk hv k => ?_)
  refine ⟨_, H, I.kept k, ?_, q⟩
  have e : argBest (fun a b => sLt ([i, j].getD b i) ([i, j].getD a i)) 1 = if sLt i j then 1 else 0 := rfl
  rw [e] at hv
  cases hb : sLt i j
  · rw [hb] at hv
    exact ⟨t, (Option.some.inj hv).symm⟩
  · rw [hb] at hv
    exact ⟨t', (Option.some.inj hv).symm⟩
theorem call_min2S (hc : X.calm = true) : CallR X (.builtin "min") (fun xs H Q => ∃ i j, xs = [.str i, .str j] ∧ Q (.str (if sLt j i then j else i)) H) := by
  intro pins s σ H xs us Q I r h
  obtain ⟨i, j, rfl, q⟩ := h
  obtain ⟨u, w', rfl, ⟨t, rfl⟩, ⟨t', rfl⟩⟩ := vals2 r
  refine call_min_two (two_walk (I.ok.hd hc) cmp_lt fun v h' tk hv k => ?_)
  refine ⟨_, H, I.kept k, ?_, q⟩
  have e : argBest (fun a b => sLt ([i, j].getD a i) ([i, j].getD b i)) 1 = if sLt j i then 1 else 0 := rfl
  rw [e] at hv
  cases hb : sLt j i
  · rw [hb] at hv
    exact ⟨t, (Option.some.inj hv).symm⟩
  · rw [hb] at hv
    exact ⟨t', (Option.some.inj hv).symm⟩
/-- t < u, two pairs of texts -/
theorem op_ltSS (hu : X.A.units + 64 < cLine) : OpR X (compareOp .Lt) (fun x y H Q => ∃ p q a b c d, x = .ref p ∧ y = .ref q ∧ SqT X.K H p [.str a, .str b] ∧ SqT X.K H q [.str c, .str d] ∧ Q (.bl (if a == c then (if b == d then false else sLt b d) else sLt a c)) H) := by
  intro pins s σ H x y v u Q I rx ry h
  obtain ⟨p, q, a, b, c, d, rfl, rfl, hp, hq, h⟩ := h
  cases rx
  cases ry
  obtain ⟨its, r1, t1, _⟩ := I.tuple hp
  obtain ⟨jts, r2, t2, _⟩ := I.tuple hq
  obtain ⟨_, _, rfl, ⟨ta, rfl⟩, ⟨tb, rfl⟩⟩ := vals2 r1
  obtain ⟨_, _, rfl, ⟨tc, rfl⟩, ⟨td, rfl⟩⟩ := vals2 r2
  have L := Ob.RcOp.tuples_lt (A := X.A) (s := s) (e := fun j => [a == c, b == d].getD j false) (r := fun j => [sLt a c, sLt b d].getD j false) t1 t2 (by omega)
    (fun j h1 h2 => by
      rcases j with _ | _ | j
      · exact SeqAt.EqAt.str_str _ _ _ _
      · exact SeqAt.EqAt.str_str _ _ _ _
      · exact absurd h1 (by simp))
    (fun j h1 h2 _ => by
      rcases j with _ | _ | j
      · exact fun _ _ _ _ z => PyProof.Rows.lt_str z
      · exact fun _ _ _ _ z => PyProof.Rows.lt_str z
      · exact absurd h1 (by simp))
  exact L _ _ _ _ ⟨.bl _, H, I, rfl, h⟩
end
end XB
/-! piles as rows read from the last piece on: the action of steps on least piles -/
namespace XM
/-- what is asked of names: which touch, and an order -/
structure Ord (α : Type) [DecidableEq α] where
  tc : α → α → Bool
  lt : α → α → Bool
  refl : ∀ a, tc a a = true
  symm : ∀ a b, tc a b = tc b a
  irr : ∀ a, lt a a = false
  trans : ∀ a b c, lt a b = true → lt b c = true → lt a c = true
  tot : ∀ a b, a ≠ b → lt a b = false → lt b a = true
section
variable {α : Type} [DecidableEq α] (O : Ord α)
abbrev Row (α : Type) := List (α × Int)
/-- a piece of this name comes to lie on top: no other of its name is met, all that it might pass are less -/
def top (a : α) : Row α → Bool
  | [] => true
  | y :: r => if O.tc y.1 a then decide (y.1 ≠ a) else O.lt y.1 a && top a r
def ins (x : α × Int) : Row α → Row α
  | [] => [x]
  | y :: r => if y.1 = x.1 then (if y.2 + x.2 = 0 then r else (x.1, y.2 + x.2) :: r)
    else if O.tc y.1 x.1 then x :: y :: r
    else if O.lt y.1 x.1 && top O x.1 r then x :: y :: r else y :: ins x r
/-- a least pile, from the last piece on -/
def NF : Row α → Prop
  | [] => True
  | y :: r => y.2 ≠ 0 ∧ top O y.1 r = true ∧ NF r
variable {O}
theorem lt_of_not {a b : α} (h : O.tc a b = false) (n : O.lt a b = false) : O.lt b a = true :=
  O.tot a b (fun e => by rw [e, O.refl] at h; cases h) n
theorem lt_asym {a b : α} (h : O.lt a b = true) : O.lt b a = false := by
  cases e : O.lt b a
  · rfl
  · have := O.trans a b a h e
    rw [O.irr] at this
    cases this
theorem ne_of_apart {a b : α} (h : O.tc a b = false) : a ≠ b := fun e => by
  rw [e, O.refl] at h
  cases h
theorem top_same {a : α} {s : Int} {r : Row α} : top O a ((a, s) :: r) = false := by
  unfold top
  rw [if_pos (O.refl a)]
  simp
theorem top_touch {a : α} {y : α × Int} {r : Row α} (h : O.tc y.1 a = true) (n : y.1 ≠ a) : top O a (y :: r) = true := by
  unfold top
  rw [if_pos h]
  simpa using n
theorem top_apart {a : α} {y : α × Int} {r : Row α} (h : O.tc y.1 a = false) : top O a (y :: r) = (O.lt y.1 a && top O a r) := by
  show (if O.tc y.1 a then decide (y.1 ≠ a) else O.lt y.1 a && top O a r) = _
  rw [if_neg (by rw [h]; decide)]
theorem ins_same {a : α} {s u : Int} {r : Row α} : ins O (a, s) ((a, u) :: r) = if u + s = 0 then r else (a, u + s) :: r := by
  unfold ins
  rw [if_pos rfl]
theorem ins_touch {x y : α × Int} {r : Row α} (h : O.tc y.1 x.1 = true) (n : y.1 ≠ x.1) : ins O x (y :: r) = x :: y :: r := by
  unfold ins
  rw [if_neg n, if_pos h]
theorem ins_apart {x y : α × Int} {r : Row α} (h : O.tc y.1 x.1 = false) : ins O x (y :: r) = if O.lt y.1 x.1 && top O x.1 r then x :: y :: r else y :: ins O x r := by
  show (if y.1 = x.1 then _ else if O.tc y.1 x.1 then _ else _) = _
  rw [if_neg (ne_of_apart h), if_neg (by rw [h]; decide)]
theorem ins_top {x : α × Int} : ∀ {r : Row α}, top O x.1 r = true → ins O x r = x :: r
  | [], _ => rfl
  | y :: r, h => by
    cases hc : O.tc y.1 x.1
    · rw [top_apart hc] at h
      rw [ins_apart hc, if_pos h]
    · by_cases e : y.1 = x.1
      · unfold top at h
        rw [if_pos hc] at h
        simp [e] at h
      · exact ins_touch hc e
theorem apart_symm {a b : α} (h : O.tc a b = false) : O.tc b a = false := by rw [O.symm]; exact h
/-- what is put below the top does not bar another name that lay on top -/
theorem top_ins {z : α} {x : α × Int} (hx : O.tc x.1 z = false) : ∀ {r : Row α}, top O z r = true → top O x.1 r = false → top O z (ins O x r) = true
  | [], _, h => by cases h
  | w :: r, hz, h => by
    by_cases e : w.1 = x.1
    · obtain ⟨w1, w2⟩ := w
      obtain ⟨x1, x2⟩ := x
      have e : w1 = x1 := e
      subst e
      have hw : O.tc w1 z = false := hx
      rw [top_apart (y := (w1, w2)) hw] at hz
      rw [ins_same]
      by_cases h0 : w2 + x2 = 0
      · rw [if_pos h0]
        exact (Bool.and_eq_true_iff.mp hz).2
      · rw [if_neg h0, top_apart (y := (w1, w2 + x2)) hw]
        exact hz
    · cases hc : O.tc w.1 x.1
      · rw [top_apart hc] at h
        rw [ins_apart hc, if_neg (by rw [h]; decide)]
        cases hwz : O.tc w.1 z
        · rw [top_apart hwz] at hz ⊢
          obtain ⟨z1, z2⟩ := Bool.and_eq_true_iff.mp hz
          rw [z1, Bool.true_and]
          cases ht : top O x.1 r
          · exact top_ins hx z2 ht
          · rw [ins_top ht, top_apart hx, z2, Bool.and_true]
            rw [ht, Bool.and_true] at h
            exact O.trans _ _ _ (lt_of_not hc h) z1
        · have n : w.1 ≠ z := by
            intro q
            unfold top at hz
            rw [if_pos hwz] at hz
            simp [q] at hz
          exact top_touch hwz n
      · rw [top_touch hc e] at h
        cases h
theorem nf_ins {x : α × Int} (hx : x.2 ≠ 0) : ∀ {r : Row α}, NF O r → NF O (ins O x r)
  | [], _ => ⟨hx, rfl, True.intro⟩
  | w :: r, h => by
    obtain ⟨w0, wt, wr⟩ := h
    by_cases e : w.1 = x.1
    · obtain ⟨w1, w2⟩ := w
      obtain ⟨x1, x2⟩ := x
      have e : w1 = x1 := e
      subst e
      rw [ins_same]
      by_cases h0 : w2 + x2 = 0
      · rw [if_pos h0]
        exact wr
      · rw [if_neg h0]
        exact ⟨h0, wt, wr⟩
    · cases hc : O.tc w.1 x.1
      · rw [ins_apart hc]
        cases ht : O.lt w.1 x.1 && top O x.1 r
        · rw [if_neg (by decide)]
          refine ⟨w0, ?_, nf_ins hx wr⟩
          cases h2 : top O x.1 r
          · exact top_ins (apart_symm hc) wt h2
          · rw [h2, Bool.and_true] at ht
            rw [ins_top h2, top_apart (apart_symm hc), wt, Bool.and_true]
            exact lt_of_not hc ht
        · rw [if_pos rfl]
          exact ⟨hx, by rw [top_apart hc]; exact ht, w0, wt, wr⟩
      · rw [ins_touch hc e]
        exact ⟨hx, top_touch hc e, w0, wt, wr⟩
/-- if a put step frees the top for a name, it took away the piece on the very top -/
theorem freed {b : α} {x : α × Int} (hx : O.tc x.1 b = false) : ∀ {r : Row α}, NF O r → top O x.1 r = false → top O b r = false → top O b (ins O x r) = true →
    ∃ u r', r = (x.1, u) :: r' ∧ O.lt x.1 b = false
  | [], _, h, _, _ => by cases h
  | w :: r, hN, h1, h2, h3 => by
    obtain ⟨w0, wt, wr⟩ := hN
    by_cases e : w.1 = x.1
    · obtain ⟨w1, w2⟩ := w
      obtain ⟨x1, x2⟩ := x
      have e : w1 = x1 := e
      subst e
      refine ⟨w2, r, rfl, ?_⟩
      rw [ins_same] at h3
      rw [top_apart (y := (w1, w2)) hx] at h2
      by_cases h0 : w2 + x2 = 0
      · rw [if_pos h0] at h3
        rw [h3, Bool.and_true] at h2
        exact h2
      · rw [if_neg h0, top_apart (y := (w1, w2 + x2)) hx] at h3
        have h2' : (O.lt w1 b && top O b r) = false := h2
        have h3' : (O.lt w1 b && top O b r) = true := h3
        rw [h2'] at h3'
        cases h3'
    · cases hc : O.tc w.1 x.1
      · rw [top_apart hc] at h1
        rw [ins_apart hc, if_neg (by rw [h1]; decide)] at h3
        cases hwb : O.tc w.1 b
        · rw [top_apart hwb] at h2 h3
          obtain ⟨p1, p2⟩ := Bool.and_eq_true_iff.mp h3
          rw [p1, Bool.true_and] at h2
          have h4 : top O x.1 r = false := by
            cases q : top O x.1 r
            · rfl
            · rw [ins_top q, top_apart hx, h2, Bool.and_false] at p2
              cases p2
          obtain ⟨u, r', rfl, h5⟩ := freed hx wr h4 h2 p2
          rw [top_apart (y := (x.1, u)) (apart_symm hc)] at wt
          have q1 := (Bool.and_eq_true_iff.mp wt).1
          have q2 := O.trans _ _ _ q1 p1
          have q3 : O.lt x.1 b = true := q2
          rw [h5] at q3
          cases q3
        · have n : w.1 ≠ b := by
            intro q
            unfold top at h3
            rw [if_pos hwb] at h3
            simp [q] at h3
          rw [top_touch hwb n] at h2
          cases h2
      · rw [top_touch hc e] at h1
        cases h1
theorem freed_same {x : α × Int} : ∀ {r : Row α}, NF O r → top O x.1 r = false → top O x.1 (ins O x r) = true → ∃ u r', r = (x.1, u) :: r'
  | [], _, h, _ => by cases h
  | w :: r, hN, h1, h3 => by
    obtain ⟨w0, wt, wr⟩ := hN
    by_cases e : w.1 = x.1
    · exact ⟨w.2, r, by rw [← e]⟩
    · cases hc : O.tc w.1 x.1
      · rw [top_apart hc] at h1
        rw [ins_apart hc, if_neg (by rw [h1]; decide), top_apart hc] at h3
        obtain ⟨p1, p2⟩ := Bool.and_eq_true_iff.mp h3
        rw [p1, Bool.true_and] at h1
        obtain ⟨u, r', rfl⟩ := freed_same wr h1 p2
        rw [top_apart (y := (x.1, u)) (apart_symm hc)] at wt
        have q1 := (Bool.and_eq_true_iff.mp wt).1
        have q2 := lt_asym p1
        have q3 : O.lt x.1 w.1 = true := q1
        rw [q2] at q3
        cases q3
      · rw [top_touch hc e] at h1
        cases h1
/-- steps of names that are apart may be put in either order -/
theorem ins_comm {x y : α × Int} (hxy : O.tc x.1 y.1 = false) : ∀ {r : Row α}, NF O r → ins O x (ins O y r) = ins O y (ins O x r)
  | [], _ => by
    show ins O x [y] = ins O y [x]
    rw [ins_apart (apart_symm hxy), ins_apart hxy]
    show (if O.lt y.1 x.1 && true then [x, y] else [y, x]) = if O.lt x.1 y.1 && true then [y, x] else [x, y]
    cases h : O.lt y.1 x.1
    · rw [lt_of_not (apart_symm hxy) h]
      rfl
    · rw [lt_asym h]
      rfl
  | z :: r, hN => by
    have hyx := apart_symm hxy
    have key : ∀ {x y : α × Int}, O.tc x.1 y.1 = false → z.1 = x.1 → ins O x (ins O y (z :: r)) = ins O y (ins O x (z :: r)) := by
      intro x y hxy e
      obtain ⟨z1, z2⟩ := z
      obtain ⟨x1, x2⟩ := x
      have e : z1 = x1 := e
      subst e
      obtain ⟨_, zt, zr⟩ := hN
      have hzy : O.tc z1 y.1 = false := hxy
      rw [ins_apart (x := y) (y := (z1, z2)) hzy, ins_same]
      cases hB : O.lt z1 y.1 && top O y.1 r
      · rw [if_neg (by decide), ins_same]
        by_cases h0 : z2 + x2 = 0
        · rw [if_pos h0, if_pos h0]
        · rw [if_neg h0, if_neg h0, ins_apart (x := y) (y := (z1, z2 + x2)) hzy, if_neg (by rw [hB]; decide)]
      · rw [if_pos rfl, ins_apart (x := (z1, x2)) (y := y) (apart_symm hxy), if_neg (by rw [top_same (s := z2)]; simp), ins_same]
        by_cases h0 : z2 + x2 = 0
        · rw [if_pos h0, ins_top (Bool.and_eq_true_iff.mp hB).2]
        · rw [if_neg h0, ins_apart (x := y) (y := (z1, z2 + x2)) hzy, if_pos hB]
    by_cases ex : z.1 = x.1
    · exact key hxy ex
    by_cases ey : z.1 = y.1
    · exact (key hyx ey).symm
    obtain ⟨z0, zt, zr⟩ := hN
    have ih := ins_comm hxy zr
    have topx : ∀ {x y : α × Int}, O.tc x.1 y.1 = false → z.1 ≠ x.1 → z.1 ≠ y.1 → O.tc z.1 x.1 = true → ins O x (ins O y (z :: r)) = ins O y (ins O x (z :: r)) := by
      intro x y hxy ex ey hx
      have hyx := apart_symm hxy
      rw [ins_touch hx ex, ins_apart (x := y) (y := x) hxy]
      cases hT : top O y.1 (z :: r)
      · rw [if_neg (by simp)]
        have hy : O.tc z.1 y.1 = false := by
          cases q : O.tc z.1 y.1
          · rfl
          · rw [top_touch q ey] at hT
            cases hT
        rw [top_apart hy] at hT
        rw [ins_apart (x := y) (y := z) hy, if_neg (by rw [hT]; decide), ins_touch hx ex]
      · rw [ins_top hT, ins_apart (x := x) (y := y) hyx, top_touch hx ex, ins_touch hx ex]
        cases h : O.lt x.1 y.1
        · rw [lt_of_not hxy h]
          rfl
        · rw [lt_asym h]
          rfl
    cases hx : O.tc z.1 x.1
    · cases hy : O.tc z.1 y.1
      · -- z is apart from both
        have mixed : ∀ {x y : α × Int}, O.tc x.1 y.1 = false → O.tc z.1 x.1 = false → O.tc z.1 y.1 = false → (O.lt z.1 x.1 && top O x.1 r) = true → (O.lt z.1 y.1 && top O y.1 r) = false → ins O x (ins O y (z :: r)) = ins O y (ins O x (z :: r)) := by
          intro x y hxy hx hy hA hB
          have hyx := apart_symm hxy
          obtain ⟨a1, a2⟩ := Bool.and_eq_true_iff.mp hA
          rw [ins_apart (x := y) (y := z) hy, if_neg (by rw [hB]; decide), ins_apart (x := x) (y := z) hx (r := r), if_pos hA, ins_apart (x := y) (y := x) hxy, top_apart hy, hB, Bool.and_false, if_neg (by decide)]
          rw [ins_apart (x := y) (y := z) hy, if_neg (by rw [hB]; decide), ins_apart (x := x) (y := z) hx]
          have t : top O x.1 (ins O y r) = true := by
            cases q : top O y.1 r
            · exact top_ins hyx a2 q
            · rw [q, Bool.and_true] at hB
              rw [ins_top q, top_apart hyx, a2, Bool.and_true]
              exact O.trans _ _ _ (lt_of_not hy hB) a1
          rw [a1, t]
          rfl
        cases hA : O.lt z.1 x.1 && top O x.1 r
        · cases hB : O.lt z.1 y.1 && top O y.1 r
          · rw [ins_apart (x := y) (y := z) hy, if_neg (by rw [hB]; decide), ins_apart (x := x) (y := z) hx (r := r), if_neg (by rw [hA]; decide)]
            have no : ∀ {x y : α × Int}, O.tc x.1 y.1 = false → O.tc z.1 x.1 = false → (O.lt z.1 x.1 && top O x.1 r) = false → (O.lt z.1 y.1 && top O y.1 r) = false → (O.lt z.1 y.1 && top O y.1 (ins O x r)) = false := by
              intro x y hxy hx hA hB
              cases q : O.lt z.1 y.1 && top O y.1 (ins O x r)
              · rfl
              · obtain ⟨q1, q2⟩ := Bool.and_eq_true_iff.mp q
                rw [q1, Bool.true_and] at hB
                cases t : top O x.1 r
                · obtain ⟨u, r', rfl, h5⟩ := freed hxy zr t hB q2
                  rw [top_apart (y := (x.1, u)) (apart_symm hx)] at zt
                  have w1 : O.lt x.1 z.1 = true := (Bool.and_eq_true_iff.mp zt).1
                  rw [O.trans _ _ _ w1 q1] at h5
                  cases h5
                · rw [ins_top t, top_apart hxy, hB, Bool.and_false] at q2
                  cases q2
            rw [ins_apart (x := x) (y := z) hx, if_neg (by rw [no hyx hy hB hA]; decide), ins_apart (x := y) (y := z) hy, if_neg (by rw [no hxy hx hA hB]; decide), ih]
          · exact (mixed hyx hy hx hB hA).symm
        · cases hB : O.lt z.1 y.1 && top O y.1 r
          · exact mixed hxy hx hy hA hB
          · rw [ins_apart (x := y) (y := z) hy, if_pos hB, ins_apart (x := x) (y := z) hx (r := r), if_pos hA, ins_apart (x := x) (y := y) hyx, ins_apart (x := y) (y := x) hxy, top_apart hx, top_apart hy, hA, hB, ins_apart (x := x) (y := z) hx, if_pos hA, ins_apart (x := y) (y := z) hy, if_pos hB]
            cases h : O.lt x.1 y.1
            · rw [lt_of_not hxy h]
              rfl
            · rw [lt_asym h]
              rfl
      · exact (topx hyx ey ex hy).symm
    · exact topx hxy ex ey hx
/-- two steps of one name are one, or none -/
theorem ins_join {a : α} {s t : Int} (hs : s ≠ 0) (ht : t ≠ 0) : ∀ {r : Row α}, NF O r → ins O (a, t) (ins O (a, s) r) = if s + t = 0 then r else ins O (a, s + t) r
  | [], _ => by
    show ins O (a, t) [(a, s)] = _
    rw [ins_same]
    rfl
  | (c, u) :: r, hN => by
    obtain ⟨u0, zt, zr⟩ := hN
    have u0 : u ≠ 0 := u0
    by_cases e : c = a
    · subst e
      rw [ins_same, ins_same]
      by_cases h0 : u + s = 0
      · rw [if_pos h0, ins_top (x := (c, t)) zt]
        by_cases h1 : s + t = 0
        · rw [if_pos h1, show t = u by omega]
        · rw [if_neg h1, if_neg (by omega), show u + (s + t) = t by omega]
      · rw [if_neg h0, ins_same]
        by_cases h1 : s + t = 0
        · rw [if_pos h1, if_neg (by omega), show u + s + t = u by omega]
        · rw [if_neg h1]
          by_cases h2 : u + s + t = 0
          · rw [if_pos h2, if_pos (by omega)]
          · rw [if_neg h2, if_neg (by omega), Int.add_assoc]
    · cases hc : O.tc c a
      · rw [ins_apart (x := (a, s)) (y := (c, u)) hc, ins_apart (x := (a, s + t)) (y := (c, u)) hc]
        cases hA : O.lt c a && top O a r
        · rw [if_neg (by decide), ins_apart (x := (a, t)) (y := (c, u)) hc]
          have no : (O.lt c a && top O a (ins O (a, s) r)) = false := by
            cases q : O.lt c a && top O a (ins O (a, s) r)
            · rfl
            · obtain ⟨q1, q2⟩ := Bool.and_eq_true_iff.mp q
              rw [q1, Bool.true_and] at hA
              obtain ⟨v, r', rfl⟩ := freed_same (x := (a, s)) zr hA q2
              rw [top_apart (y := (a, v)) (apart_symm hc)] at zt
              have w1 : O.lt a c = true := (Bool.and_eq_true_iff.mp zt).1
              rw [lt_asym q1] at w1
              cases w1
          rw [if_neg (show ¬ ((O.lt c a && top O a (ins O (a, s) r)) = true) by rw [no]; decide), ins_join hs ht zr]
          by_cases h1 : s + t = 0
          · rw [if_pos h1, if_pos h1]
          · rw [if_neg h1, if_neg h1, if_neg Bool.false_ne_true]
        · rw [if_pos rfl, if_pos rfl, ins_same]
      · rw [ins_touch (x := (a, s)) (y := (c, u)) hc e, ins_touch (x := (a, s + t)) (y := (c, u)) hc e, ins_same]
end
end XM
set_option linter.all false
namespace XM
section
variable {α : Type} [DecidableEq α] (O : Ord α)
/-- steps put on a least pile, one after another -/
def act (l r : Row α) : Row α := l.foldl (fun r x => ins O x r) r
def NZ (l : Row α) : Prop := ∀ x ∈ l, x.2 ≠ 0
/-- the next step of this name that can come together with one ahead -/
def near (a : α) : Row α → Option Nat
  | [] => none
  | y :: r => if y.1 = a then some 0 else if O.tc y.1 a then none else (near a r).map (· + 1)
def pl : Row α → Bool
  | [] => true
  | x :: r => (near O x.1 r).isNone && pl r
def met : Row α → Option (Nat × Nat)
  | [] => none
  | x :: r => match near O x.1 r with
    | some d => some (0, d + 1)
    | none => (met r).map fun p => (p.1 + 1, p.2 + 1)
variable {O}
theorem NZ.app {l m : Row α} (h : NZ l) (g : NZ m) : NZ (l ++ m) := fun x hx => (List.mem_append.mp hx).elim (h x) (g x)
theorem NZ.left {l m : Row α} (h : NZ (l ++ m)) : NZ l := fun x hx => h x (List.mem_append_left _ hx)
theorem NZ.right {l m : Row α} (h : NZ (l ++ m)) : NZ m := fun x hx => h x (List.mem_append_right _ hx)
theorem act_nil {r : Row α} : act O [] r = r := rfl
theorem act_cons {x : α × Int} {l r : Row α} : act O (x :: l) r = act O l (ins O x r) := rfl
theorem act_app {l m r : Row α} : act O (l ++ m) r = act O m (act O l r) := List.foldl_append
theorem nf_act : ∀ {l r : Row α}, NZ l → NF O r → NF O (act O l r)
  | [], _, _, h => h
  | x :: l, r, z, h => nf_act (l := l) (fun y hy => z y (List.mem_cons_of_mem _ hy)) (nf_ins (z x List.mem_cons_self) h)
theorem nf_nz : ∀ {r : Row α}, NF O r → NZ r
  | [], _ => fun _ h => nomatch h
  | y :: r, h => fun x hx => (List.mem_cons.mp hx).elim (fun e => e ▸ h.1) (nf_nz h.2.2 x)
theorem act_swap {u v r : Row α} {x y : α × Int} (h : O.tc x.1 y.1 = false) (z : NZ u) (hN : NF O r) : act O (u ++ x :: y :: v) r = act O (u ++ y :: x :: v) r := by
  rw [act_app, act_app, act_cons, act_cons, act_cons, act_cons, ins_comm (apart_symm h) (nf_act z hN)]
/-- a step may be brought ahead of those that are apart from it -/
theorem act_move {x : α × Int} {v : Row α} : ∀ {p u r : Row α}, (∀ w ∈ p, O.tc w.1 x.1 = false) → NZ u → NZ p → NF O r → act O (u ++ (p ++ x :: v)) r = act O (u ++ (x :: (p ++ v))) r
  | [], _, _, _, _, _, _ => rfl
  | y :: p, u, r, hp, zu, zp, hN => by
    have e := act_move (x := x) (v := v) (p := p) (u := u ++ [y]) (r := r) (fun w hw => hp w (List.mem_cons_of_mem _ hw)) (zu.app fun w hw => zp w (by rw [List.mem_singleton.mp hw]; exact List.mem_cons_self)) (fun w hw => zp w (List.mem_cons_of_mem _ hw)) hN
    rw [List.append_assoc, List.append_assoc] at e
    have e2 : act O (u ++ (y :: p ++ x :: v)) r = act O (u ++ (y :: x :: (p ++ v))) r := e
    rw [e2, act_swap (hp y List.mem_cons_self) zu hN]
    rfl
/-- the two that can come together do -/
theorem act_meet {a : α} {s t : Int} {u m v r : Row α} (hm : ∀ w ∈ m, O.tc w.1 a = false) (hs : s ≠ 0) (ht : t ≠ 0) (zu : NZ u) (zm : NZ m) (hN : NF O r) :
    act O (u ++ (a, s) :: (m ++ (a, t) :: v)) r = act O (u ++ ((if s + t = 0 then [] else [(a, s + t)]) ++ (m ++ v))) r := by
  have e := act_move (x := (a, t)) (v := v) (p := m) (u := u ++ [(a, s)]) (r := r) hm (zu.app fun w hw => by rw [List.mem_singleton.mp hw]; exact hs) zm hN
  rw [List.append_assoc, List.append_assoc] at e
  have e2 : act O (u ++ (a, s) :: (m ++ (a, t) :: v)) r = act O (u ++ (a, s) :: (a, t) :: (m ++ v)) r := e
  rw [e2, act_app, act_app, act_cons, act_cons, ins_join hs ht (nf_act zu hN)]
  by_cases h : s + t = 0
  · rw [if_pos h, if_pos h, List.nil_append]
  · rw [if_neg h, if_neg h]
    rfl
theorem act_fix : ∀ {r : Row α}, NF O r → act O r.reverse [] = r
  | [], _ => rfl
  | y :: r, h => by
    rw [List.reverse_cons, act_app, act_fix h.2.2]
    exact ins_top h.2.1
/-- a least pile does what its steps did -/
theorem act_ins {x : α × Int} : ∀ {r q : Row α}, NF O r → x.2 ≠ 0 → NF O q → act O (ins O x r).reverse q = ins O x (act O r.reverse q)
  | [], _, _, _, _ => rfl
  | y :: r, q, h, hx, hq => by
    obtain ⟨y0, yt, yr⟩ := h
    have hQ : NF O (act O r.reverse q) := nf_act (fun w hw => nf_nz yr w (List.mem_reverse.mp hw)) hq
    by_cases e : y.1 = x.1
    · obtain ⟨y1, y2⟩ := y
      obtain ⟨x1, x2⟩ := x
      have e : y1 = x1 := e
      subst e
      rw [ins_same, List.reverse_cons, act_app, act_cons, act_nil, ins_join y0 hx hQ]
      by_cases h0 : y2 + x2 = 0
      · rw [if_pos h0, if_pos h0]
      · rw [if_neg h0, if_neg h0, List.reverse_cons, act_app]
        rfl
    · have stay : act O (x :: y :: r).reverse q = ins O x (act O (y :: r).reverse q) := by
        rw [List.reverse_cons, act_app]
        rfl
      cases hc : O.tc y.1 x.1
      · rw [ins_apart hc]
        cases hA : O.lt y.1 x.1 && top O x.1 r
        · rw [if_neg (by decide), List.reverse_cons, act_app, act_ins yr hx hq, List.reverse_cons, act_app]
          exact ins_comm hc hQ
        · rw [if_pos rfl]
          exact stay
      · rw [ins_touch hc e]
        exact stay
theorem act_self : ∀ {l q : Row α}, NZ l → NF O q → act O (act O l []).reverse q = act O l q := by
  intro l
  have gen : ∀ (n : Nat) (l q : Row α), l.length = n → NZ l → NF O q → act O (act O l []).reverse q = act O l q := by
    intro n
    induction n with
    | zero =>
      intro l q h _ _
      rw [List.length_eq_zero_iff.mp h]
      rfl
    | succ n ih =>
      intro l q h z hq
      obtain ⟨p, x, rfl⟩ : ∃ p x, l = p ++ [x] := ⟨l.dropLast, l.getLast (fun e => by rw [e] at h; cases h), (List.dropLast_concat_getLast _).symm⟩
      rw [act_app, act_app, act_cons, act_nil, act_cons, act_nil, act_ins (nf_act z.left (show NF O [] from True.intro)) (z x (by simp)) hq, ih p q (by rw [List.length_append] at h; simpa using h) z.left hq]
  exact fun {q} => gen _ l q rfl
/-- the steps that take steps back -/
def back (l : Row α) : Row α := (l.map fun x => (x.1, -x.2)).reverse
theorem back_nz {l : Row α} (h : NZ l) : NZ (back l) := fun x hx => by
  obtain ⟨y, hy, rfl⟩ := List.mem_map.mp (List.mem_reverse.mp hx)
  have := h y hy
  show -y.2 ≠ 0
  omega
theorem act_back : ∀ {l r : Row α}, NZ l → NF O r → act O (back l) (act O l r) = r
  | [], _, _, _ => rfl
  | x :: l, r, z, h => by
    have hx := z x List.mem_cons_self
    have zl : NZ l := fun y hy => z y (List.mem_cons_of_mem _ hy)
    unfold back
    rw [List.map_cons, List.reverse_cons, act_app, act_cons, act_cons]
    have e := act_back zl (nf_ins hx h)
    unfold back at e
    rw [e, act_nil]
    have j := ins_join (O := O) (a := x.1) (s := x.2) (t := -x.2) hx (by omega) h
    rw [if_pos (by omega)] at j
    exact j
theorem back_back (l : Row α) : back (back l) = l := by
  unfold back
  rw [List.map_reverse, List.reverse_reverse, List.map_map]
  have e : ((fun x : α × Int => (x.1, -x.2)) ∘ fun x => (x.1, -x.2)) = id := by
    funext x
    show (x.1, - -x.2) = x
    rw [Int.neg_neg]
  rw [e, List.map_id]
/-- what makes the same pile is taken back alike -/
theorem act_back_eq {l m r : Row α} (zl : NZ l) (zm : NZ m) (h : act O l [] = act O m []) (hN : NF O r) : act O (back l) r = act O (back m) r := by
  have same : ∀ {q}, NF O q → act O l q = act O m q := fun {q} hq => by rw [← act_self zl hq, h, act_self zm hq]
  have e := act_back (back_nz zl) hN
  rw [back_back] at e
  have e2 := same (nf_act (back_nz zl) hN)
  rw [e] at e2
  have e3 := act_back zm (nf_act (back_nz zl) hN)
  rw [← e2] at e3
  exact e3.symm
/-! ### coming together -/
theorem near_none {a : α} : ∀ {m v : Row α}, (∀ w ∈ m, O.tc w.1 a = false) → (near O a (m ++ v)) = (near O a v).map (· + m.length)
  | [], v, _ => by
    show near O a v = (near O a v).map (· + 0)
    cases near O a v <;> rfl
  | y :: m, v, h => by
    have hy := h y List.mem_cons_self
    show (if y.1 = a then some 0 else if O.tc y.1 a then none else (near O a (m ++ v)).map (· + 1)) = _
    rw [if_neg (ne_of_apart hy), if_neg (by rw [hy]; decide), near_none (fun w hw => h w (List.mem_cons_of_mem _ hw))]
    cases near O a v <;> rfl
theorem near_some {a : α} : ∀ {r : Row α} {d : Nat}, near O a r = some d → ∃ m t v, r = m ++ (a, t) :: v ∧ m.length = d ∧ ∀ w ∈ m, O.tc w.1 a = false
  | [], _, h => by cases h
  | y :: r, d, h => by
    unfold near at h
    by_cases e : y.1 = a
    · rw [if_pos e] at h
      cases h
      exact ⟨[], y.2, r, by rw [← e]; rfl, rfl, fun _ h => nomatch h⟩
    · rw [if_neg e] at h
      cases hc : O.tc y.1 a
      · rw [hc, if_neg (by decide)] at h
        obtain ⟨d', hd, rfl⟩ := Option.map_eq_some_iff.mp h
        obtain ⟨m, t, v, rfl, hl, hm⟩ := near_some hd
        refine ⟨y :: m, t, v, rfl, by rw [List.length_cons, hl], fun w hw => ?_⟩
        rcases List.mem_cons.mp hw with rfl | hw
        · exact hc
        · exact hm w hw
      · rw [hc, if_pos rfl] at h
        cases h
theorem met_pl : ∀ {l : Row α}, met O l = none ↔ pl O l = true
  | [] => ⟨fun _ => rfl, fun _ => rfl⟩
  | x :: r => by
    unfold met pl
    cases near O x.1 r with
    | some d => simp
    | none =>
      simp only [Option.isNone_none, Bool.true_and, Option.map_eq_none_iff]
      exact met_pl
theorem met_some : ∀ {l : Row α} {i j : Nat}, met O l = some (i, j) → ∃ u a s m t v, l = u ++ (a, s) :: (m ++ (a, t) :: v) ∧ u.length = i ∧ i + 1 + m.length = j ∧ ∀ w ∈ m, O.tc w.1 a = false
  | [], _, _, h => by cases h
  | x :: r, i, j, h => by
    unfold met at h
    cases hn : near O x.1 r with
    | some d =>
      rw [hn] at h
      cases h
      obtain ⟨m, t, v, rfl, hl, hm⟩ := near_some hn
      exact ⟨[], x.1, x.2, m, t, v, rfl, rfl, by rw [hl]; omega, hm⟩
    | none =>
      rw [hn] at h
      obtain ⟨⟨i', j'⟩, h2, e⟩ := Option.map_eq_some_iff.mp h
      cases e
      obtain ⟨u, a, s, m, t, v, rfl, h3, h4, h5⟩ := met_some h2
      exact ⟨x :: u, a, s, m, t, v, rfl, by rw [List.length_cons, h3], by omega, h5⟩
/-! ### changes of neighbours that are apart -/
theorem near_swap {a : α} {x y : α × Int} (h : O.tc x.1 y.1 = false) {v : Row α} : ∀ {u : Row α}, (near O a (u ++ x :: y :: v)).isSome = (near O a (u ++ y :: x :: v)).isSome
  | [] => by
    show (near O a (x :: y :: v)).isSome = (near O a (y :: x :: v)).isSome
    have ne := ne_of_apart h
    simp only [near]
    by_cases ex : x.1 = a
    · have ey : y.1 ≠ a := fun q => ne (ex.trans q.symm)
      have ty : O.tc y.1 a = false := by rw [← ex]; exact apart_symm h
      rw [if_pos ex, if_neg ey, ty]
      simp [ex]
    · by_cases ey : y.1 = a
      · have tx : O.tc x.1 a = false := by rw [← ey]; exact h
        simp [ex, ey, tx]
      · cases tx : O.tc x.1 a <;> cases ty : O.tc y.1 a <;> simp [ex, ey]
  | z :: u => by
    have ih := near_swap (a := a) h (v := v) (u := u)
    show (near O a (z :: (u ++ x :: y :: v))).isSome = (near O a (z :: (u ++ y :: x :: v))).isSome
    simp only [near]
    by_cases ez : z.1 = a
    · simp [ez]
    · cases tz : O.tc z.1 a
      · simp [ez, ih]
      · simp [ez]
theorem pl_swap {x y : α × Int} (h : O.tc x.1 y.1 = false) {v : Row α} : ∀ {u : Row α}, pl O (u ++ x :: y :: v) = pl O (u ++ y :: x :: v)
  | [] => by
    have ne := ne_of_apart h
    show ((near O x.1 (y :: v)).isNone && ((near O y.1 v).isNone && pl O v)) = ((near O y.1 (x :: v)).isNone && ((near O x.1 v).isNone && pl O v))
    have e1 : (near O x.1 (y :: v)).isNone = (near O x.1 v).isNone := by
      simp [near, Ne.symm ne, apart_symm h]
    have e2 : (near O y.1 (x :: v)).isNone = (near O y.1 v).isNone := by
      simp [near, ne, h]
    rw [e1, e2, ← Bool.and_assoc, ← Bool.and_assoc, Bool.and_comm (near O x.1 v).isNone]
  | z :: u => by
    have ih := pl_swap h (v := v) (u := u)
    have e := near_swap (a := z.1) h (v := v) (u := u)
    show ((near O z.1 (u ++ x :: y :: v)).isNone && pl O (u ++ x :: y :: v)) = ((near O z.1 (u ++ y :: x :: v)).isNone && pl O (u ++ y :: x :: v))
    rw [ih]
    congr 1
    cases h1 : near O z.1 (u ++ x :: y :: v) <;> cases h2 : near O z.1 (u ++ y :: x :: v) <;> rw [h1, h2] at e <;> first | rfl | cases e
theorem near_move {a : α} {x : α × Int} {v : Row α} : ∀ {p u : Row α}, (∀ w ∈ p, O.tc w.1 x.1 = false) → (near O a (u ++ (p ++ x :: v))).isSome = (near O a (u ++ (x :: (p ++ v)))).isSome
  | [], _, _ => rfl
  | y :: p, u, h => by
    have e := near_move (a := a) (x := x) (v := v) (p := p) (u := u ++ [y]) fun w hw => h w (List.mem_cons_of_mem _ hw)
    rw [List.append_assoc, List.append_assoc] at e
    exact Eq.trans e (near_swap (h y List.mem_cons_self))
theorem pl_move {x : α × Int} {v : Row α} : ∀ {p u : Row α}, (∀ w ∈ p, O.tc w.1 x.1 = false) → pl O (u ++ (p ++ x :: v)) = pl O (u ++ (x :: (p ++ v)))
  | [], _, _ => rfl
  | y :: p, u, h => by
    have e := pl_move (x := x) (v := v) (p := p) (u := u ++ [y]) fun w hw => h w (List.mem_cons_of_mem _ hw)
    rw [List.append_assoc, List.append_assoc] at e
    exact Eq.trans e (pl_swap (h y List.mem_cons_self))
theorem pl_right : ∀ {u v : Row α}, pl O (u ++ v) = true → pl O v = true
  | [], _, h => h
  | x :: u, v, h => pl_right (u := u) (Bool.and_eq_true_iff.mp (show ((near O x.1 (u ++ v)).isNone && pl O (u ++ v)) = true from h)).2
theorem pl_ne {x y : α × Int} {u v q : Row α} (h : pl O (u ++ y :: (v ++ x :: q)) = true) (hv : ∀ w ∈ v, O.tc w.1 x.1 = false) : y.1 ≠ x.1 := fun e => by
  have h1 := (Bool.and_eq_true_iff.mp (show ((near O y.1 (v ++ x :: q)).isNone && pl O (v ++ x :: q)) = true from pl_right h)).1
  rw [e, near_none hv] at h1
  simp [near] at h1
/-! ### sorting a pile -/
/-- where least names came first -/
structure Srt (O : Ord α) (found left : Row α) : Prop where
  own : ∀ u y v z q, found = u ++ y :: (v ++ z :: q) → O.tc y.1 z.1 = false → (∀ w ∈ v, O.tc w.1 z.1 = false) → O.lt y.1 z.1 = true
  out : ∀ u y v p z q, found = u ++ y :: v → left = p ++ z :: q → O.tc y.1 z.1 = false → (∀ w ∈ v, O.tc w.1 z.1 = false) → (∀ w ∈ p, O.tc w.1 z.1 = false) → O.lt y.1 z.1 = true
theorem Srt.nil (left : Row α) : Srt O [] left := ⟨fun u y v z q h => by simp at h, fun u y v p z q h => by simp at h⟩
/-- the least of those that can stand first -/
structure LeastFirst (O : Ord α) (p : Row α) (x : α × Int) (q : Row α) : Prop where
  free : ∀ w ∈ p, O.tc w.1 x.1 = false
  least : ∀ p' z q', p ++ x :: q = p' ++ z :: q' → (∀ w ∈ p', O.tc w.1 z.1 = false) → z.1 ≠ x.1 → O.lt x.1 z.1 = true
theorem split_end {u v : Row α} {y x : α × Int} {l : Row α} (h : l ++ [x] = u ++ y :: v) : (v = [] ∧ l = u ∧ x = y) ∨ ∃ v', v = v' ++ [x] ∧ l = u ++ y :: v' := by
  rcases List.eq_nil_or_concat v with rfl | ⟨v', z, rfl⟩
  · left
    have := List.append_inj' h rfl
    exact ⟨rfl, this.1, by simpa using this.2⟩
  · right
    rw [List.concat_eq_append] at h ⊢
    have h' : l ++ [x] = (u ++ y :: v') ++ [z] := by rw [h]; simp
    have := List.append_inj' h' rfl
    have e : x = z := by simpa using this.2
    exact ⟨v', by rw [e], this.1⟩
theorem Srt.step {found p q : Row α} {x : α × Int} (S : Srt O found (p ++ x :: q)) (L : LeastFirst O p x q) : Srt O (found ++ [x]) (p ++ q) := by
  constructor
  · intro u y v z r h hyz hv
    have h' : found ++ [x] = (u ++ y :: v) ++ z :: r := by rw [h]; simp
    rcases split_end h' with ⟨rfl, e1, e2⟩ | ⟨r', rfl, e1⟩
    · subst e2
      exact S.out u y v p x q e1 rfl hyz hv L.free
    · exact S.own u y v z r' (by rw [e1]; simp) hyz hv
  · intro u y v p' z q' h h2 hyz hv hp'
    -- z in the row with x
    have place : (∃ q1, p = p' ++ z :: q1) ∨ (∃ q1, q = q1 ++ z :: q' ∧ p' = p ++ q1) := by
      rcases List.append_eq_append_iff.mp h2 with ⟨as, e1, e2⟩ | ⟨bs, e1, e2⟩
      · exact .inr ⟨as, e2, e1⟩
      · cases bs with
        | nil => exact .inr ⟨[], by simpa using e2.symm, by simpa using e1.symm⟩
        | cons b bs =>
          rw [List.cons_append] at e2
          injection e2 with e3 e4
          subst e3
          exact .inl ⟨bs, e1⟩
    rcases split_end h with ⟨rfl, e1, e2⟩ | ⟨v', rfl, e1⟩
    · subst e2
      rcases place with ⟨q1, rfl⟩ | ⟨q1, rfl, rfl⟩
      · exact L.least p' z (q1 ++ x :: q) (by simp) hp' (fun e => by rw [e, O.refl] at hyz; cases hyz)
      · refine L.least (p ++ x :: q1) z q' (by simp) (fun w hw => ?_) (fun e => by rw [e, O.refl] at hyz; cases hyz)
        rcases List.mem_append.mp hw with hw | hw
        · exact hp' w (List.mem_append_left _ hw)
        · rcases List.mem_cons.mp hw with rfl | hw
          · exact hyz
          · exact hp' w (List.mem_append_right _ hw)
    · have hx : O.tc x.1 z.1 = false := hv x (by simp)
      have hv' : ∀ w ∈ v', O.tc w.1 z.1 = false := fun w hw => hv w (List.mem_append_left _ hw)
      rcases place with ⟨q1, rfl⟩ | ⟨q1, rfl, rfl⟩
      · exact S.out u y v' p' z (q1 ++ x :: q) e1 (by simp) hyz hv' hp'
      · refine S.out u y v' (p ++ x :: q1) z q' e1 (by simp) hyz hv' fun w hw => ?_
        rcases List.mem_append.mp hw with hw | hw
        · exact hp' w (List.mem_append_left _ hw)
        · rcases List.mem_cons.mp hw with rfl | hw
          · exact hx
          · exact hp' w (List.mem_append_right _ hw)
theorem top_of {a : α} : ∀ {r : Row α}, (∀ v' y u', r = v' ++ y :: u' → (∀ w ∈ v', O.tc w.1 a = false) → O.tc y.1 a = false → O.lt y.1 a = true) → (∀ v' y u', r = v' ++ y :: u' → (∀ w ∈ v', O.tc w.1 a = false) → y.1 ≠ a) → top O a r = true
  | [], _, _ => rfl
  | y :: r, h1, h2 => by
    cases hc : O.tc y.1 a
    · rw [top_apart hc, h1 [] y r rfl (fun _ h => nomatch h) hc, Bool.true_and]
      refine top_of (fun v' z u' e hv hz => h1 (y :: v') z u' (by rw [e]; rfl) (fun w hw => ?_) hz) (fun v' z u' e hv => h2 (y :: v') z u' (by rw [e]; rfl) fun w hw => ?_)
      · rcases List.mem_cons.mp hw with rfl | hw
        · exact hc
        · exact hv w hw
      · rcases List.mem_cons.mp hw with rfl | hw
        · exact hc
        · exact hv w hw
    · exact top_touch hc (h2 [] y r rfl fun _ h => nomatch h)
/-- a pile in which least names came first is a least pile -/
theorem nf_of {left : Row α} : ∀ (n : Nat) (found : Row α), found.length = n → Srt O found left → pl O (found ++ left) = true → NZ found → NF O found.reverse := by
  intro n
  have pre : ∀ (n : Nat) (found : Row α) (tail : Row α), found.length = n → (∀ u y v z q, found = u ++ y :: (v ++ z :: q) → O.tc y.1 z.1 = false → (∀ w ∈ v, O.tc w.1 z.1 = false) → O.lt y.1 z.1 = true) → pl O (found ++ tail) = true → NZ found → NF O found.reverse := by
    intro n
    induction n with
    | zero =>
      intro found tail h _ _ _
      rw [List.length_eq_zero_iff.mp h]
      exact True.intro
    | succ n ih =>
      intro found tail h hS hP hZ
      obtain ⟨f, x, rfl⟩ : ∃ f x, found = f ++ [x] := ⟨found.dropLast, found.getLast (fun e => by rw [e] at h; cases h), (List.dropLast_concat_getLast _).symm⟩
      have hl : f.length = n := by
        rw [List.length_append] at h
        simpa using h
      rw [List.reverse_append]
      refine ⟨hZ x (by simp), ?_, ih f (x :: tail) hl (fun u y v z q e => hS u y v z (q ++ [x]) (by rw [e]; simp)) (by simpa using hP) hZ.left⟩
      refine top_of (fun v' y u' e hv hy => ?_) (fun v' y u' e hv => ?_)
      · have e2 : f = u'.reverse ++ y :: v'.reverse := by
          have := congrArg List.reverse e
          simpa using this
        exact hS u'.reverse y v'.reverse x [] (by rw [e2]; simp) hy fun w hw => hv w (List.mem_reverse.mp hw)
      · have e2 : f = u'.reverse ++ y :: v'.reverse := by
          have := congrArg List.reverse e
          simpa using this
        exact pl_ne (O := O) (x := x) (y := y) (u := u'.reverse) (v := v'.reverse) (q := tail) (by rw [e2] at hP; simpa using hP) fun w hw => hv w (List.mem_reverse.mp hw)
  intro found h S hP hZ
  exact pre n found left h S.own hP hZ
end
end XM
set_option linter.all false
namespace XM
section
variable {α : Type} [DecidableEq α] {O : Ord α}
theorem ins_len {x : α × Int} : ∀ {r : Row α}, (ins O x r).length ≤ r.length + 1
  | [] => Nat.le_refl _
  | y :: r => by
    have ih := ins_len (x := x) (r := r)
    unfold ins
    split
    · split <;> simp <;> omega
    · split
      · simp
      · split
        · simp
        · simp only [List.length_cons]
          omega
theorem act_len : ∀ {l r : Row α}, (act O l r).length ≤ l.length + r.length
  | [], r => by simp [act]
  | x :: l, r => by
    have h1 := act_len (l := l) (r := ins O x r)
    have h2 := ins_len (O := O) (x := x) (r := r)
    rw [act_cons, List.length_cons]
    omega
/-! ### those that can stand first -/
/-- the first of those that can stand first -/
theorem ex_least : ∀ (n : Nat) (left : Row α), left.length = n → left ≠ [] → ∃ p x q, left = p ++ x :: q ∧ LeastFirst O p x q := by
  intro n
  -- among the splits with a free item there is one of least name
  have gen : ∀ (k : Nat) (left : Row α) (p : Row α) (x : α × Int) (q : Row α), left = p ++ x :: q → (∀ w ∈ p, O.tc w.1 x.1 = false) →
      (left.filter fun y => O.lt y.1 x.1).length ≤ k → ∃ p x q, left = p ++ x :: q ∧ LeastFirst O p x q := by
    intro k
    induction k with
    | zero =>
      intro left p x q e hp hk
      refine ⟨p, x, q, e, hp, fun p' z q' e' hp' hn => ?_⟩
      cases h : O.lt x.1 z.1
      · have hz : O.lt z.1 x.1 = true := O.tot _ _ (fun e => hn e.symm) h
        have hm : z ∈ left.filter fun y => O.lt y.1 x.1 := List.mem_filter.mpr ⟨by rw [e, e']; simp, hz⟩
        rw [List.length_eq_zero_iff.mp (Nat.le_zero.mp hk)] at hm
        cases hm
      · rfl
    | succ k ih =>
      intro left p x q e hp hk
      by_cases hex : ∃ p' z q', left = p' ++ z :: q' ∧ (∀ w ∈ p', O.tc w.1 z.1 = false) ∧ O.lt z.1 x.1 = true
      · obtain ⟨p', z, q', e', hp', hz⟩ := hex
        refine ih left p' z q' e' hp' ?_
        have hlt : (left.filter fun y => O.lt y.1 z.1).length < (left.filter fun y => O.lt y.1 x.1).length := by
          have hsub : (left.filter fun y => O.lt y.1 z.1) = (left.filter fun y => O.lt y.1 x.1).filter fun y => O.lt y.1 z.1 := by
            rw [List.filter_filter]
            congr 1
            funext y
            cases h1 : O.lt y.1 z.1
            · rfl
            · rw [O.trans _ _ _ h1 hz]
              rfl
          rw [hsub]
          have hm : z ∈ left.filter fun y => O.lt y.1 x.1 := List.mem_filter.mpr ⟨by rw [e']; simp, hz⟩
          refine Nat.lt_of_le_of_ne (List.length_filter_le _ _) fun he => ?_
          have := List.length_filter_eq_length_iff.mp he z hm
          rw [O.irr] at this
          cases this
        omega
      · refine ⟨p, x, q, e, hp, fun p' z q' e' hp' hn => ?_⟩
        cases h : O.lt x.1 z.1
        · exact absurd ⟨p', z, q', by rw [e, e'], hp', O.tot _ _ (fun e => hn e.symm) h⟩ hex
        · rfl
  intro left h hne
  cases left with
  | nil => exact absurd rfl hne
  | cons x q => exact gen _ (x :: q) [] x q rfl (fun _ h => nomatch h) (Nat.le_refl _)
/-- each pile can be sorted -/
theorem sort_ex {l : Row α} (hP : pl O l = true) (hZ : NZ l) : ∃ f : Row α, NF O f.reverse ∧ act O f [] = act O l [] ∧ f.length = l.length ∧ ∀ a, (near O a f).isSome = (near O a l).isSome := by
  have go : ∀ (n : Nat) (found left : Row α), left.length = n → Srt O found left → pl O (found ++ left) = true → NZ (found ++ left) →
      ∃ f : Row α, NF O f.reverse ∧ act O f [] = act O (found ++ left) [] ∧ f.length = (found ++ left).length ∧ ∀ a, (near O a f).isSome = (near O a (found ++ left)).isSome := by
    intro n
    induction n with
    | zero =>
      intro found left h S P Z
      have e : left = [] := List.length_eq_zero_iff.mp h
      subst e
      rw [List.append_nil] at Z ⊢
      exact ⟨found, nf_of _ found rfl S P Z, rfl, rfl, fun _ => rfl⟩
    | succ n ih =>
      intro found left h S P Z
      obtain ⟨p, x, q, rfl, L⟩ := ex_least (O := O) _ left rfl (fun e => by rw [e] at h; cases h)
      have zf := Z.left
      have zp : NZ p := Z.right.left
      have e0 : found ++ x :: (p ++ q) = found ++ [x] ++ (p ++ q) := by simp
      have P' : pl O (found ++ [x] ++ (p ++ q)) = true := by rw [← e0, ← pl_move L.free]; exact P
      have Z' : NZ (found ++ [x] ++ (p ++ q)) := fun y hy => Z y (by
        simp only [List.mem_append, List.mem_cons, List.mem_nil_iff, or_false] at hy ⊢
        rcases hy with (hy | hy) | hy | hy <;> simp [hy])
      obtain ⟨f, h1, h2, h3, h4⟩ := ih (found ++ [x]) (p ++ q) (by rw [List.length_append] at h ⊢; simp at h; omega) (S.step L) P' Z'
      refine ⟨f, h1, h2.trans ?_, h3.trans ?_, fun a => (h4 a).trans ?_⟩
      · rw [← e0, act_move L.free zf zp (show NF O [] from True.intro)]
      · simp only [List.length_append, List.length_cons, List.length_nil]
        omega
      · rw [← e0, near_move L.free]
  have := go l.length [] l rfl (Srt.nil l) (by simpa using hP) (by simpa using hZ)
  simpa using this
theorem near_pile {l : Row α} (hP : pl O l = true) (hZ : NZ l) (a : α) : (near O a (act O l []).reverse).isSome = (near O a l).isSome := by
  obtain ⟨f, h1, h2, _, h4⟩ := sort_ex hP hZ
  have e : (act O l []).reverse = f := by
    have := act_fix h1
    rw [List.reverse_reverse] at this
    rw [← h2, this, List.reverse_reverse]
  rw [e]
  exact h4 a
/-- a row is a pile exactly if its pile has as many pieces -/
theorem pile_iff {l : Row α} (hZ : NZ l) : (act O l []).length = l.length ↔ met O l = none := by
  constructor
  · intro h
    cases hm : met O l with
    | none => rfl
    | some ij =>
      obtain ⟨u, a, s, m, t, v, rfl, _, _, h5⟩ := met_some hm
      have hs : s ≠ 0 := hZ (a, s) (by simp)
      have ht : t ≠ 0 := hZ (a, t) (by simp)
      have zu : NZ u := hZ.left
      have zm : NZ m := fun w hw => hZ w (by simp [hw])
      rw [act_meet h5 hs ht zu zm (show NF O [] from True.intro)] at h
      have hl := act_len (O := O) (l := u ++ ((if s + t = 0 then [] else [(a, s + t)]) ++ (m ++ v))) (r := [])
      rw [h] at hl
      simp only [List.length_append, List.length_cons, List.length_nil] at hl
      by_cases h0 : s + t = 0
      · rw [if_pos h0] at hl
        simp at hl
        omega
      · rw [if_neg h0] at hl
        simp at hl
        omega
  · intro h
    obtain ⟨f, h1, h2, h3, _⟩ := sort_ex (O := O) (met_pl.mp h) hZ
    have := act_fix h1
    rw [List.reverse_reverse] at this
    rw [← h2, this, List.length_reverse, h3]
theorem pl_nf : ∀ {r : Row α}, NF O r → pl O r.reverse = true := fun {r} h => by
  have hz : NZ r.reverse := fun x hx => nf_nz h x (List.mem_reverse.mp hx)
  refine met_pl.mp ((pile_iff hz).mp ?_)
  rw [act_fix h, List.length_reverse]
/-! ### the other way round -/
theorem near_map {a : α} {g : α × Int → α × Int} (hg : ∀ x, (g x).1 = x.1) : ∀ {l : Row α}, near O a (l.map g) = near O a l
  | [] => rfl
  | x :: l => by
    show (if (g x).1 = a then some 0 else if O.tc (g x).1 a then none else (near O a (l.map g)).map (· + 1)) = _
    rw [near_map hg, hg]
    rfl
/-- none of one name behind one of the same that could come to it: told from the end -/
theorem pl_rev : ∀ {l : Row α}, pl O l = true → pl O l.reverse = true := by
  have key : ∀ (l : Row α), (∀ u a s m t v, l = u ++ (a, s) :: (m ++ (a, t) :: v) → ∃ w ∈ m, O.tc w.1 a = true) ↔ pl O l = true := by
    intro l
    constructor
    · intro h
      refine met_pl.mp ?_
      cases hm : met O l with
      | none => rfl
      | some ij =>
        obtain ⟨u, a, s, m, t, v, e, _, _, h5⟩ := met_some hm
        obtain ⟨w, hw, h6⟩ := h u a s m t v e
        rw [h5 w hw] at h6
        cases h6
    · intro h u a s m t v e
      by_cases hex : ∃ w ∈ m, O.tc w.1 a = true
      · exact hex
      · exact absurd rfl (pl_ne (O := O) (x := (a, t)) (y := (a, s)) (u := u) (v := m) (q := v) (by rw [← e]; exact h) fun w hw => by
          cases q : O.tc w.1 a
          · rfl
          · exact absurd ⟨w, hw, q⟩ hex)
  intro l h
  refine (key _).mp fun u a s m t v e => ?_
  have e2 : l = v.reverse ++ (a, t) :: (m.reverse ++ (a, s) :: u.reverse) := by
    have := congrArg List.reverse e
    simpa using this
  obtain ⟨w, hw, hc⟩ := (key l).mpr h _ _ _ _ _ _ e2
  exact ⟨w, List.mem_reverse.mp hw, hc⟩
theorem pl_map {g : α × Int → α × Int} (hg : ∀ x, (g x).1 = x.1) : ∀ {l : Row α}, pl O (l.map g) = pl O l
  | [] => rfl
  | x :: l => by
    show ((near O (g x).1 (l.map g)).isNone && pl O (l.map g)) = _
    rw [near_map hg, hg, pl_map hg]
    rfl
/-- what can stand last in a pile can stand first in that of what takes back -/
theorem near_back {l : Row α} (hZ : NZ l) (a : α) : (near O a (act O (back l) []).reverse).isSome = (near O a (act O l [])).isSome := by
  have hN : NF O (act O l []) := nf_act hZ (show NF O [] from True.intro)
  have hz : NZ (act O l []).reverse := fun x hx => nf_nz hN x (List.mem_reverse.mp hx)
  have e : act O (back l) [] = act O (back (act O l []).reverse) [] := act_back_eq hZ hz (act_fix hN).symm (show NF O [] from True.intro)
  have hb : back (act O l []).reverse = (act O l []).map fun x => (x.1, -x.2) := by
    unfold back
    rw [List.map_reverse, List.reverse_reverse]
  have hp : pl O ((act O l []).map fun x => (x.1, -x.2)) = true := by
    rw [pl_map (g := fun x => (x.1, -x.2)) fun _ => rfl]
    have := pl_rev (pl_nf hN)
    rwa [List.reverse_reverse] at this
  rw [e, hb, near_pile hp (by rw [← hb]; exact back_nz hz), near_map (g := fun x => (x.1, -x.2)) fun _ => rfl]
/-! ### names that can stand first, in their order -/
def frs (O : Ord α) (bar : Row α) : Row α → List α
  | [] => []
  | x :: r => if bar.all (fun w => !O.tc w.1 x.1) then x.1 :: frs O (bar ++ [x]) r else frs O (bar ++ [x]) r
theorem mem_frs {n : α} : ∀ {l bar : Row α}, n ∈ frs O bar l ↔ (∀ w ∈ bar, O.tc w.1 n = false) ∧ (near O n l).isSome = true
  | [], bar => by simp [frs, near]
  | x :: l, bar => by
    have ih := mem_frs (n := n) (l := l) (bar := bar ++ [x])
    have all_iff : (bar.all fun w => !O.tc w.1 x.1) = true ↔ ∀ w ∈ bar, O.tc w.1 x.1 = false := by simp
    have hx : (∀ w ∈ bar ++ [x], O.tc w.1 n = false) ↔ (∀ w ∈ bar, O.tc w.1 n = false) ∧ O.tc x.1 n = false := by
      constructor
      · exact fun h => ⟨fun w hw => h w (by simp [hw]), h x (by simp)⟩
      · rintro ⟨h1, h2⟩ w hw
        rcases List.mem_append.mp hw with hw | hw
        · exact h1 w hw
        · rw [List.mem_singleton.mp hw]
          exact h2
    rw [hx] at ih
    unfold frs near
    by_cases e : x.1 = n
    · subst e
      rw [if_pos rfl]
      simp only [Option.isSome_some, and_true]
      have no : x.1 ∉ frs O (bar ++ [x]) l := fun hm => by
        have := (ih.mp hm).1.2
        rw [O.refl] at this
        cases this
      split
      · rename_i h
        exact ⟨fun _ => all_iff.mp h, fun _ => List.mem_cons_self⟩
      · rename_i h
        exact ⟨fun hm => absurd hm no, fun hb => absurd (all_iff.mpr hb) h⟩
    · rw [if_neg e]
      have base : n ∈ frs O (bar ++ [x]) l ↔ (∀ w ∈ bar, O.tc w.1 n = false) ∧ (if O.tc x.1 n then none else (near O n l).map (· + 1)).isSome = true := by
        rw [ih]
        cases hc : O.tc x.1 n <;> simp
      split
      · rw [List.mem_cons]
        exact ⟨fun h => h.elim (fun q => absurd q.symm e) base.mp, fun h => .inr (base.mpr h)⟩
      · exact base
theorem nodup_frs : ∀ {l bar : Row α}, (frs O bar l).Nodup
  | [], _ => List.nodup_nil
  | x :: l, bar => by
    have ih := nodup_frs (l := l) (bar := bar ++ [x])
    unfold frs
    split
    · refine List.nodup_cons.mpr ⟨fun hm => ?_, ih⟩
      have := (mem_frs.mp hm).1 x (by simp)
      rw [O.refl] at this
      cases this
    · exact ih
end
end XM
set_option Elab.async false
set_option linter.all false
set_option maxRecDepth 100000
set_option maxHeartbeats 4000000
namespace XB
open PySem PySem.Spec PyProof.Rows L2
/-! ### the order of texts is one -/
theorem str_ext {a b : Str} (h : a.cps.toList = b.cps.toList) : a = b := by
  obtain ⟨⟨x⟩⟩ := a
  obtain ⟨⟨y⟩⟩ := b
  have h : x = y := h
  rw [h]
theorem sLt_irr (a : Str) : sLt a a = false := decide_eq_false (List.lt_irrefl _)
theorem sLt_trans (a b c : Str) (h : sLt a b = true) (g : sLt b c = true) : sLt a c = true := decide_eq_true (List.lt_trans (of_decide_eq_true h) (of_decide_eq_true g))
theorem sLt_tot (a b : Str) (n : a ≠ b) (h : sLt a b = false) : sLt b a = true := by
  have h1 : ¬ a.cps.toList < b.cps.toList := of_decide_eq_false h
  refine decide_eq_true ?_
  have h2 : b.cps.toList ≤ a.cps.toList := List.not_lt.mp h1
  rcases Classical.em (b.cps.toList < a.cps.toList) with h3 | h3
  · exact h3
  · exact absurd (str_ext (List.le_antisymm (List.not_lt.mp h3) h2)) n
/-! ### fields and rows of steps as data -/
structure Fld where
  names : List Str
  pairs : List (Str × Str)
def apart (F : Fld) (a b : Str) : Bool := F.pairs.contains (a, b) || F.pairs.contains (b, a)
def OF (F : Fld) : XM.Ord Str where
  tc := fun a b => decide (a = b) || !apart F a b
  lt := sLt
  refl := fun a => by simp
  symm := fun a b => by
    unfold apart
    rw [Bool.or_comm (F.pairs.contains (a, b))]
    congr 1
    exact decide_eq_decide.mpr ⟨Eq.symm, Eq.symm⟩
  irr := sLt_irr
  trans := sLt_trans
  tot := sLt_tot
/-- what a field keeps, as far as the functions of piles lean on it -/
structure Fld.Ok (F : Fld) : Prop where
  n0 : 0 < F.names.length
  n6 : F.names.length ≤ 6
  asc : ∀ p ∈ F.pairs, sLt p.1 p.2 = true
  inN : ∀ p ∈ F.pairs, p.1 ∈ F.names ∧ p.2 ∈ F.names
  sgn : ∀ n ∈ F.names, 1 ≤ n.length ∧ n.length ≤ 6 ∧ ∀ c ∈ n.cps.toList, 97 ≤ c ∧ c ≤ 122
  asN : F.names.Pairwise fun a b => sLt a b = true
  asP : F.pairs.Pairwise fun p q => (if p.1 == q.1 then (if p.2 == q.2 then false else sLt p.2 q.2) else sLt p.1 q.1) = true
  len : F.pairs.length ≤ 100
theorem apart_ne {F : Fld} (ok : F.Ok) {a : Str} : apart F a a = false := by
  have h : ¬ (a, a) ∈ F.pairs := fun h => by
    have := ok.asc _ h
    rw [sLt_irr] at this
    cases this
  unfold apart
  simp [h]
theorem tc_eq {F : Fld} (ok : F.Ok) (a b : Str) : (OF F).tc a b = !apart F a b := by
  show (decide (a = b) || !apart F a b) = _
  by_cases e : a = b
  · subst e
    rw [apart_ne ok]
    simp
  · simp [e]
/-- as the program asks it: the less one first -/
theorem apart_min {F : Fld} (ok : F.Ok) (a b : Str) : F.pairs.contains ((if sLt b a then b else a), (if sLt a b then b else a)) = apart F a b := by
  unfold apart
  cases h : sLt a b
  · by_cases e : a = b
    · subst e
      rw [sLt_irr]
      simp
    · have h2 := sLt_tot _ _ e h
      rw [h2]
      have n : ¬ (a, b) ∈ F.pairs := fun q => by
        have := ok.asc _ q
        rw [h] at this
        cases this
      simp [n]
  · have h2 : sLt b a = false := by
      cases q : sLt b a
      · rfl
      · have := sLt_trans _ _ _ h q
        rw [sLt_irr] at this
        cases this
    rw [h2]
    have n : ¬ (b, a) ∈ F.pairs := fun q => by
      have := ok.asc _ q
      rw [h2] at this
      cases this
    simp [n]
def touchL (F : Fld) (n : Str) : List Str := F.names.filter fun o => !apart F n o
theorem mem_touch {F : Fld} {a b : Str} (ok : F.Ok) (hb : b ∈ F.names) : (touchL F a).contains b = (OF F).tc b a := by
  rw [(OF F).symm, tc_eq ok]
  unfold touchL
  cases h : apart F a b <;> simp [hb, h]
def dPair (p : Str × Str) : PyData := .tuple [.str p.1, .str p.2]
def dNames (l : List Str) : PyData := .tuple (l.map .str)
def dField (F : Fld) : PyData := .tuple [dNames F.names, .tuple (F.pairs.map dPair)]
def dStep (s : Str × Int) : PyData := .tuple [.str s.1, .int s.2]
def dSteps (l : List (Str × Int)) : PyData := .tuple (l.map dStep)
/-! ### what stands while other things change -/
/-- tuples stand -/
structure Tk (H H' : Hp) : Prop where
  t : ∀ b xs, H b = some (.tup xs) → H' b = some (.tup xs)
  z : ∀ b o u, H b = some (.frz o u) → H' b = some (.frz o u)
theorem Tk.refl {H : Hp} : Tk H H := ⟨fun _ _ e => e, fun _ _ _ e => e⟩
theorem Tk.trans {H H1 H2 : Hp} (a : Tk H H1) (b : Tk H1 H2) : Tk H H2 := ⟨fun x xs e => b.t x xs (a.t x xs e), fun x o u e => b.z x o u (a.z x o u e)⟩
theorem Tk.of {H H1 : Hp} (a : Same H H1) : Tk H H1 := ⟨fun x xs e => a x _ e, fun x o u e => a x _ e⟩
theorem Tk.new {H H1 : Hp} {p : Addr} {o : HO} (a : Tk H H1) (hp : H1 p = none) : Tk H (upd H1 p o) := a.trans (Tk.of (same_upd hp))
theorem Tk.mut {H H1 : Hp} {p : Addr} {o u : HO} (a : Tk H H1) (hp : H1 p = some u) (h1 : ∀ xs, u ≠ .tup xs) (h2 : ∀ o' u', u ≠ .frz o' u') : Tk H (upd H1 p o) :=
  a.trans ⟨fun b xs e => by rw [upd_ne (ne_of e hp fun q => h1 xs q.symm)]; exact e, fun b o' u' e => by rw [upd_ne (ne_of e hp fun q => h2 o' u' q.symm)]; exact e⟩
theorem Tk.lst {H H1 : Hp} {p : Addr} {o : HO} {xs : List V} (a : Tk H H1) (hp : H1 p = some (.lst xs)) : Tk H (upd H1 p o) := a.mut hp (fun _ q => nomatch q) (fun _ _ q => nomatch q)
theorem Tk.sqT {K : PySem.W.Frag} {H H' : Hp} {a : Addr} {xs : List V} (k : Tk H H') (h : SqT K H a xs) : SqT K H' a xs := by
  rcases h with h | h
  · rcases h with h | ⟨o, h⟩
    · exact .inl (.inl (k.t _ _ h))
    · exact .inl (.inr ⟨o, k.z _ _ _ h⟩)
  · exact .inr h
mutual
def flatD : PyData → Bool
  | .none | .bool _ | .int _ | .str _ => true
  | .tuple xs => flatAll xs
  | .list _ | .dict _ => false
def flatAll : List PyData → Bool
  | [] => true
  | x :: xs => flatD x && flatAll xs
end
mutual
theorem Dp.tk {K : PySem.W.Frag} {H H' : Hp} (k : Tk H H') : ∀ (d : PyData) {v : V}, flatD d = true → Dp K H v d → Dp K H' v d
  | .none, _, _, h => by cases h; exact .non
  | .bool b, _, _, h => by cases h; exact .bl b
  | .int i, _, _, h => by cases h; exact .int i
  | .str x, _, _, h => by cases h; exact .str x
  | .tuple ds, _, hf, h => by
    cases h with
    | tup hs ha => exact .tup (k.sqT hs) (DpAll.tk k ds (by simpa only [flatD] using hf) ha)
  | .list _, _, hf, _ => by simp only [flatD] at hf; cases hf
  | .dict _, _, hf, _ => by simp only [flatD] at hf; cases hf
theorem DpAll.tk {K : PySem.W.Frag} {H H' : Hp} (k : Tk H H') : ∀ (ds : List PyData) {vs : List V}, flatAll ds = true → DpAll K H vs ds → DpAll K H' vs ds
  | [], _, _, h => by cases h; exact .nil
  | d :: ds, _, hf, h => by
    simp only [flatAll, Bool.and_eq_true] at hf
    cases h with
    | cons h1 h2 => exact .cons (Dp.tk k d hf.1 h1) (DpAll.tk k ds hf.2 h2)
end
theorem flatAll_of : ∀ {l : List PyData}, (∀ d ∈ l, flatD d = true) → flatAll l = true
  | [], _ => rfl
  | d :: l, h => by
    simp only [flatAll, Bool.and_eq_true]
    exact ⟨h d List.mem_cons_self, flatAll_of fun x hx => h x (List.mem_cons_of_mem _ hx)⟩
theorem flat_step (s : Str × Int) : flatD (dStep s) = true := rfl
theorem flat_all_steps (l : List (Str × Int)) : flatAll (l.map dStep) = true := flatAll_of fun d hd => by
  obtain ⟨s, _, rfl⟩ := List.mem_map.mp hd
  exact flat_step s
theorem flat_steps (l : List (Str × Int)) : flatD (dSteps l) = true := by
  show flatD (.tuple _) = true
  simp only [flatD]
  exact flat_all_steps l
theorem flat_names (l : List Str) : flatD (dNames l) = true := by
  show flatD (.tuple _) = true
  simp only [flatD]
  exact flatAll_of fun d hd => by
    obtain ⟨s, _, rfl⟩ := List.mem_map.mp hd
    rfl
theorem flat_field (F : Fld) : flatD (dField F) = true := by
  show flatD (.tuple _) = true
  simp only [flatD, flatAll, flat_names, Bool.true_and, Bool.and_true]
  exact flatAll_of fun d hd => by
    obtain ⟨s, _, rfl⟩ := List.mem_map.mp hd
    rfl
end XB
namespace L2
open PySem PySem.Spec PyProof.Rows XB
/-! ### rows of data by places -/
section
variable {K : PySem.W.Frag} {H : Hp}
theorem DpAll.len : ∀ {vs : List V} {ds : List PyData}, DpAll K H vs ds → vs.length = ds.length
  | _, _, .nil => rfl
  | _, _, .cons _ t => by rw [List.length_cons, List.length_cons, DpAll.len t]
theorem DpAll.get : ∀ {vs : List V} {ds : List PyData} {i : Nat} {v : V}, DpAll K H vs ds → vs[i]? = some v → ∃ d, ds[i]? = some d ∧ Dp K H v d
  | _, _, _, _, .nil, e => by simp at e
  | _, _, 0, _, .cons h _, e => by
    cases e
    exact ⟨_, rfl, h⟩
  | _, _, i + 1, _, .cons _ t, e => DpAll.get (i := i) t (by simpa using e)
theorem DpAll.app : ∀ {vs ws : List V} {ds es : List PyData}, DpAll K H vs ds → DpAll K H ws es → DpAll K H (vs ++ ws) (ds ++ es)
  | _, _, _, _, .nil, s => s
  | _, _, _, _, .cons h t, s => .cons h (DpAll.app t s)
theorem DpAll.take : ∀ {vs : List V} {ds : List PyData} (n : Nat), DpAll K H vs ds → DpAll K H (vs.take n) (ds.take n)
  | _, _, 0, _ => .nil
  | _, _, _ + 1, .nil => .nil
  | _, _, n + 1, .cons h t => .cons h (DpAll.take n t)
theorem DpAll.drop : ∀ {vs : List V} {ds : List PyData} (n : Nat), DpAll K H vs ds → DpAll K H (vs.drop n) (ds.drop n)
  | _, _, 0, h => h
  | _, _, _ + 1, .nil => .nil
  | _, _, n + 1, .cons _ t => DpAll.drop n t
theorem DpAll.rev : ∀ {vs : List V} {ds : List PyData}, DpAll K H vs ds → DpAll K H vs.reverse ds.reverse
  | _, _, .nil => .nil
  | _, _, .cons h t => by
    rw [List.reverse_cons, List.reverse_cons]
    exact (DpAll.rev t).app (.cons h .nil)
theorem DpAll.strs : ∀ l : List Str, DpAll K H (l.map V.str) (l.map PyData.str)
  | [] => .nil
  | x :: l => .cons (.str x) (DpAll.strs l)
theorem DpAll.of_strs : ∀ {l : List Str} {vs : List V}, DpAll K H vs (l.map PyData.str) → vs = l.map V.str
  | [], _, h => by
    cases h
    rfl
  | x :: l, _, h => by
    cases h with
    | cons h1 h2 =>
      cases h1
      rw [DpAll.of_strs h2]
      rfl
theorem Dp.step {v : V} {s : Str × Int} (h : Dp K H v (dStep s)) : ∃ a, v = .ref a ∧ SqT K H a [.str s.1, .int s.2] := by
  cases h with
  | tup hs ha =>
    cases ha with
    | cons h1 t =>
      cases t with
      | cons h2 t =>
        cases t
        cases h1
        cases h2
        exact ⟨_, rfl, hs⟩
theorem Dp.of_step {a : Addr} {s : Str × Int} (h : SqT K H a [.str s.1, .int s.2]) : Dp K H (.ref a) (dStep s) := .tup h (.cons (.str _) (.cons (.int _) .nil))
theorem Dp.pair {v : V} {s : Str × Str} (h : Dp K H v (dPair s)) : ∃ a, v = .ref a ∧ SqT K H a [.str s.1, .str s.2] := by
  cases h with
  | tup hs ha =>
    cases ha with
    | cons h1 t =>
      cases t with
      | cons h2 t =>
        cases t
        cases h1
        cases h2
        exact ⟨_, rfl, hs⟩
theorem Dp.steps {v : V} {l : List (Str × Int)} (h : Dp K H v (dSteps l)) : ∃ a vs, v = .ref a ∧ SqT K H a vs ∧ DpAll K H vs (l.map dStep) := by
  cases h with
  | tup hs ha => exact ⟨_, _, rfl, hs, ha⟩
theorem Dp.field {v : V} {F : Fld} (h : Dp K H v (dField F)) : ∃ a n p ps, v = .ref a ∧ SqT K H a [.ref n, .ref p] ∧ SqT K H n (F.names.map V.str) ∧ SqT K H p ps ∧ DpAll K H ps (F.pairs.map dPair) := by
  cases h with
  | tup hs ha =>
    cases ha with
    | cons h1 t =>
      cases t with
      | cons h2 t =>
        cases t
        cases h1 with
        | tup n1 n2 =>
          cases h2 with
          | tup p1 p2 =>
            rw [DpAll.of_strs n2] at n1
            exact ⟨_, _, _, _, rfl, hs, n1, p1, p2⟩
/-- the step at a place -/
theorem DpAll.step {vs : List V} {l : List (Str × Int)} {i : Nat} {s : Str × Int} (h : DpAll K H vs (l.map dStep)) (e : l[i]? = some s) : ∃ a, vs[i]? = some (.ref a) ∧ SqT K H a [.str s.1, .int s.2] := by
  have hl := h.len
  rw [List.length_map] at hl
  have hi : i < vs.length := by
    rw [hl]
    exact (List.getElem?_eq_some_iff.mp e).1
  obtain ⟨d, hd, hv⟩ := h.get (List.getElem?_eq_getElem hi)
  rw [List.getElem?_map, e] at hd
  cases hd
  obtain ⟨a, ha, hs⟩ := hv.step
  exact ⟨a, by rw [List.getElem?_eq_getElem hi, ha], hs⟩
end
end L2
set_option Elab.async false
set_option linter.all false
set_option maxRecDepth 100000
set_option maxHeartbeats 4000000
namespace XB
open PySem PySem.Spec PyProof.Rows L2
theorem tyx_tup {K : PySem.W.Frag} {H : Hp} {a : Addr} {xs : List V} (h : SqT K H a xs) : TyX K H (.ref a) (.type "tuple") := by
  rcases h with (h | ⟨o, h⟩) | ⟨o, its, n, hk, hc, _⟩
  · exact .base (.tup h)
  · exact .fTuple h
  · exact .kTuple hk hc
section
variable {X : Cx} {e : Expr} {te : TE} {x : Str} {p q pos : Pos}
/-- isinstance(e, T), T a built-in class -/
theorem pe_isT (T : String) (hgI : Gl X "isinstance") (hmI : X.mg "isinstance" = none) (hgT : Gl X x) (hmT : X.mg x = none) (hv : bootBuiltins x = some (.type T)) (he : PE X e te)
    (hn : x ≠ "__name__" := by decide) (hdb : (x == ("__debug__" : Str)) = false := by decide)
    (h1 : starEach [e, .Name x q] X.env = (false, eval e X.env) :: starEach [.Name x q] X.env := by rfl) (h2 : starEach [.Name x q] X.env = (false, eval (.Name x q) X.env) :: starEach [] X.env := by rfl) :
    PE X (.Call (.Name "isinstance" p) [e, .Name x q] [] pos) (tCB (rIsi X.K) (tCons te (tCons (tC (.ty T)) tNil))) :=
  pe_callB call_isi hgI hmI (by decide +kernel) (pa_cons he (pa_cons (pe_bltn (v := .ty T) hgT hmT hv rfl hn hdb) pa_nil h2) h1) (by decide) (by decide) h1 (by rw [h2]; rfl)
/-- len(e) of a list or a tuple -/
theorem pe_lenS (hg : Gl X "len") (hm : X.mg "len" = none) (he : PE X e te) (h1 : starEach [e] X.env = (false, eval e X.env) :: starEach [] X.env := by rfl) :
    PE X (.Call (.Name "len" p) [e] [] pos) (tCB (fun xs H Q => ∃ p ys, xs = [V.ref p] ∧ (SqL X.K H p ys ∨ SqT X.K H p ys) ∧ Q (.int ys.length) H) (tCons te tNil)) :=
  pe_callB call_len_seq hg hm PySem.boot_len (pa_cons he pa_nil h1) (by decide) (by decide) h1 (by rfl)
/-- len(e) of a text -/
theorem pe_lenT (hg : Gl X "len") (hm : X.mg "len" = none) (he : PE X e te) (h1 : starEach [e] X.env = (false, eval e X.env) :: starEach [] X.env := by rfl) :
    PE X (.Call (.Name "len" p) [e] [] pos) (tCB (fun xs H Q => ∃ z, xs = [V.str z] ∧ z.length ≤ sizeLine ∧ Q (.int z.length) H) (tCons te tNil)) :=
  pe_callB call_len_str hg hm PySem.boot_len (pa_cons he pa_nil h1) (by decide) (by decide) h1 (by rfl)
theorem walk_zipT {K : PySem.W.Frag} {a b : Addr} {xs ys : List V} {n : Nat} (hn : n = min xs.length ys.length) : Walk (RZ.ItzT K a b) n (fun H => SqT K H a xs ∧ SqT K H b ys) (YPair (fun i => xs[i]?) (fun i => ys[i]?)) := by
  subst hn
  constructor
  · intro i H hi q
    have h1 : i < xs.length := by omega
    have h2 : i < ys.length := by omega
    exact ⟨xs, ys, xs[i], ys[i], q.1, q.2, List.getElem?_eq_getElem h1, List.getElem?_eq_getElem h2⟩
  · intro H q
    exact ⟨xs, ys, q.1, q.2, by omega⟩
  · rintro i H v H' _ q ⟨T, x, z, h1, h2, h3, h4, h5⟩
    exact ⟨T, x, z, h1, h2, h3, h4 xs q.1, h5 ys q.2⟩
theorem cut_tail (xs : List V) : cutV xs (some 1) none = xs.drop 1 := by
  unfold cutV
  rw [show HT.sIx xs.length 0 (some 1) = min 1 xs.length from HT.sIx_nat xs.length 0 1, HT.sIx_none]
  cases xs with
  | nil => rfl
  | cons x r =>
    rw [List.length_cons, show min 1 (r.length + 1) = 1 by omega]
    show List.take (r.length + 1 - 1) r = r
    rw [Nat.add_sub_cancel]
    exact List.take_length
/-- the rules within a comprehension's block, where the written part is told by its name -/
theorem op_ltSSk {X : Cx} {K : PySem.W.Frag} (hk : X.K = K) (hu : X.A.units + 64 < cLine) : OpR X (compareOp .Lt) (fun x y H Q => ∃ p q a b c d, x = .ref p ∧ y = .ref q ∧ SqT K H p [.str a, .str b] ∧ SqT K H q [.str c, .str d] ∧ Q (.bl (if a == c then (if b == d then false else sLt b d) else sLt a c)) H) := by
  subst hk
  exact op_ltSS hu
theorem ixk_list {X : Cx} {K : PySem.W.Frag} (hk : X.K = K) : IxR X (rIxL K) := by
  subst hk
  exact ix_list
theorem ixk_tup {X : Cx} {K : PySem.W.Frag} (hk : X.K = K) : IxR X (rIxT K) := by
  subst hk
  exact ix_tup
theorem opk_in_seq {X : Cx} {K : PySem.W.Frag} (hk : X.K = K) : OpR X (compareOp .In) (rIn K false) := by
  subst hk
  exact op_in_seq
theorem opk_notIn_seq {X : Cx} {K : PySem.W.Frag} (hk : X.K = K) : OpR X (compareOp .NotIn) (rIn K true) := by
  subst hk
  exact op_notIn_seq
theorem noPart {σ : L2.St} {H : Hp} {Q : Option Int → Hp → Prop} (h : Q none H) : tNoPart σ H Q := h
/-- t[1:] of a tuple, whatever its length -/
theorem sl_tail {K : PySem.W.Frag} {H : Hp} {a : Addr} {xs : List V} {Q : VK} (h : SqT K H a xs) (q0 : xs = [] → Q (.ref a) H) (q1 : xs ≠ [] → ∀ p, H p = none → Q (.ref p) (upd H p (.tup (xs.drop 1)))) : rSlA K (.ref a) (some 1) none H Q := by
  refine ⟨a, xs, rfl, h, fun e => q0 ?_, fun hn p hp => ?_⟩
  · have e1 : HT.sIx xs.length 0 (some 1) = min 1 xs.length := HT.sIx_nat xs.length 0 1
    rw [e1] at e
    cases xs with
    | nil => rfl
    | cons x r =>
      rw [List.length_cons] at e
      omega
  · rw [cut_tail]
    refine q1 (fun e => ?_) p hp
    subst e
    exact hn ⟨rfl, rfl⟩
end
end XB
set_option Elab.async false
set_option linter.all false
set_option maxRecDepth 100000
set_option maxHeartbeats 4000000
namespace XB
open PySem PySem.Spec PyProof.Rows L2
section
variable {P : Program} {w : World} {K : PySem.W.Frag} {mg : Str → Option Value} {base : Heap}
def spIsPair (K : PySem.W.Frag) : Sp := fun vs H Q _ => ∃ (a : Addr) (xs : List V), vs = [.ref a] ∧ SqT K H a xs ∧ Q (.bl (decide (xs.length = 2))) H
theorem c_is_pair (T : Tx K mg) : Cl P w K mg base CX0 1 "is_pair" (spIsPair K) := by
  refine cl0 T.d_is_pair (ps := ["value"]) (fun _ _ _ _ _ _ us hl => match us, hl with | [_], _ => rfl) sc_is_pair (fun vs H Q E h => ?_) (fun f cdv A outer st H vs Q E hr h => ?_)
  · obtain ⟨a, xs, rfl, _⟩ := h
    rfl
  · obtain ⟨a, xs, rfl, hS, q⟩ := h
    refine ⟨_, pss_one (ps_ret (pe_and (pe_isT "tuple" (by rfl) T.b_isinstance (by rfl) T.b_tuple (by decide +kernel) (pv 0)) (pe_one (pe_cmpR op_eq (pe_lenS (by rfl) T.b_len (pv 0)) pe_int (nomark _))))), ?_⟩
    refine ⟨_, rfl, _, _, _, _, _, rfl, .ty _, tyx_tup hS, kit_ty (by decide +kernel), _, rfl, iteT ?_⟩
    refine ⟨_, rfl, a, xs, rfl, .inr hS, rfl, ?_⟩
    have e : decide (V.int (xs.length : Int) = V.int 2) = decide (xs.length = 2) := by
      refine decide_eq_decide.mpr ⟨fun h => ?_, fun h => ?_⟩
      · injection h with h
        omega
      · rw [h]
        rfl
    show Q (.bl (decide (V.int (xs.length : Int) = V.int 2))) H
    rw [e]
    exact q
/-- each text ahead of the next one -/
def spAscN (K : PySem.W.Frag) : Sp := fun vs H Q _ => (∃ (a : Addr) (l : List Str), vs = [.ref a] ∧ SqT K H a (l.map V.str) ∧ l.length ≤ 1000 ∧ l.Pairwise (fun a b => sLt a b = true) ∧ ∀ H', Same H H' → Q (.bl true) H') ∨
  (∃ (a : Addr) (vs' : List V) (l : List (Str × Str)), vs = [.ref a] ∧ SqT K H a vs' ∧ DpAll K H vs' (l.map dPair) ∧ l.length ≤ 1000 ∧ l.Pairwise (fun p q => (if p.1 == q.1 then (if p.2 == q.2 then false else sLt p.2 q.2) else sLt p.1 q.1) = true) ∧ ∀ H', Same H H' → Q (.bl true) H')
theorem all_true : ∀ n : Nat, (List.replicate n true).all id = true
  | 0 => rfl
  | n + 1 => by
    rw [List.replicate_succ, List.all_cons, all_true n]
    rfl
theorem map_rep (n : Nat) : (List.replicate n true).map V.bl = List.replicate n (V.bl true) := by
  rw [List.map_replicate]
theorem c_is_ascending (T : Tx K mg) : Cl P w K mg base CX0 1 "is_ascending" (spAscN K) := by
  refine cl0 T.d_is_ascending (ps := ["items"]) (fun _ _ _ _ _ _ us hl => match us, hl with | [_], _ => rfl) sc_is_ascending (fun vs H Q E h => ?_) (fun f cdv A outer st H vs Q E hr h => ?_)
  · rcases h with ⟨a, l, rfl, _⟩ | ⟨a, l, _, rfl, _⟩ <;> rfl
  · have nd := sc_is_ascending.nd
    have hu := hr.units
    rcases h with ⟨a, l, rfl, hS, hlen, hP, q⟩ | ⟨a, vs', l, rfl, hS, hD, hlen, hP, q⟩
    · refine ⟨_, pss_one (ps_ret (pe_callB (cr_all rfl) (by rfl) T.b_all (by decide +kernel) (pa_cons (pe_lc (own := [("one", 1), ("other", 2)]) (g := gTup K 2 (gCons (gName 1) (gCons (gName 2) gNil))) (tt := tYes) (by rfl) nd
        (RZ.pi_zipA (by rfl) T.b_zip (pa_cons (pv 0) (pa_cons (pe_slice sl_tupA (pv 0) (po_some pe_int) po_none) pa_nil)))
        (blkOk_by (own := [("one", 1), ("other", 2)]) (N := ["items", "one", "other"]) (sc := defScope s_is_ascending) (by decide +kernel))
        (fun _ _ _ _ _ => pg_tup rfl (pgs_cons (pg_name (i := 1) nd rfl (Or.inl rfl)) (pgs_cons (pg_name (i := 2) nd rfl (Or.inl rfl)) pgs_nil))) (fun _ _ _ _ _ => pts_nil) (fun _ _ _ _ _ => pe_cmpR op_lt_str (pv 1) (pv 2) (nomark _))) pa_nil))), ?_⟩
      refine ⟨_, rfl, _, rfl, 1, rfl, ?_⟩
      refine noPart ?_
      refine sl_tail hS (fun e => ?_) (fun hne b hb => ?_)
      rotate_left
      · have hB : SqT K (upd H b (.tup ((l.map V.str).drop 1))) b ((l.drop 1).map V.str) := by
          rw [List.map_drop]
          exact SqT.of upd_same
        have hA := (Tk.of (same_upd (o := .tup ((l.map V.str).drop 1)) hb)).sqT hS
        have sm := same_upd (o := .tup ((l.map V.str).drop 1)) hb
        generalize upd H b (.tup ((l.map V.str).drop 1)) = H1 at hA hB sm ⊢
        refine ⟨a, b, _, _, rfl, .inr ⟨hA, hB, fun D hD => ?_⟩⟩
        refine lc_it (walk_zipT (xs := l.map V.str) (ys := (l.drop 1).map V.str) rfl) (fun i H' => H' D = some (.lst (List.replicate i (V.bl true))) ∧ Same H1 H') ⟨upd_same, same_upd hD⟩ (fun i H' _ ⟨_, s'⟩ => ⟨(Tk.of s').sqT hA, (Tk.of s').sqT hB⟩)
          (fun i x H2 H3 hi ⟨eD, s'⟩ hy => ?_) (fun H2 ⟨eD, s'⟩ => ?_)
        · obtain ⟨Tt, x1, x2, rfl, nT, rfl, f1, f2⟩ := hy
          obtain ⟨y1, g1, rfl⟩ := str_at f1
          obtain ⟨y2, g2, rfl⟩ := str_at f2
          have nDT : D ≠ Tt := ne_of_none eD nT
          refine ⟨Tt, _, rfl, SqT.of upd_same, rfl, _, _, rfl, _, _, rfl, rfl, rfl, yes_ ?_⟩
          refine ⟨_, rfl, _, rfl, _, _, rfl, rfl, _, by rw [upd_ne nDT]; exact eD, ?_, ?_, ?_⟩
          · rw [List.length_replicate, List.length_map, List.length_map] at *
            exact small1000 (by omega)
          · rw [upd_same]
            have lt : sLt y1 y2 = true := by
              rw [List.getElem?_drop] at g2
              obtain ⟨h1, e1⟩ := List.getElem?_eq_some_iff.mp g1
              obtain ⟨h2, e2⟩ := List.getElem?_eq_some_iff.mp g2
              rw [← e1, ← e2]
              exact List.pairwise_iff_getElem.mp hP i (1 + i) h1 h2 (by omega)
            have e : decide (y1.cps.toList < y2.cps.toList) = true := lt
            rw [e, List.replicate_succ']
          · exact same_put (same_new s' nT) hD
        · refine ⟨D, List.replicate _ true, rfl, SqL.of (by rw [map_rep]; exact eD), ?_⟩
          rw [all_true]
          exact q _ (sm.trans s')
      · have e0 : l = [] := List.map_eq_nil_iff.mp e
        subst e0
        refine ⟨a, a, _, _, rfl, .inr ⟨hS, hS, fun D hD => ?_⟩⟩
        refine lc_it (walk_zipT (xs := []) (ys := []) rfl) (fun i H' => H' D = some (.lst []) ∧ Same H H') ⟨upd_same, same_upd hD⟩ (fun i H' _ ⟨_, s'⟩ => ⟨(Tk.of s').sqT hS, (Tk.of s').sqT hS⟩)
          (fun i x H2 H3 hi _ _ => absurd hi (Nat.not_lt_zero _)) (fun H2 ⟨eD, s'⟩ => ?_)
        exact ⟨D, [], rfl, SqL.of eD, q _ s'⟩
    · refine ⟨_, pss_one (ps_ret (pe_callB (cr_all rfl) (by rfl) T.b_all (by decide +kernel) (pa_cons (pe_lc (own := [("one", 1), ("other", 2)]) (g := gTup K 2 (gCons (gName 1) (gCons (gName 2) gNil))) (tt := tYes) (by rfl) nd
        (RZ.pi_zipA (by rfl) T.b_zip (pa_cons (pv 0) (pa_cons (pe_slice sl_tupA (pv 0) (po_some pe_int) po_none) pa_nil)))
        (blkOk_by (own := [("one", 1), ("other", 2)]) (N := ["items", "one", "other"]) (sc := defScope s_is_ascending) (by decide +kernel))
        (fun _ _ _ _ _ => pg_tup rfl (pgs_cons (pg_name (i := 1) nd rfl (Or.inl rfl)) (pgs_cons (pg_name (i := 2) nd rfl (Or.inl rfl)) pgs_nil))) (fun _ _ _ _ _ => pts_nil) (fun _ _ _ _ _ => pe_cmpR (op_ltSSk (K := K) rfl hu) (pv 1) (pv 2) (nomark _))) pa_nil))), ?_⟩
      refine ⟨_, rfl, _, rfl, 1, rfl, ?_⟩
      have hl := hD.len
      rw [List.length_map] at hl
      refine noPart ?_
      refine sl_tail hS (fun e => ?_) (fun hne b hb => ?_)
      rotate_left
      · have hB : SqT K (upd H b (.tup (vs'.drop 1))) b (vs'.drop 1) := SqT.of upd_same
        have hA := (Tk.of (same_upd (o := .tup (vs'.drop 1)) hb)).sqT hS
        have sm := same_upd (o := .tup (vs'.drop 1)) hb
        generalize upd H b (.tup (vs'.drop 1)) = H1 at hA hB sm ⊢
        refine ⟨a, b, _, _, rfl, .inr ⟨hA, hB, fun D hD' => ?_⟩⟩
        refine lc_it (walk_zipT (xs := vs') (ys := vs'.drop 1) rfl) (fun i H' => H' D = some (.lst (List.replicate i (V.bl true))) ∧ Same H1 H') ⟨upd_same, same_upd hD'⟩ (fun i H' _ ⟨_, s'⟩ => ⟨(Tk.of s').sqT hA, (Tk.of s').sqT hB⟩)
          (fun i x H2 H3 hi ⟨eD, s'⟩ hy => ?_) (fun H2 ⟨eD, s'⟩ => ?_)
        · obtain ⟨Tt, x1, x2, rfl, nT, rfl, f1, f2⟩ := hy
          have f1 : vs'[i]? = some x1 := f1
          have f2 : (vs'.drop 1)[i]? = some x2 := f2
          rw [List.getElem?_drop] at f2
          obtain ⟨d1, g1, p1⟩ := hD.get f1
          obtain ⟨d2, g2, p2⟩ := hD.get f2
          rw [List.getElem?_map] at g1 g2
          obtain ⟨y1, k1, rfl⟩ := Option.map_eq_some_iff.mp g1
          obtain ⟨y2, k2, rfl⟩ := Option.map_eq_some_iff.mp g2
          obtain ⟨b1, rfl, c1⟩ := p1.pair
          obtain ⟨b2, rfl, c2⟩ := p2.pair
          have kT : Tk H (upd H2 Tt (.tup [.ref b1, .ref b2])) := (Tk.of (sm.trans s')).new nT
          have nDT : D ≠ Tt := ne_of_none eD nT
          refine ⟨Tt, _, rfl, SqT.of upd_same, rfl, _, _, rfl, _, _, rfl, rfl, rfl, yes_ ?_⟩
          refine ⟨_, rfl, _, rfl, _, _, _, _, _, _, rfl, rfl, kT.sqT c1, kT.sqT c2, _, by rw [upd_ne nDT]; exact eD, ?_, ?_, ?_⟩
          · rw [List.length_replicate]
            exact small1000 (by omega)
          · rw [upd_same]
            have lt : (if y1.1 == y2.1 then (if y1.2 == y2.2 then false else sLt y1.2 y2.2) else sLt y1.1 y2.1) = true := by
              obtain ⟨h1, e1⟩ := List.getElem?_eq_some_iff.mp k1
              obtain ⟨h2, e2⟩ := List.getElem?_eq_some_iff.mp k2
              rw [← e1, ← e2]
              exact List.pairwise_iff_getElem.mp hP i (1 + i) h1 h2 (by omega)
            rw [lt, List.replicate_succ']
          · exact same_put (same_new s' nT) hD'
        · refine ⟨D, List.replicate _ true, rfl, SqL.of (by rw [map_rep]; exact eD), ?_⟩
          rw [all_true]
          exact q _ (sm.trans s')
      · subst e
        refine ⟨a, a, _, _, rfl, .inr ⟨hS, hS, fun D hD' => ?_⟩⟩
        refine lc_it (walk_zipT (xs := []) (ys := []) rfl) (fun i H' => H' D = some (.lst []) ∧ Same H H') ⟨upd_same, same_upd hD'⟩ (fun i H' _ ⟨_, s'⟩ => ⟨(Tk.of s').sqT hS, (Tk.of s').sqT hS⟩)
          (fun i x H2 H3 hi _ _ => absurd hi (Nat.not_lt_zero _)) (fun H2 ⟨eD, s'⟩ => ?_)
        exact ⟨D, [], rfl, SqL.of eD, q _ s'⟩
end
end XB
set_option Elab.async false
set_option linter.all false
set_option maxRecDepth 100000
set_option maxHeartbeats 4000000
namespace XB
open PySem PySem.Spec PyProof.Rows L2
theorem inV_strs (a : Str) : ∀ l : List Str, inV (.str a) (l.map V.str) = l.contains a
  | [] => rfl
  | x :: l => by
    have ih := inV_strs a l
    unfold inV at ih ⊢
    rw [List.map_cons, List.any_cons, ih, List.contains_cons]
    congr 1
    show decide (x = a) = (a == x)
    by_cases e : x = a
    · subst e
      simp
    · have : a ≠ x := fun q => e q.symm
      simp [e, this]
theorem flat_strs (l : List Str) : (l.map V.str).all flatV = true := by
  rw [List.all_map]
  exact List.all_eq_true.mpr fun _ _ => rfl
section
variable {P : Program} {w : World} {K : PySem.W.Frag} {mg : Str → Option Value} {base : Heap}
def GoodName (n : Str) : Prop := 1 ≤ n.length ∧ n.length ≤ 6 ∧ ∀ c ∈ n.cps.toList, 97 ≤ c ∧ c ≤ 122
def spIsName : Sp := fun vs H Q _ => ∃ n : Str, vs = [.str n] ∧ GoodName n ∧ ∀ H', Same H H' → Q (.bl true) H'
theorem c_is_name (T : Tx K mg) : Cl P w K mg base CX0 1 "is_name" spIsName := by
  refine cl0 T.d_is_name (ps := ["value"]) (fun _ _ _ _ _ _ us hl => match us, hl with | [_], _ => rfl) sc_is_name (fun vs H Q E h => ?_) (fun f cdv A outer st H vs Q E hr h => ?_)
  · obtain ⟨n, rfl, _⟩ := h
    rfl
  · obtain ⟨n, rfl, ⟨n1, n6, nc⟩, q⟩ := h
    have nd := sc_is_name.nd
    obtain ⟨tk, hML⟩ := T.g_MOST_LETTERS
    have hsz : n.length ≤ sizeLine := Nat.le_trans n6 (by decide)
    refine ⟨_, pss_cons (ps_if (PW.pt (pw_or (pt_not (pt_val (pe_isT "str" (by rfl) T.b_isinstance (by rfl) T.b_str (by decide +kernel) (pv 0)))) (pw_or1 (pt_not (pt_chain op_le op_le pe_int (pe_lenT (by rfl) T.b_len (pv 0)) (pe_glob (v := .int 6) (by rfl) hML ⟨_, rfl⟩)))))) pss_never pss_nil)
      (pss_one (ps_ret (pe_callB (cr_all rfl) (by rfl) T.b_all (by decide +kernel) (pa_cons (pe_lc (own := [("letter", 1)]) (g := gName 1) (tt := tYes) (by rfl) nd (pi_str (pv 0))
        (blkOk_by (own := [("letter", 1)]) (N := ["value", "letter"]) (sc := defScope s_is_name) (by decide +kernel)) (fun _ _ _ _ _ => pg_name (i := 1) nd rfl (Or.inl rfl)) (fun _ _ _ _ _ => pts_nil) (fun _ _ _ _ _ => pe_chain op_le_str op_le_str pe_str (pv 1) pe_str)) pa_nil)))), ?_⟩
    refine ⟨_, rfl, _, _, _, _, _, rfl, .ty _, .base (.str n), kit_ty (r := true) (by decide +kernel), _, rfl, iteF ?_⟩
    refine ⟨_, rfl, n, rfl, hsz, _, _, rfl, rfl, _, rfl, ?_⟩
    rw [decide_eq_true (show (1 : Int) ≤ (n.length : Int) by omega)]
    refine iteT ⟨_, _, rfl, rfl, _, rfl, ?_⟩
    rw [decide_eq_true (show (n.length : Int) ≤ 6 by omega)]
    refine iteF ?_
    refine ⟨_, rfl, n, rfl, fun D hD => ?_⟩
    refine lc_it walk_str (fun i H' => H' D = some (.lst (List.replicate i (V.bl true))) ∧ Same H H') ⟨upd_same, same_upd hD⟩ (fun _ _ _ _ => True.intro) (fun i x H2 H3 hi ⟨eD, s'⟩ hy => ?_) (fun H2 ⟨eD, s'⟩ => ?_)
    · obtain ⟨rfl, c, hc, rfl⟩ := hy
      have hm : c ∈ n.cps.toList := by
        rw [← Array.getElem?_toList] at hc
        exact List.mem_of_getElem? hc
      obtain ⟨c1, c2⟩ := nc c hm
      refine ⟨rfl, yes_ ?_⟩
      refine ⟨_, rfl, _, _, rfl, rfl, _, rfl, ?_⟩
      have e1 : (!decide ((⟨#[c]⟩ : Str).cps.toList < ("a" : Str).cps.toList)) = true := by
        show (!decide ([c] < [97])) = true
        simp [List.cons_lt_cons_iff]
        omega
      have e2 : (!decide (("z" : Str).cps.toList < (⟨#[c]⟩ : Str).cps.toList)) = true := by
        show (!decide ([122] < [c])) = true
        simp [List.cons_lt_cons_iff]
        omega
      rw [e1]
      refine iteT ⟨_, _, rfl, rfl, ?_⟩
      rw [e2]
      refine ⟨_, eD, ?_, ?_, same_put s' hD⟩
      · rw [List.length_replicate]
        have : n.cps.size = n.length := rfl
        exact small1000 (by omega)
      · rw [upd_same, List.replicate_succ']
    · refine ⟨D, List.replicate _ true, rfl, SqL.of (by rw [map_rep]; exact eD), ?_⟩
      rw [all_true]
      exact q _ s'
def spAreNames (K : PySem.W.Frag) : Sp := fun vs H Q _ => ∃ (a : Addr) (l : List Str), vs = [.ref a] ∧ SqT K H a (l.map V.str) ∧ 1 ≤ l.length ∧ l.length ≤ 6 ∧ (∀ n ∈ l, GoodName n) ∧ l.Pairwise (fun a b => sLt a b = true) ∧ ∀ H', Same H H' → Q (.bl true) H'
theorem c_are_names (T : Tx K mg) : Cl P w K mg base CX0 2 "are_names" (spAreNames K) := by
  refine cl0 T.d_are_names (ps := ["value"]) (fun _ _ _ _ _ _ us hl => match us, hl with | [_], _ => rfl) sc_are_names (fun vs H Q E h => ?_) (fun f cdv A outer st H vs Q E hr h => ?_)
  · obtain ⟨a, l, rfl, _⟩ := h
    rfl
  · obtain ⟨a, l, rfl, hS, l1, l6, hg, hP, q⟩ := h
    have nd := sc_are_names.nd
    obtain ⟨tk, hMN⟩ := T.g_MOST_NAMES
    refine ⟨_, pss_cons (ps_if (PW.pt (pw_or (pt_not (pt_val (pe_isT "tuple" (by rfl) T.b_isinstance (by rfl) T.b_tuple (by decide +kernel) (pv 0)))) (pw_or1 (pt_not (pt_chain op_le op_le pe_int (pe_lenS (by rfl) T.b_len (pv 0)) (pe_glob (v := .int 6) (by rfl) hMN ⟨_, rfl⟩)))))) pss_never pss_nil)
      (pss_one (ps_ret (pe_and (pe_callB (cr_all rfl) (by rfl) T.b_all (by decide +kernel) (pa_cons (pe_lc (own := [("item", 1)]) (g := gName 1) (tt := tYes) (by rfl) nd (pi_tup (pv 0))
        (blkOk_by (own := [("item", 1)]) (N := ["value", "item"]) (sc := defScope s_are_names) (by decide +kernel)) (fun _ _ _ _ _ => pg_name (i := 1) nd rfl (Or.inl rfl)) (fun _ _ _ _ _ => pts_nil) (fun _ _ _ _ _ => pe_k (c_is_name T) hr (by decide) (by rfl) (pa_cons (pv 1) pa_nil))) pa_nil))
        (pe_one (pe_k (c_is_ascending T) hr (by decide) (by rfl) (pa_cons (pv 0) pa_nil)))))), ?_⟩
    refine ⟨_, rfl, _, _, _, _, _, rfl, .ty _, tyx_tup hS, kit_ty (r := true) (by decide +kernel), _, rfl, iteF ?_⟩
    refine ⟨_, rfl, a, _, rfl, .inr hS, _, _, rfl, rfl, _, rfl, ?_⟩
    rw [List.length_map, decide_eq_true (show (1 : Int) ≤ (l.length : Int) by omega)]
    refine iteT ⟨_, _, rfl, rfl, _, rfl, ?_⟩
    rw [decide_eq_true (show (l.length : Int) ≤ 6 by omega)]
    refine iteF ?_
    refine ⟨_, rfl, a, rfl, ⟨_, hS⟩, fun D hD => ?_⟩
    refine lc_it (walk_tup (xs := l.map V.str)) (fun i H' => H' D = some (.lst (List.replicate i (V.bl true))) ∧ Same H H') ⟨upd_same, same_upd hD⟩ (fun _ _ _ ⟨_, s'⟩ => (Tk.of s').sqT hS) (fun i x H2 H3 hi ⟨eD, s'⟩ hy => ?_) (fun H2 ⟨eD, s'⟩ => ?_)
    · obtain ⟨rfl, hx⟩ := hy
      obtain ⟨n, hn, rfl⟩ := str_at hx
      refine ⟨rfl, yes_ ?_⟩
      refine ⟨_, rfl, n, rfl, hg n (List.mem_of_getElem? hn), fun H4 s4 => ⟨_, s4 _ _ eD, ?_, ?_, same_put (s'.trans s4) hD⟩⟩
      · rw [List.length_map] at hi
        rw [List.length_replicate]
        exact small1000 (by omega)
      · rw [upd_same, List.replicate_succ']
    · refine ⟨D, List.replicate _ true, rfl, SqL.of (by rw [map_rep]; exact eD), _, rfl, ?_⟩
      rw [all_true]
      refine iteT ?_
      refine ⟨_, rfl, .inl ⟨a, l, rfl, (Tk.of s').sqT hS, by omega, hP, fun H4 s4 => q _ (s'.trans s4)⟩⟩
def spIsPairOf (K : PySem.W.Frag) : Sp := fun vs H Q _ => ∃ (n v : Addr) (l : List Str) (a b : Str), vs = [.ref n, .ref v] ∧ SqT K H n (l.map V.str) ∧ SqT K H v [.str a, .str b] ∧ a ∈ l ∧ b ∈ l ∧ sLt a b = true ∧ Q (.bl true) H
theorem c_is_pair_of (T : Tx K mg) : Cl P w K mg base CX0 2 "is_pair_of" (spIsPairOf K) := by
  refine cl0 T.d_is_pair_of (ps := ["names", "value"]) (fun _ _ _ _ _ _ us hl => match us, hl with | [_, _], _ => rfl) sc_is_pair_of (fun vs H Q E h => ?_) (fun f cdv A outer st H vs Q E hr h => ?_)
  · obtain ⟨n, v, l, a, b, rfl, _⟩ := h
    rfl
  · obtain ⟨n, v, l, a, b, rfl, hN, hV, ha, hb, lt, q⟩ := h
    have nd := sc_is_pair_of.nd
    refine ⟨_, pss_cons (ps_if (pt_not (pt_val (pe_k (c_is_pair T) hr (by decide) (by rfl) (pa_cons (pv 1) pa_nil)))) pss_never pss_nil)
      (pss_cons (ps_asg (pv 1) (pg_tup rfl (pgs_cons (pg_name (i := 2) nd rfl (.inl rfl)) (pgs_cons (pg_name (i := 3) nd rfl (.inl rfl)) pgs_nil))))
      (pss_one (ps_ret (pe_and (pe_cmpR op_in_seq (pv 2) (pv 0) (by rfl)) (pe_and (pe_cmpR op_in_seq (pv 3) (pv 0) (by rfl)) (pe_one (pe_cmpR op_lt_str (pv 2) (pv 3) (nomark _)))))))), ?_⟩
    refine ⟨_, rfl, v, _, rfl, hV, _, rfl, iteF ?_⟩
    refine ⟨_, rfl, v, _, rfl, hV, rfl, _, _, rfl, _, _, rfl, rfl, ?_⟩
    refine ⟨_, rfl, _, rfl, n, _, rfl, .inr hN, rfl, flat_strs l, _, rfl, ?_⟩
    rw [if_neg Bool.false_ne_true, inV_strs, show l.contains a = true by simpa using ha]
    refine iteT ⟨_, rfl, _, rfl, n, _, rfl, .inr hN, rfl, flat_strs l, _, rfl, ?_⟩
    rw [if_neg Bool.false_ne_true, inV_strs, show l.contains b = true by simpa using hb]
    refine iteT ⟨_, rfl, _, rfl, _, _, rfl, rfl, ?_⟩
    have e : decide (a.cps.toList < b.cps.toList) = true := lt
    rw [e]
    exact q
def spArePairs (K : PySem.W.Frag) : Sp := fun vs H Q _ => ∃ (n v : Addr) (ps : List V) (F : Fld), vs = [.ref n, .ref v] ∧ SqT K H n (F.names.map V.str) ∧ SqT K H v ps ∧ DpAll K H ps (F.pairs.map dPair) ∧ F.Ok ∧ ∀ H', Same H H' → Q (.bl true) H'
theorem c_are_pairs (T : Tx K mg) : Cl P w K mg base CX0 3 "are_pairs" (spArePairs K) := by
  refine cl0 T.d_are_pairs (ps := ["names", "value"]) (fun _ _ _ _ _ _ us hl => match us, hl with | [_, _], _ => rfl) sc_are_pairs (fun vs H Q E h => ?_) (fun f cdv A outer st H vs Q E hr h => ?_)
  · obtain ⟨n, v, ps, F, rfl, _⟩ := h
    rfl
  · obtain ⟨n, v, ps, F, rfl, hN, hV, hD, ok, q⟩ := h
    have nd := sc_are_pairs.nd
    have hl := hD.len
    rw [List.length_map] at hl
    have hl2 := ok.len
    refine ⟨_, pss_cons (ps_if (pt_not (pt_val (pe_isT "tuple" (by rfl) T.b_isinstance (by rfl) T.b_tuple (by decide +kernel) (pv 1)))) pss_never pss_nil)
      (pss_one (ps_ret (pe_and (pe_callB (cr_all rfl) (by rfl) T.b_all (by decide +kernel) (pa_cons (pe_lc (own := [("item", 2)]) (g := gName 2) (tt := tYes) (by rfl) nd (pi_tup (pv 1))
        (blkOk_by (own := [("item", 2)]) (N := ["names", "value", "item"]) (sc := defScope s_are_pairs) (by decide +kernel)) (fun _ _ _ _ _ => pg_name (i := 2) nd rfl (Or.inl rfl)) (fun _ _ _ _ _ => pts_nil) (fun _ _ _ _ _ => pe_k (c_is_pair_of T) hr (by decide) (by rfl) (pa_cons (pv 0) (pa_cons (pv 2) pa_nil)))) pa_nil))
        (pe_one (pe_k (c_is_ascending T) hr (by decide) (by rfl) (pa_cons (pv 1) pa_nil)))))), ?_⟩
    refine ⟨_, rfl, _, _, _, _, _, rfl, .ty _, tyx_tup hV, kit_ty (r := true) (by decide +kernel), _, rfl, iteF ?_⟩
    refine ⟨_, rfl, v, rfl, ⟨_, hV⟩, fun D hD' => ?_⟩
    refine lc_it (walk_tup (xs := ps)) (fun i H' => H' D = some (.lst (List.replicate i (V.bl true))) ∧ Same H H') ⟨upd_same, same_upd hD'⟩ (fun _ _ _ ⟨_, s'⟩ => (Tk.of s').sqT hV) (fun i x H2 H3 hi ⟨eD, s'⟩ hy => ?_) (fun H2 ⟨eD, s'⟩ => ?_)
    · obtain ⟨rfl, hx⟩ := hy
      obtain ⟨d, g1, p1⟩ := hD.get hx
      rw [List.getElem?_map] at g1
      obtain ⟨y, k1, rfl⟩ := Option.map_eq_some_iff.mp g1
      obtain ⟨b, rfl, cb⟩ := p1.pair
      have my := List.mem_of_getElem? k1
      refine ⟨rfl, yes_ ?_⟩
      refine ⟨_, rfl, _, rfl, n, b, F.names, y.1, y.2, rfl, (Tk.of s').sqT hN, (Tk.of s').sqT cb, (ok.inN y my).1, (ok.inN y my).2, ok.asc y my, _, eD, ?_, ?_, same_put s' hD'⟩
      · rw [List.length_replicate]
        exact small1000 (by omega)
      · rw [upd_same, List.replicate_succ']
    · refine ⟨D, List.replicate _ true, rfl, SqL.of (by rw [map_rep]; exact eD), _, rfl, ?_⟩
      rw [all_true]
      refine iteT ?_
      refine ⟨_, rfl, .inr ⟨v, ps, F.pairs, rfl, (Tk.of s').sqT hV, DpAll.tk (Tk.of s') _ (flatAll_of fun d hd => ?_) hD, by omega, ok.asP, fun H4 s4 => q _ (s'.trans s4)⟩⟩
      obtain ⟨y, _, rfl⟩ := List.mem_map.mp hd
      rfl
def spNeedField (K : PySem.W.Frag) : Sp := fun vs H Q _ => ∃ (a : Addr) (F : Fld), vs = [.ref a] ∧ Dp K H (.ref a) (dField F) ∧ F.Ok ∧ ∀ H', Same H H' → Q (.ref a) H'
theorem c_need_field (T : Tx K mg) : Cl P w K mg base CX0 4 "need_field" (spNeedField K) := by
  refine cl0 T.d_need_field (ps := ["field"]) (fun _ _ _ _ _ _ us hl => match us, hl with | [_], _ => rfl) sc_need_field (fun vs H Q E h => ?_) (fun f cdv A outer st H vs Q E hr h => ?_)
  · obtain ⟨a, F, rfl, _⟩ := h
    rfl
  · obtain ⟨a, F, rfl, hF, ok, q⟩ := h
    have nd := sc_need_field.nd
    obtain ⟨_, n, p, ps, e, hA, hN, hP, hD⟩ := hF.field
    cases e
    refine ⟨_, pss_cons (ps_if (pt_not (pt_val (pe_k (c_is_pair T) hr (by decide) (by rfl) (pa_cons (pv 0) pa_nil)))) pss_never pss_nil)
      (pss_cons (ps_asg (pv 0) (pg_tup rfl (pgs_cons (pg_name (i := 1) nd rfl (.inl rfl)) (pgs_cons (pg_name (i := 2) nd rfl (.inl rfl)) pgs_nil))))
      (pss_cons (ps_if (pt_not (pt_val (pe_k (c_are_names T) hr (by decide) (by rfl) (pa_cons (pv 1) pa_nil)))) pss_never pss_nil)
      (pss_cons (ps_if (pt_not (pt_val (pe_k (c_are_pairs T) hr (by decide) (by rfl) (pa_cons (pv 1) (pa_cons (pv 2) pa_nil))))) pss_never pss_nil)
      (pss_one (ps_ret (pv 0)))))), ?_⟩
    refine ⟨_, rfl, a, _, rfl, hA, _, rfl, iteF ?_⟩
    refine ⟨_, rfl, a, _, rfl, hA, rfl, _, _, rfl, _, _, rfl, rfl, ?_⟩
    refine ⟨_, rfl, n, F.names, rfl, hN, ok.n0, ok.n6, ok.sgn, ok.asN, fun H1 s1 => ⟨_, rfl, iteF ?_⟩⟩
    refine ⟨_, rfl, _, rfl, n, p, ps, F, rfl, (Tk.of s1).sqT hN, (Tk.of s1).sqT hP, DpAll.tk (Tk.of s1) _ (flatAll_of fun d hd => ?_) hD, ok, fun H2 s2 => ⟨_, rfl, iteF ?_⟩⟩
    · obtain ⟨y, _, rfl⟩ := List.mem_map.mp hd
      rfl
    · exact ⟨_, rfl, q _ (s1.trans s2)⟩
end
end XB
set_option linter.all false
namespace XM
section
variable {α : Type} [DecidableEq α] {O : Ord α}
/-- the place of the last that touches (from the last piece on), or -1 -/
def lastIx (p : α → Bool) : Row α → Int
  | [] => -1
  | y :: r => if p y.1 then (r.length : Int) else lastIx p r
/-- a row cut where the last one touches -/
theorem last_cut {p : α → Bool} : ∀ r : Row α, (lastIx p r = -1 ∧ ∀ y ∈ r, p y.1 = false) ∨ ∃ v z r0, r = v ++ z :: r0 ∧ lastIx p r = (r0.length : Int) ∧ p z.1 = true ∧ ∀ y ∈ v, p y.1 = false
  | [] => .inl ⟨rfl, fun _ h => nomatch h⟩
  | y :: r => by
    cases h : p y.1
    · have e : lastIx p (y :: r) = lastIx p r := by
        unfold lastIx
        rw [if_neg (by rw [h]; decide)]
        cases r <;> rfl
      rcases last_cut (p := p) r with ⟨h1, h2⟩ | ⟨v, z, r0, rfl, h2, h3, h4⟩
      · exact .inl ⟨by rw [e, h1], fun w hw => (List.mem_cons.mp hw).elim (fun q => q ▸ h) (h2 w)⟩
      · exact .inr ⟨y :: v, z, r0, rfl, by rw [e, h2], h3, fun w hw => (List.mem_cons.mp hw).elim (fun q => q ▸ h) (h4 w)⟩
    · refine .inr ⟨[], y, r, rfl, ?_, h, fun _ h => nomatch h⟩
      unfold lastIx
      rw [if_pos h]
/-- how many stand at the begin that are less -/
def lead (O : Ord α) (a : α) : Row α → Nat
  | [] => 0
  | y :: r => if O.lt y.1 a then lead O a r + 1 else 0
theorem lead_le {a : α} : ∀ w : Row α, lead O a w ≤ w.length
  | [] => Nat.le_refl _
  | y :: r => by
    have := lead_le (a := a) r
    unfold lead
    split <;> simp <;> omega
theorem lead_snoc {a : α} {y : α × Int} : ∀ {w : Row α}, lead O a (w ++ [y]) = if lead O a w = w.length then (if O.lt y.1 a then w.length + 1 else w.length) else lead O a w
  | [] => by
    show (if O.lt y.1 a then 0 + 1 else 0) = _
    rw [if_pos (show lead O a [] = ([] : Row α).length from rfl)]
    rfl
  | z :: w => by
    have ih := lead_snoc (a := a) (y := y) (w := w)
    have hle := lead_le (O := O) (a := a) w
    show (if O.lt z.1 a then lead O a (w ++ [y]) + 1 else 0) = if (if O.lt z.1 a then lead O a w + 1 else 0) = (z :: w).length then _ else (if O.lt z.1 a then lead O a w + 1 else 0)
    cases h : O.lt z.1 a
    · have n : ¬ (0 = (z :: w).length) := by simp
      have q : ∀ {c d : Nat}, (if false = true then c else d) = d := fun {_ _} => rfl
      rw [q, q, if_neg n]
    · have q : ∀ {c d : Nat}, (if true = true then c else d) = c := fun {_ _} => rfl
      rw [q, q, ih, List.length_cons]
      by_cases e : lead O a w = w.length
      · rw [if_pos e, if_pos (congrArg (· + 1) e)]
        cases O.lt y.1 a <;> rfl
      · rw [if_neg e, if_neg (fun q => e (Nat.succ.inj q))]
theorem lead_all {a : α} : ∀ {w : Row α}, lead O a w = w.length ↔ ∀ y ∈ w, O.lt y.1 a = true
  | [] => by
    constructor
    · intro _ y h
      cases h
    · intro _
      rfl
  | y :: w => by
    have ih := lead_all (a := a) (w := w)
    show (if O.lt y.1 a then lead O a w + 1 else 0) = w.length + 1 ↔ _
    cases h : O.lt y.1 a
    · rw [if_neg (by decide)]
      constructor
      · intro q
        omega
      · intro q
        rw [q y List.mem_cons_self] at h
        cases h
    · rw [if_pos rfl]
      constructor
      · intro q z hz
        rcases List.mem_cons.mp hz with rfl | hz
        · exact h
        · exact ih.mp (by omega) z hz
      · intro q
        have := ih.mpr fun z hz => q z (List.mem_cons_of_mem _ hz)
        omega
/-- put among those that it may pass, ahead of the first greater one -/
def among (O : Ord α) (x : α × Int) (w : Row α) : Row α := w.take (lead O x.1 w) ++ x :: w.drop (lead O x.1 w)
theorem ins_among {x : α × Int} {r0 : Row α} (h0 : top O x.1 r0 = true) : ∀ {v : Row α}, (∀ y ∈ v, O.tc y.1 x.1 = false) → ins O x (v ++ r0) = (among O x v.reverse).reverse ++ r0 ∧ (top O x.1 (v ++ r0) = true ↔ ∀ y ∈ v, O.lt y.1 x.1 = true)
  | [], _ => ⟨by rw [List.nil_append, ins_top h0]; rfl, Iff.intro (fun _ _ h => (by cases h)) (fun _ => h0)⟩
  | y :: v, h => by
    have hy := h y List.mem_cons_self
    obtain ⟨i1, i2⟩ := ins_among h0 (v := v) fun z hz => h z (List.mem_cons_of_mem _ hz)
    have ht : top O x.1 (y :: v ++ r0) = (O.lt y.1 x.1 && top O x.1 (v ++ r0)) := top_apart hy
    have e2 : top O x.1 (y :: v ++ r0) = true ↔ ∀ z ∈ y :: v, O.lt z.1 x.1 = true := by
      rw [ht, Bool.and_eq_true, i2]
      constructor
      · rintro ⟨q1, q2⟩ z hz
        rcases List.mem_cons.mp hz with rfl | hz
        · exact q1
        · exact q2 z hz
      · exact fun q => ⟨q y List.mem_cons_self, fun z hz => q z (List.mem_cons_of_mem _ hz)⟩
    refine ⟨?_, e2⟩
    show ins O x (y :: (v ++ r0)) = _
    rw [ins_apart hy, i1, List.reverse_cons]
    have hl : lead O x.1 v.reverse = v.reverse.length ↔ top O x.1 (v ++ r0) = true := by
      rw [lead_all, i2]
      simp
    have hle := lead_le (O := O) (a := x.1) v.reverse
    unfold among
    rw [lead_snoc]
    cases hA : O.lt y.1 x.1 && top O x.1 (v ++ r0)
    · rw [if_neg (by decide)]
      have hk : (if lead O x.1 v.reverse = v.reverse.length then (if O.lt y.1 x.1 then v.reverse.length + 1 else v.reverse.length) else lead O x.1 v.reverse) = lead O x.1 v.reverse := by
        by_cases e : lead O x.1 v.reverse = v.reverse.length
        · rw [hl.mp e, Bool.and_true] at hA
          rw [if_pos e, hA, if_neg (by decide), e]
        · rw [if_neg e]
      rw [hk, List.take_append_of_le_length hle, List.drop_append_of_le_length hle]
      simp
    · obtain ⟨a1, a2⟩ := Bool.and_eq_true_iff.mp hA
      rw [if_pos rfl, if_pos (hl.mpr a2), if_pos a1]
      have e : v.reverse.length + 1 = (v.reverse ++ [y]).length := by simp
      rw [e, List.take_length, List.drop_length]
      simp
theorem ins_merge {a : α} {s t : Int} {r0 : Row α} : ∀ {v : Row α}, (∀ y ∈ v, O.tc y.1 a = false) → ins O (a, t) (v ++ (a, s) :: r0) = v ++ (if s + t = 0 then r0 else (a, s + t) :: r0) ∧ top O a (v ++ (a, s) :: r0) = false
  | [], _ => ⟨ins_same, top_same⟩
  | y :: v, h => by
    have hy := h y List.mem_cons_self
    obtain ⟨i1, i2⟩ := ins_merge (s := s) (t := t) (r0 := r0) (v := v) fun z hz => h z (List.mem_cons_of_mem _ hz)
    have ht : top O a (y :: v ++ (a, s) :: r0) = (O.lt y.1 a && top O a (v ++ (a, s) :: r0)) := top_apart hy
    refine ⟨?_, by rw [ht, i2, Bool.and_false]⟩
    show ins O (a, t) (y :: (v ++ (a, s) :: r0)) = _
    rw [ins_apart (x := (a, t)) hy, i2, Bool.and_false, if_neg (by decide), i1]
    rfl
/-- what the program does with a step, told by places of the row in its own order -/
theorem ins_code {l : Row α} {x : α × Int} {k : Int} (hk : lastIx (fun b => O.tc b x.1) l.reverse = k) :
    (k = -1 ∧ ins O x l.reverse = (among O x l).reverse) ∨
    ∃ (i : Nat) (z : α × Int), k = (i : Int) ∧ l[i]? = some z ∧
      ((z.1 ≠ x.1 ∧ ins O x l.reverse = (l.take (i + 1) ++ among O x (l.drop (i + 1))).reverse) ∨
       (z.1 = x.1 ∧ z.2 + x.2 ≠ 0 ∧ ins O x l.reverse = (l.set i (x.1, z.2 + x.2)).reverse) ∨
       (z.1 = x.1 ∧ z.2 + x.2 = 0 ∧ ins O x l.reverse = (l.eraseIdx i).reverse)) := by
  rcases last_cut (p := fun b => O.tc b x.1) l.reverse with ⟨h1, h2⟩ | ⟨v, z, r0, e, h2, h3, h4⟩
  · refine .inl ⟨by rw [← hk, h1], ?_⟩
    have := (ins_among (O := O) (x := x) (r0 := []) rfl (v := l.reverse) h2).1
    rw [List.append_nil, List.append_nil, List.reverse_reverse] at this
    exact this
  · right
    have el : l = r0.reverse ++ z :: v.reverse := by
      have := congrArg List.reverse e
      simpa using this
    have hi : l[r0.length]? = some z := by
      rw [el, List.getElem?_append_right (by simp)]
      simp
    refine ⟨r0.length, z, by rw [← hk, h2], hi, ?_⟩
    by_cases hz : z.1 = x.1
    · obtain ⟨z1, z2⟩ := z
      obtain ⟨x1, x2⟩ := x
      have hz : z1 = x1 := hz
      subst hz
      have m := (ins_merge (O := O) (a := z1) (s := z2) (t := x2) (r0 := r0) h4).1
      right
      by_cases h0 : z2 + x2 = 0
      · right
        refine ⟨rfl, h0, ?_⟩
        rw [e, m, if_pos h0, el]
        rw [List.eraseIdx_append_of_length_le (by simp)]
        simp
      · left
        refine ⟨rfl, h0, ?_⟩
        rw [e, m, if_neg h0, el]
        rw [List.set_append_right _ _ (by simp)]
        simp
    · left
      refine ⟨hz, ?_⟩
      have hc : O.tc z.1 x.1 = true := h3
      have m := (ins_among (O := O) (x := x) (r0 := z :: r0) (top_touch hc hz) h4).1
      rw [e, m]
      have t1 : l.take (r0.length + 1) = r0.reverse ++ [z] := by
        rw [el, List.take_append, List.length_reverse, Nat.add_sub_cancel_left, List.take_of_length_le (by simp)]
        rfl
      have t2 : l.drop (r0.length + 1) = v.reverse := by
        rw [el, List.drop_append, List.length_reverse, Nat.add_sub_cancel_left, List.drop_of_length_le (by simp)]
        rfl
      rw [t1, t2]
      simp
end
end XM
set_option Elab.async false
set_option linter.all false
set_option maxRecDepth 100000
set_option maxHeartbeats 4000000
namespace XB
open PySem PySem.Spec PyProof.Rows L2
theorem u65 {k : Nat} {A : Around} (r : Room k A) : A.units + 65 < cLine := by
  have := r.un
  omega
section
variable {X : Cx}
theorem op_inDTk {K : PySem.W.Frag} (hk : X.K = K) (hu : X.A.units + 65 < cLine) : OpR X (compareOp .In) (fun x y H Q => ∃ d ds, Dp K H x d ∧ Dp K H y (.tuple ds) ∧ SeqAt.shaped d = true ∧ SeqAt.shaped (.tuple ds) = true ∧ Q (.bl (ds.any fun z => PyData.eqv z d)) H) := by
  subst hk
  intro pins s σ H x y v u Q I rx ry h
  obtain ⟨d, ds, hd, he, sd, se, q⟩ := h
  obtain ⟨as, r1⟩ := Dp.reads I d x v hd rx
  obtain ⟨bs, r2⟩ := Dp.reads I (.tuple ds) y u he ry
  exact SeqAt.in_tuple_reads r2 r1 (SeqAt.canLay_of_shaped se) (SeqAt.canLay_of_shaped sd) (room_in_shaped sd hu) ⟨.bl _, H, I, rfl, q⟩
end
section
variable {P : Program} {w : World} {K : PySem.W.Frag} {mg : Str → Option Value} {base : Heap}
def spIsWhole : Sp := fun vs H Q _ => ∃ z : Int, vs = [.int z] ∧ Q (.bl true) H
theorem c_is_whole (T : Tx K mg) : Cl P w K mg base CX0 1 "is_whole" spIsWhole := by
  refine cl0 T.d_is_whole (ps := ["value"]) (fun _ _ _ _ _ _ us hl => match us, hl with | [_], _ => rfl) sc_is_whole (fun vs H Q E h => ?_) (fun f cdv A outer st H vs Q E hr h => ?_)
  · obtain ⟨z, rfl, _⟩ := h
    rfl
  · obtain ⟨z, rfl, q⟩ := h
    refine ⟨_, pss_one (ps_ret (pe_and (pe_isT "int" (by rfl) T.b_isinstance (by rfl) T.b_int (by decide +kernel) (pv 0)) (pe_one (pe_not (pe_isT "bool" (by rfl) T.b_isinstance (by rfl) T.b_bool (by decide +kernel) (pv 0)))))), ?_⟩
    refine ⟨_, rfl, _, _, _, _, _, rfl, .ty _, .base (.int z), kit_ty (r := true) (by decide +kernel), _, rfl, iteT ?_⟩
    refine ⟨_, rfl, _, _, _, _, _, rfl, .ty _, .base (.int z), kit_ty (r := false) (by decide +kernel), _, rfl, q⟩
def GoodTimes (t : Int) : Prop := t ≠ 0 ∧ -(10 ^ 30) ≤ t ∧ t ≤ 10 ^ 30
def spIsGreat (K : PySem.W.Frag) : Sp := fun vs H Q _ => ∃ (n v : Addr) (l : List Str) (s : Str × Int), vs = [.ref n, .ref v] ∧ SqT K H n (l.map V.str) ∧ SqT K H v [.str s.1, .int s.2] ∧ s.1 ∈ l ∧ s.2 ≠ 0 ∧ Q (.bl true) H
theorem c_is_great_step (T : Tx K mg) : Cl P w K mg base CX0 2 "is_great_step" (spIsGreat K) := by
  refine cl0 T.d_is_great_step (ps := ["names", "value"]) (fun _ _ _ _ _ _ us hl => match us, hl with | [_, _], _ => rfl) sc_is_great_step (fun vs H Q E h => ?_) (fun f cdv A outer st H vs Q E hr h => ?_)
  · obtain ⟨n, v, l, s, rfl, _⟩ := h
    rfl
  · obtain ⟨n, v, l, s, rfl, hN, hV, ha, t0, q⟩ := h
    have nd := sc_is_great_step.nd
    refine ⟨_, pss_cons (ps_if (pt_not (pt_val (pe_k (c_is_pair T) hr (by decide) (by rfl) (pa_cons (pv 1) pa_nil)))) pss_never pss_nil)
      (pss_cons (ps_asg (pv 1) (pg_tup rfl (pgs_cons (pg_name (i := 2) nd rfl (.inl rfl)) (pgs_cons (pg_name (i := 3) nd rfl (.inl rfl)) pgs_nil))))
      (pss_one (ps_ret (pe_and (pe_cmpR op_in_seq (pv 2) (pv 0) (by rfl)) (pe_and (pe_k (c_is_whole T) hr (by decide) (by rfl) (pa_cons (pv 3) pa_nil)) (pe_one (pe_cmpR op_ne (pv 3) pe_int (nomark _)))))))), ?_⟩
    refine ⟨_, rfl, v, _, rfl, hV, _, rfl, iteF ?_⟩
    refine ⟨_, rfl, v, _, rfl, hV, rfl, _, _, rfl, _, _, rfl, rfl, ?_⟩
    refine ⟨_, rfl, _, rfl, n, _, rfl, .inr hN, rfl, flat_strs l, _, rfl, ?_⟩
    rw [if_neg Bool.false_ne_true, inV_strs, show l.contains s.1 = true by simpa using ha]
    refine iteT ⟨_, rfl, _, rfl, _, rfl, iteT ?_⟩
    refine ⟨_, rfl, rfl, ?_⟩
    have e : (!decide (V.int s.2 = V.int 0)) = true := by
      rw [dec_int]
      simp [t0]
    rw [e]
    exact q
def spIsTimes : Sp := fun vs H Q _ => ∃ z : Int, vs = [.int z] ∧ GoodTimes z ∧ Q (.bl true) H
theorem c_is_times (T : Tx K mg) : Cl P w K mg base CX0 2 "is_times" spIsTimes := by
  refine cl0 T.d_is_times (ps := ["value"]) (fun _ _ _ _ _ _ us hl => match us, hl with | [_], _ => rfl) sc_is_times (fun vs H Q E h => ?_) (fun f cdv A outer st H vs Q E hr h => ?_)
  · obtain ⟨z, rfl, _⟩ := h
    rfl
  · obtain ⟨z, rfl, ⟨t0, t1, t2⟩, q⟩ := h
    obtain ⟨tk, hMT⟩ := T.g_MOST_TIMES
    refine ⟨_, pss_one (ps_ret (pe_and (pe_k (c_is_whole T) hr (by decide) (by rfl) (pa_cons (pv 0) pa_nil)) (pe_and (pe_cmpR op_ne (pv 0) pe_int (nomark _))
        (pe_one (pe_cmpR op_le (pe_callB call_abs (by rfl) T.b_abs (by decide +kernel) (pa_cons (pv 0) pa_nil)) (pe_glob (v := .int (10 ^ 30)) (by rfl) hMT ⟨_, rfl⟩) (nomark _)))))), ?_⟩
    refine ⟨_, rfl, _, rfl, _, rfl, iteT ?_⟩
    refine ⟨_, rfl, rfl, _, rfl, ?_⟩
    have e : (!decide (V.int z = V.int 0)) = true := by
      rw [dec_int]
      simp [t0]
    rw [e]
    refine iteT ⟨_, rfl, _, rfl, _, _, rfl, rfl, ?_⟩
    have e2 : decide ((if z < 0 then -z else z) ≤ 10 ^ 30) = true := by
      refine decide_eq_true ?_
      split <;> omega
    show Q (.bl (decide ((if z < 0 then -z else z) ≤ 10 ^ 30))) H
    rw [e2]
    exact q
def spIsStep (K : PySem.W.Frag) : Sp := fun vs H Q _ => ∃ (n v : Addr) (l : List Str) (s : Str × Int), vs = [.ref n, .ref v] ∧ SqT K H n (l.map V.str) ∧ SqT K H v [.str s.1, .int s.2] ∧ s.1 ∈ l ∧ GoodTimes s.2 ∧ Q (.bl true) H
theorem c_is_step (T : Tx K mg) : Cl P w K mg base CX0 3 "is_step" (spIsStep K) := by
  refine cl0 T.d_is_step (ps := ["names", "value"]) (fun _ _ _ _ _ _ us hl => match us, hl with | [_, _], _ => rfl) sc_is_step (fun vs H Q E h => ?_) (fun f cdv A outer st H vs Q E hr h => ?_)
  · obtain ⟨n, v, l, s, rfl, _⟩ := h
    rfl
  · obtain ⟨n, v, l, s, rfl, hN, hV, ha, gt, q⟩ := h
    refine ⟨_, pss_one (ps_ret (pe_and (pe_k (c_is_great_step T) hr (by decide) (by rfl) (pa_cons (pv 0) (pa_cons (pv 1) pa_nil)))
        (pe_one (pe_k (c_is_times T) hr (by decide) (by rfl) (pa_cons (pe_ix (ixk_tup (K := K) rfl) (pv 1) pe_int (fun _ _ => rfl)) pa_nil))))), ?_⟩
    refine ⟨_, rfl, _, rfl, n, v, l, s, rfl, hN, hV, ha, gt.1, _, rfl, iteT ?_⟩
    exact ⟨_, rfl, v, _, _, _, rfl, rfl, hV, rfl, _, rfl, gt, q⟩
def GoodScript (F : Fld) (l : List (Str × Int)) : Prop := l.length ≤ 60 ∧ ∀ s ∈ l, s.1 ∈ F.names ∧ GoodTimes s.2
def spNeedScript (K : PySem.W.Frag) : Sp := fun vs H Q _ => ∃ (a d : Addr) (F : Fld) (l : List (Str × Int)), vs = [.ref a, .ref d] ∧ Dp K H (.ref a) (dField F) ∧ F.Ok ∧ Dp K H (.ref d) (dSteps l) ∧ GoodScript F l ∧ ∀ H', Same H H' → Q (.ref d) H'
theorem c_need_script (T : Tx K mg) : Cl P w K mg base CX0 5 "need_script" (spNeedScript K) := by
  refine cl0 T.d_need_script (ps := ["field", "deeds"]) (fun _ _ _ _ _ _ us hl => match us, hl with | [_, _], _ => rfl) sc_need_script (fun vs H Q E h => ?_) (fun f cdv A outer st H vs Q E hr h => ?_)
  · obtain ⟨a, d, F, l, rfl, _⟩ := h
    rfl
  · obtain ⟨a, d, F, l, rfl, hF, ok, hL, ⟨l60, hg⟩, q⟩ := h
    have nd := sc_need_script.nd
    obtain ⟨tk, hMS⟩ := T.g_MOST_STEPS
    refine ⟨_, pss_cons (ps_asg (pe_k (c_need_field T) hr (by decide) (by rfl) (pa_cons (pv 0) pa_nil)) (pg_tup rfl (pgs_cons (pg_name (i := 2) nd rfl (.inl rfl)) (pgs_cons (pg_name (i := 3) nd rfl (.inl rfl)) pgs_nil))))
      (pss_cons (ps_if (PW.pt (pw_or (pt_not (pt_val (pe_isT "tuple" (by rfl) T.b_isinstance (by rfl) T.b_tuple (by decide +kernel) (pv 1)))) (pw_or1 (pt_cmpR op_gt (pe_lenS (by rfl) T.b_len (pv 1)) (pe_glob (v := .int 60) (by rfl) hMS ⟨_, rfl⟩) (nomark _))))) pss_never pss_nil)
      (pss_cons (ps_for PassesOwn.never rfl (pi_enumT (by rfl) T.b_enumerate (pa_cons (pv 1) pa_nil)) (pg_tup rfl (pgs_cons (pg_name (i := 4) nd rfl (.inl rfl)) (pgs_cons (pg_name (i := 5) nd rfl (.inl rfl)) pgs_nil)))
        (pss_one (ps_if (pt_not (pt_val (pe_k (c_is_step T) hr (by decide) (by rfl) (pa_cons (pv 2) (pa_cons (pv 5) pa_nil))))) pss_never pss_nil)))
      (pss_one (ps_ret (pv 1))))), ?_⟩
    refine ⟨_, rfl, a, F, rfl, hF, ok, fun H1 s1 => ?_⟩
    obtain ⟨_, n, p, ps, e, hA, hN, hP, hD⟩ := (Dp.tk (Tk.of s1) (dField F) (flat_field F) hF).field
    cases e
    obtain ⟨_, vs, e, hS, hV⟩ := (Dp.tk (Tk.of s1) (dSteps l) (flat_steps l) hL).steps
    cases e
    have hl := hV.len
    rw [List.length_map] at hl
    refine ⟨a, _, rfl, hA, rfl, _, _, rfl, _, _, rfl, rfl, ?_⟩
    refine ⟨_, rfl, _, _, _, _, _, rfl, .ty _, tyx_tup hS, kit_ty (r := true) (by decide +kernel), _, rfl, iteF ?_⟩
    refine ⟨_, rfl, d, _, rfl, .inr hS, _, _, rfl, rfl, _, rfl, ?_⟩
    rw [show decide ((60 : Int) < (vs.length : Int)) = false from decide_eq_false (by omega)]
    refine iteF ?_
    refine ⟨_, rfl, d, vs, rfl, hS, for_it (walk_IeT (xs := vs)) (fun i σ H2 => ∃ (y4 y5 : Option V), σ = [some (.ref a), some (.ref d), some (.ref n), some (.ref p), y4, y5] ∧ Same H1 H2)
      ⟨none, none, rfl, Same.refl _⟩ (fun i σ H2 _ ⟨y4, y5, _, s2⟩ => (Tk.of s2).sqT hS) (fun i x σ H2 H3 hi ⟨y4, y5, eσ, s2⟩ hy => ?_) (fun σ H2 ⟨y4, y5, eσ, s2⟩ => ?_)⟩
    · obtain ⟨Tt, x1, x2, rfl, nT, rfl, f1, f2⟩ := hy
      subst eσ
      obtain ⟨d', g1, p1⟩ := hV.get f2
      rw [List.getElem?_map] at g1
      obtain ⟨s, k1, rfl⟩ := Option.map_eq_some_iff.mp g1
      obtain ⟨b, rfl, cb⟩ := p1.step
      have ms := hg s (List.mem_of_getElem? k1)
      have s3 := same_new (o := .tup [x1, .ref b]) s2 nT
      refine ⟨Tt, _, rfl, SqT.of upd_same, rfl, _, _, rfl, _, _, rfl, rfl, ?_⟩
      refine ⟨_, rfl, _, rfl, n, b, F.names, s, rfl, (Tk.of s3).sqT hN, (Tk.of s3).sqT cb, ms.1, ms.2, _, rfl, iteF ?_⟩
      exact ⟨_, _, rfl, s3⟩
    · subst eσ
      exact ⟨_, rfl, q _ (s1.trans s2)⟩
/-! ### touching -/
theorem any_pairs (ps : List (Str × Str)) (a b : Str) : (ps.map dPair).any (fun z => PyData.eqv z (dPair (a, b))) = ps.contains (a, b) := by
  induction ps with
  | nil => rfl
  | cons p r ih =>
    rw [List.map_cons, List.any_cons, ih, List.contains_cons]
    congr 1
    obtain ⟨c, d⟩ := p
    show (PyData.eqv (.str c) (.str a) && (PyData.eqv (.str d) (.str b) && true)) = ((a, b) == (c, d))
    show ((c == a) && ((d == b) && true)) = ((a == c) && (b == d))
    rw [Bool.and_true]
    rw [show (c == a) = (a == c) from BEq.comm, show (d == b) = (b == d) from BEq.comm]
theorem strOk_of {n : Str} (h : GoodName n) : PyData.strOk n = true := by
  obtain ⟨h1, h6, hc⟩ := h
  unfold PyData.strOk
  rw [← Array.all_toList, List.all_eq_true]
  intro c m
  have := hc c m
  exact decide_eq_true (by omega)
theorem lay_pair {p : Str × Str} (h1 : GoodName p.1) (h2 : GoodName p.2) : (dPair p).canLay0 = true := by
  show PyData.canLay0 (.tuple [.str p.1, .str p.2]) = true
  simp [PyData.canLay0, PyData.canLayAll0, strOk_of h1, strOk_of h2]
theorem sh_pair {p : Str × Str} (h1 : GoodName p.1) (h2 : GoodName p.2) : SeqAt.shaped (dPair p) = true := by
  unfold SeqAt.shaped
  rw [lay_pair h1 h2]
  show (true && _) = true
  simp [dPair, PyData.depth, PyData.depthAll]
theorem layPairs : ∀ {ps : List (Str × Str)}, (∀ p ∈ ps, GoodName p.1 ∧ GoodName p.2) → PyData.canLayAll0 (ps.map dPair) = true
  | [], _ => rfl
  | p :: ps, h => by
    rw [List.map_cons, PyData.canLayAll0, layPairs fun x hx => h x (List.mem_cons_of_mem _ hx), lay_pair (h p List.mem_cons_self).1 (h p List.mem_cons_self).2]
    rfl
theorem deepPairs : ∀ ps : List (Str × Str), PyData.depthAll (ps.map dPair) ≤ 2
  | [] => by decide
  | p :: ps => by
    rw [List.map_cons, PyData.depthAll]
    have := deepPairs ps
    have e : (dPair p).depth ≤ 2 := by
      show PyData.depth (.tuple [.str p.1, .str p.2]) ≤ 2
      simp [PyData.depth, PyData.depthAll]
    omega
theorem sh_pairs {ps : List (Str × Str)} (h : ∀ p ∈ ps, GoodName p.1 ∧ GoodName p.2) : SeqAt.shaped (.tuple (ps.map dPair)) = true := by
  have h2 := deepPairs ps
  show (PyData.canLayAll0 (ps.map dPair) && decide (PyData.depthAll (ps.map dPair) + 1 ≤ 64)) = true
  rw [layPairs h, Bool.true_and]
  exact decide_eq_true (by omega)
theorem Fld.Ok.good {F : Fld} (ok : F.Ok) : ∀ p ∈ F.pairs, GoodName p.1 ∧ GoodName p.2 := fun p hp => ⟨ok.sgn _ (ok.inN p hp).1, ok.sgn _ (ok.inN p hp).2⟩
def spAreApart (K : PySem.W.Frag) : Sp := fun vs H Q _ => ∃ (p : Addr) (ps : List V) (F : Fld) (a b : Str), vs = [.ref p, .str a, .str b] ∧ SqT K H p ps ∧ DpAll K H ps (F.pairs.map dPair) ∧ F.Ok ∧ a ∈ F.names ∧ b ∈ F.names ∧ ∀ H', Same H H' → Q (.bl (apart F a b)) H'
def spNamesTouching (K : PySem.W.Frag) : Sp := fun vs H Q _ => ∃ (a : Addr) (F : Fld) (n : Str), vs = [.ref a, .str n] ∧ Dp K H (.ref a) (dField F) ∧ F.Ok ∧ n ∈ F.names ∧ ∀ H' q, Same H H' → SqT K H' q ((touchL F n).map V.str) → Q (.ref q) H'
def TouchAt (K : PySem.W.Frag) (H : Hp) (t : Addr) (F : Fld) : Prop := ∃ kvs : List (Key × V), H t = some (.dK kvs) ∧ ∀ n ∈ F.names, ∃ a, valV kvs (.inr n) = some (.ref a) ∧ SqT K H a ((touchL F n).map V.str)
theorem TouchAt.same {K : PySem.W.Frag} {H H' : Hp} {t : Addr} {F : Fld} (h : TouchAt K H t F) (s : Same H H') : TouchAt K H' t F := by
  obtain ⟨kvs, e, g⟩ := h
  refine ⟨kvs, s _ _ e, fun n hn => ?_⟩
  obtain ⟨a, e1, e2⟩ := g n hn
  exact ⟨a, e1, (Tk.of s).sqT e2⟩
def spTouchTable (K : PySem.W.Frag) : Sp := fun vs H Q _ => ∃ (a : Addr) (F : Fld), vs = [.ref a] ∧ Dp K H (.ref a) (dField F) ∧ F.Ok ∧ ∀ H' t, Same H H' → H t = none → TouchAt K H' t F → Q (.ref t) H'
end
end XB
set_option Elab.async false
set_option linter.all false
set_option maxRecDepth 100000
set_option maxHeartbeats 4000000
/-! t[::-1] of a tuple -/
namespace HT
open PySem PySem.Spec PyProof.Rows
section
variable {prog : Program} {w : World} {A : Around} {E : Value → Shared → Prop} {s : Shared}
theorem adjust_rev (n : Nat) : Builtin.Slice.sliceAdjust none none (-1) (n : Int) = ((n : Int) - 1, -1) := by
  unfold Builtin.Slice.sliceAdjust
  rfl
theorem places_rev (n : Nat) : Builtin.Slice.slicePlaces ((n : Int) - 1) (-1) (-1) = n := by
  unfold Builtin.Slice.slicePlaces
  have h1 : ¬ ((-1 : Int) > 0) := by decide
  simp only [h1, if_false]
  rw [show (- -1 : Int) = 1 from rfl, Int.ediv_one]
  split <;> omega
theorem sliceApplied_rev {sl : Addr} {n : Nat} {u : Tok} {Q : Int × Int × Nat → Shared → Prop} (hs : s.heap.IsSliceOf sl .none .none (.int (-1) u))
    (h : Q ((n : Int) - 1, -1, n) s) : wpAny (model prog w) A (Builtin.Slice.sliceApplied (.ref sl) (pure (n : Int))) Q E s := by
  obtain ⟨os, hos, hcs, hds⟩ := id hs
  unfold Builtin.Slice.sliceApplied Builtin.Slice.sliceFields
  refine wpAny_bind (wpAny_bind (wpAny_field hos hds (x := .none) rfl (wpAny_bind (wpAny_field hos hds (x := .none) rfl (wpAny_bind (wpAny_field hos hds (x := .int (-1) u) rfl (wpAny_pure ?_)))))))
  refine wpAny_bind (slicePart_int ?_)
  show wpAny _ _ (if ((-1 : Int) == 0) = true then _ else _) _ _ s
  rw [if_neg (by decide)]
  refine wpAny_bind (slicePart_none (wpAny_bind (slicePart_none (wpAny_bind (wpAny_pure ?_)))))
  show wpAny _ _ (match Builtin.Slice.sliceAdjust none none (-1) (n : Int) with | (lo, hi) => pure (lo, (-1 : Int), Builtin.Slice.slicePlaces lo hi (-1))) _ _ s
  rw [adjust_rev n]
  show wpAny _ _ (pure ((n : Int) - 1, (-1 : Int), Builtin.Slice.slicePlaces ((n : Int) - 1) (-1) (-1))) _ _ s
  rw [places_rev]
  exact wpAny_pure h
theorem pick_rev (xs : Array Value) : ((List.range xs.size).filterMap fun (m : Nat) => xs[(((xs.size : Int) - 1) + (m : Int) * -1).toNat]?).toArray = xs.toList.reverse.toArray := by
  have e : (fun (m : Nat) => xs[(((xs.size : Int) - 1) + (m : Int) * -1).toNat]?) = (fun k => xs[k]?) ∘ fun m => xs.size - 1 - m := by
    funext m
    have : (((xs.size : Int) - 1) + (m : Int) * -1).toNat = xs.size - 1 - m := by omega
    rw [this]
    rfl
  rw [e, ← List.filterMap_map, PySem.W.krv_range, List.filterMap_reverse, PySem.W.krv_all]
theorem getItem_tuple_rev {t sl : Addr} {items : Array Value} {u : Tok} {Q : Value → Shared → Prop} (ht : IsTup s.heap t items) (hs : s.heap.IsSliceOf sl .none .none (.int (-1) u))
    (h : Q (.ref s.heap.objs.size) { s with heap := s.heap.push { cls := .type "tuple", data := .seq items.toList.reverse.toArray } })
    (hsz : items.size ≤ sizeLine) : wpAny (model prog w) A (getItem (.ref t) (.ref sl)) Q E s := by
  have htake : sizeOk (.seq items.toList.reverse.toArray) := by
    show items.toList.reverse.toArray.size ≤ sizeLine
    rw [List.size_toArray, List.length_reverse, Array.length_toList]
    exact hsz
  obtain ⟨os, hos, hcs, hds⟩ := id hs
  have hTs : s.TypeIs (.ref sl) "slice" := ⟨os, hos, hcs⟩
  unfold getItem
  try with_reducible refine wpAny_holding ?_
  first | refine wpAny_bind (wpAny_pure ?_) | skip
  refine wpAny_bind (wpAny_sequenceKey ht.typeIs (by decide) ?_)
  refine wpAny_bind (wpAny_callSpecial?_slot (name := Str.ofString "__getitem__") ht.typeIs PyProof.Rows.slot_tuple_getitem
    (wpAny_call_entry PyProof.Rows.slot_tuple_getitem ht.typeIs entry_tuple_getitem ?_ (args_tuple_getitem _ _)))
  show wpAny _ _ (Builtin.Tuple.tupleItemsOf (.ref t) >>= _) _ _ s
  refine wpAny_bind (tupleItemsOf_ ht ?_)
  refine wpAny_bind (wpAny_typeOf hTs ?_)
  rw [if_pos (by decide)]
  refine wpAny_bind (sliceApplied_rev hs ?_)
  have hno : ¬ ((((items.size : Int) - 1) == 0 && (-1 : Int) == 1 && items.size == items.size) = true) := by
    intro q
    rw [Bool.and_eq_true, Bool.and_eq_true] at q
    exact absurd q.1.2 (by decide)
  show wpAny _ _ (if ((((items.size : Int) - 1) == 0 && (-1 : Int) == 1 && items.size == items.size) = true) then _ else _) _ _ s
  rw [if_neg hno, pick_rev]
  first
    | exact wpAny_bind (m := Builtin.Tuple.tupleExact _) (wpAny_newObj_type (wpAny_pure ⟨_, rfl, wpAny_pure h⟩) htake)
    | exact wpAny_bind (m := Builtin.Tuple.tupleExact _) (wpAny_newObj_type (wpAny_bind (wpAny_pure (wpAny_pure ⟨_, rfl, wpAny_pure h⟩))) htake)
    | exact wpAny_bind (wpAny_bind (m := Builtin.Tuple.tupleExact _) (wpAny_newObj_type (wpAny_pure (wpAny_pure ⟨_, rfl, wpAny_pure h⟩)) htake))
    | exact wpAny_bind (wpAny_bind (m := Builtin.Tuple.tupleExact _) (wpAny_newObj_type (wpAny_pure ⟨_, rfl, wpAny_pure h⟩) htake))
end
end HT
namespace XB
open PySem PySem.Spec PyProof.Rows L2
section
variable {X : Cx}
def tRevT (K : PySem.W.Frag) (te : TE) : TE := fun σ H Q => te σ H fun x H1 => ∃ a xs, x = .ref a ∧ SqT K H1 a xs ∧ ∀ p, H1 p = none → Q (.ref p) (upd H1 p (.tup xs.reverse))
theorem pe_revT {e : Expr} {te : TE} {k : Nat} {p1 p2 p3 pos : Pos} (he : PE X e te) : PE X (.Subscript e (.Slice none none (some (.UnaryOp .USub (.Constant (.int 1) k p1) p2)) p3) pos) (tRevT X.K te) := by
  refine ⟨fun pins s σ H Q I h => ?_⟩
  refine Subscript_ (thn (he.run pins s σ H _ I h) fun v s1 ⟨x, H1, I1, r1, q1⟩ => ?_)
  obtain ⟨a, xs, ex, hx, q⟩ := q1
  subst ex
  cases r1
  have hst : PO X (some (.UnaryOp .USub (.Constant (.int 1) k p1) p2)) (tPart (tUn (rU fun i => .int (-i)) (tC (.int 1)))) := po_some (pe_un un_neg pe_int)
  refine wpAny_Slice (thn (po_none.run pins s1 σ H1 (fun o H2 => o = none ∧ H2 = H1) I1 ⟨rfl, rfl⟩) fun vl s2 ⟨l, H2, I2, pl, el, e2⟩ => ?_)
  subst el e2
  refine thn (po_none.run pins s2 σ H2 (fun o H3 => o = none ∧ H3 = H2) I2 ⟨rfl, rfl⟩) fun vu s3 ⟨u, H3, I3, pu, eu, e3⟩ => ?_
  subst eu e3
  refine thn (hst.run pins s3 σ H3 (fun o H4 => o = some (-1) ∧ H4 = H3) I3 ⟨1, rfl, -1, rfl, rfl, rfl⟩) fun vs s4 ⟨o, H4, I4, ps, eo, e4⟩ => ?_
  subst eo e4
  cases pl
  cases pu
  cases ps with
  | int i tk =>
    have I5 : Inv X pins σ H4 { s4 with heap := s4.heap.push { cls := .type "slice", data := .fields #[.none, .none, .int (-1) tk] } } := I4.kept (t' := s4.toks) fun b ob q => Heap.get?_push_of_some _ q
    obtain ⟨its, r, ht, hz⟩ := I5.tuple hx
    have hlen := r.length
    show wpAny (model X.prog X.w) X.A (subscriptTail e (.Slice none none (some (.UnaryOp .USub (.Constant (.int 1) k p1) p2)) p3) (.ref a) (.ref s4.heap.objs.size)) (EP X pins σ Q) X.xe { s4 with heap := s4.heap.push { cls := .type "slice", data := .fields #[.none, .none, .int (-1) tk] } }
    refine tail_any (ops := [.ref a, .ref s4.heap.objs.size]) ht.typeIs PyProof.Rows.slot_tuple_getitem.lookup ?_ (by with_unfolding_all rfl)
    refine HT.getItem_tuple_rev ht (Heap.IsSliceOf.new _ .none .none (.int (-1) tk)) ?_ (by rw [List.size_toArray]; omega)
    refine ⟨.ref _, _, I5.laid (t' := s4.toks) (o := .tup xs.reverse) (fun b ob q => Heap.get?_push_of_some _ q) (Nat.le_refl _) ?_, rfl, q _ (I5.hok.fresh (Nat.le_refl _))⟩
    exact ⟨by rw [List.length_reverse]; exact hz, _, r.reverse, ⟨_, Heap.get?_push_size _ rfl, rfl, _, rfl⟩⟩
end
end XB
set_option Elab.async false
set_option linter.all false
set_option maxRecDepth 100000
set_option maxHeartbeats 4000000
/-! rules of rows, lists or tuples -/
namespace XB
open PySem PySem.Spec PyProof.Rows L2
def SqX (K : PySem.W.Frag) (H : Hp) (p : Addr) (xs : List V) : Prop := SqL K H p xs ∨ SqT K H p xs
theorem SqX.same {K : PySem.W.Frag} {H H' : Hp} {p : Addr} {xs : List V} (s : Same H H') (h : SqX K H p xs) : SqX K H' p xs := h.elim (fun h => .inl (s.seq h)) fun h => .inr ((Tk.of s).sqT h)
def rIxX (K : PySem.W.Frag) : R2 := fun x y H Q => ∃ p xs i v, x = .ref p ∧ y = .int i ∧ SqX K H p xs ∧ atI xs i = some v ∧ Q v H
section
variable {X : Cx}
theorem ixk_row {K : PySem.W.Frag} (hk : X.K = K) : IxR X (rIxX K) := by
  subst hk
  intro value slice pins s σ H x y v u Q I rx ry h hs
  obtain ⟨p, xs, i, z, e1, e2, hq, he, q⟩ := h
  rcases hq with hq | hq
  · exact ix_list value slice pins s σ H x y v u Q I rx ry ⟨p, xs, i, z, e1, e2, hq, he, q⟩ hs
  · exact ix_tup value slice pins s σ H x y v u Q I rx ry ⟨p, xs, i, z, e1, e2, hq, he, q⟩ hs
/-- a part of a row, whatever its kind: a row of the same kind, old or new -/
def rSlX (K : PySem.W.Frag) : V → Option Int → Option Int → Hp → VK → Prop := fun x lo hi H Q => ∃ p xs, x = .ref p ∧ SqX K H p xs ∧ ∀ H' q, Same H H' → SqX K H' q (cutV xs lo hi) → Q (.ref q) H'
theorem cut_whole {xs : List V} {lo hi : Option Int} (h : HT.sIx xs.length 0 lo = 0 ∧ HT.sIx xs.length xs.length hi = xs.length) : cutV xs lo hi = xs := by
  unfold cutV
  rw [h.1, h.2]
  simp
theorem slk_row {K : PySem.W.Frag} (hk : X.K = K) : SlR X (rSlX K) := by
  subst hk
  intro pins s σ H x v vl vu lo hi sl Q I rx hs pl pu h
  obtain ⟨p, xs, e, hq, q⟩ := h
  rcases hq with hq | hq
  · exact sl_list pins s σ H x v vl vu lo hi sl Q I rx hs pl pu ⟨p, xs, e, hq, fun r hr => q _ r (same_upd hr) (.inl (SqL.of upd_same))⟩
  · exact sl_tupA pins s σ H x v vl vu lo hi sl Q I rx hs pl pu ⟨p, xs, e, hq, fun hw => q _ p (Same.refl _) (by rw [cut_whole hw]; exact .inr hq), fun _ r hr => q _ r (same_upd hr) (.inr (SqT.of upd_same))⟩
/-- a row walked through, whatever its kind -/
def iRow (K : PySem.W.Frag) (tl : TE) : TI := fun σ H R => tl σ H fun x H1 => ∃ a xs, x = .ref a ∧ SqX K H1 a xs ∧ ∀ (J : It) (G : Hp → Prop), (∀ H', Same H1 H' → G H') → Walk J xs.length G (YAt xs) → R J H1
theorem pi_row {l tg : Expr} {tl : TE} (hl : PE X l tl) : PI X tg l (iRow X.K tl) := by
  refine ⟨fun pins s σ H R I h => ?_⟩
  refine thn (hl.run pins s σ H _ I h) fun v s1 ⟨x, H1, I1, r1, q1⟩ => ?_
  obtain ⟨a, xs, e, hq, q⟩ := q1
  subst e
  cases r1
  rcases hq with hq | hq
  · obtain ⟨its, rv, p, hz⟩ := I1.list hq
    refine wpAny_pyIter_list p.isList ?_
    refine ⟨s1.heap.objs.size, [s1.heap.objs.size], _, _, H1, rfl, I1.kept (t' := s1.toks) fun b o e => Heap.get?_push_of_some _ e, turn_list a _, ⟨_, Heap.get?_push_size _ rfl, rfl, rfl⟩, fun b hb => ?_, q _ _ (fun H' s' => s'.seq hq) walk_list⟩
    have e : b = s1.heap.objs.size := by simpa using hb
    subst e
    exact I1.fpOk (Nat.le_refl _) (I1.hok.fresh (Nat.le_refl _))
  · obtain ⟨its, rv, p, hz⟩ := I1.tuple hq
    refine wpAny_pyIter_tuple (show s1.heap.IsTuple a its.toArray from p) ?_
    refine ⟨s1.heap.objs.size, [s1.heap.objs.size], _, _, H1, rfl, I1.kept (t' := s1.toks) fun b o e => Heap.get?_push_of_some _ e, turn_tuple a _, ⟨_, Heap.get?_push_size _ rfl, rfl, rfl⟩, fun b hb => ?_, q _ _ (fun H' s' => (Tk.of s').sqT hq) walk_tup⟩
    have e : b = s1.heap.objs.size := by simpa using hb
    subst e
    exact I1.fpOk (Nat.le_refl _) (I1.hok.fresh (Nat.le_refl _))
end
theorem cut_init (xs : List V) (k : Nat) : cutV xs none (some (k : Int)) = xs.take k := by
  unfold cutV
  rw [HT.sIx_none, HT.sIx_nat]
  rw [List.drop_zero, Nat.sub_zero]
  by_cases h : k ≤ xs.length
  · rw [Nat.min_eq_left h]
  · rw [Nat.min_eq_right (by omega), List.take_of_length_le (Nat.le_refl _), List.take_of_length_le (by omega)]
theorem cut_from (xs : List V) (k : Nat) : cutV xs (some (k : Int)) none = xs.drop k := by
  unfold cutV
  rw [HT.sIx_none, HT.sIx_nat]
  by_cases h : k ≤ xs.length
  · rw [Nat.min_eq_left h, List.take_of_length_le (by rw [List.length_drop]; omega)]
  · rw [Nat.min_eq_right (by omega), List.drop_of_length_le (Nat.le_refl _), List.drop_of_length_le (by omega)]
    simp
end XB
set_option Elab.async false
set_option linter.all false
set_option maxRecDepth 100000
set_option maxHeartbeats 4000000
namespace XB
open PySem PySem.Spec PyProof.Rows L2
theorem take_snoc {α : Type} {l : List α} {k : Nat} {s : α} (h : l[k]? = some s) : l.take (k + 1) = l.take k ++ [s] := by
  rw [List.take_add_one, h]
  rfl
theorem drop_at {α : Type} {l : List α} {k : Nat} {s : α} (h : l[k]? = some s) : l.drop k = s :: l.drop (k + 1) := by
  obtain ⟨h1, rfl⟩ := List.getElem?_eq_some_iff.mp h
  exact List.drop_eq_getElem_cons h1
section
variable {P : Program} {w : World} {K : PySem.W.Frag} {mg : Str → Option Value} {base : Heap}
def spLastTouched (K : PySem.W.Frag) : Sp := fun vs H Q _ => ∃ (a l : Addr) (ns : List Str) (xs : List V) (row : List (Str × Int)), vs = [.ref a, .ref l] ∧ SqT K H a (ns.map V.str) ∧ SqX K H l xs ∧ DpAll K H xs (row.map dStep) ∧ Q (.int (XM.lastIx (fun b => ns.contains b) row.reverse)) H
def spPlaceBehind (K : PySem.W.Frag) (F : Fld) : Sp := fun vs H Q _ => ∃ (l : Addr) (z : Int) (i : Nat) (nm : Str) (xs : List V) (row : List (Str × Int)), vs = [.ref l, .int z, .str nm] ∧ z + 1 = (i : Int) ∧ i ≤ row.length ∧ SqX K H l xs ∧ DpAll K H xs (row.map dStep) ∧ Q (.int ((i + XM.lead (OF F) nm (row.drop i) : Nat) : Int)) H
end
end XB
set_option Elab.async false
set_option linter.all false
set_option maxRecDepth 100000
set_option maxHeartbeats 4000000
namespace XB
open PySem PySem.Spec PyProof.Rows L2
theorem DpAll.set1 {K : PySem.W.Frag} {H : Hp} {v : V} {d : PyData} (hv : Dp K H v d) : ∀ {vs : List V} {ds : List PyData} (i : Nat), DpAll K H vs ds → DpAll K H (vs.set i v) (ds.set i d)
  | _, _, _, .nil => .nil
  | _, _, 0, .cons _ t => .cons hv t
  | _, _, i + 1, .cons h t => .cons h (DpAll.set1 hv i t)
theorem DpAll.er {K : PySem.W.Frag} {H : Hp} : ∀ {vs : List V} {ds : List PyData} (i : Nat), DpAll K H vs ds → DpAll K H (vs.eraseIdx i) (ds.eraseIdx i)
  | _, _, _, .nil => .nil
  | _, _, 0, .cons _ t => t
  | _, _, i + 1, .cons h t => .cons h (DpAll.er i t)
theorem map_er {α β : Type} (f : α → β) : ∀ (l : List α) (i : Nat), (l.eraseIdx i).map f = (l.map f).eraseIdx i
  | [], _ => rfl
  | _ :: _, 0 => rfl
  | x :: l, i + 1 => by
    show f x :: (l.eraseIdx i).map f = f x :: (l.map f).eraseIdx i
    rw [map_er f l i]
/-- a list of steps put in at a place -/
theorem DpAll.inI {K : PySem.W.Frag} {H : Hp} {vs : List V} {row : List (Str × Int)} {v : V} {s : Str × Int} (hv : Dp K H v (dStep s)) (i : Nat) (h : DpAll K H vs (row.map dStep)) :
    DpAll K H (vs.take i ++ [v] ++ vs.drop i) ((row.take i ++ s :: row.drop i).map dStep) := by
  rw [List.append_assoc, List.map_append, List.map_cons, List.map_take, List.map_drop]
  exact (h.take i).app (.cons hv (h.drop i))
section
variable {P : Program} {w : World} {K : PySem.W.Frag} {mg : Str → Option Value} {base : Heap}
/-- the row as the program changes it stands in a list of its own -/
def Row1 (K : PySem.W.Frag) (H : Hp) (D : Addr) (row : List (Str × Int)) : Prop := ∃ xs, H D = some (.lst xs) ∧ DpAll K H xs (row.map dStep)
theorem Row1.put {K : PySem.W.Frag} {H : Hp} {D : Addr} {xs ys : List V} {row : List (Str × Int)} (e : H D = some (.lst xs)) (h : DpAll K H ys (row.map dStep)) : Row1 K (upd H D (.lst ys)) D row :=
  ⟨ys, upd_same, DpAll.tk (Tk.refl.lst e) _ (flat_all_steps row) h⟩
theorem TouchAt.lst {K : PySem.W.Frag} {H : Hp} {t D : Addr} {F : Fld} {xs ys : List V} (h : TouchAt K H t F) (e : H D = some (.lst xs)) : TouchAt K (upd H D (.lst ys)) t F := by
  obtain ⟨kvs, e1, g⟩ := h
  have k : Tk H (upd H D (.lst ys)) := Tk.refl.lst e
  refine ⟨kvs, by rw [upd_ne (ne_of e1 e (fun q => nomatch q))]; exact e1, fun n hn => ?_⟩
  obtain ⟨a, e1, e2⟩ := g n hn
  exact ⟨a, e1, k.sqT e2⟩
theorem lastIx_congr {p q : Str → Bool} : ∀ {r : List (Str × Int)}, (∀ y ∈ r, p y.1 = q y.1) → XM.lastIx p r = XM.lastIx q r
  | [], _ => rfl
  | y :: r, h => by
    have ih := lastIx_congr (p := p) (q := q) (r := r) fun z hz => h z (List.mem_cons_of_mem _ hz)
    have hy := h y List.mem_cons_self
    unfold XM.lastIx
    rw [hy, ih]
def Names (F : Fld) (l : List (Str × Int)) : Prop := ∀ s ∈ l, s.1 ∈ F.names
theorem names_ins {F : Fld} {x : Str × Int} (hx : x.1 ∈ F.names) : ∀ {r : List (Str × Int)}, Names F r → Names F (XM.ins (OF F) x r)
  | [], _ => fun s hs => by
    have hs : s ∈ [x] := hs
    rw [List.mem_singleton.mp hs]
    exact hx
  | y :: r, h => by
    have ih := names_ins hx (r := r) fun z hz => h z (List.mem_cons_of_mem _ hz)
    have hy := h y List.mem_cons_self
    have h0 : Names F r := fun z hz => h z (List.mem_cons_of_mem _ hz)
    have c : ∀ {a : Str × Int} {l : List (Str × Int)}, a.1 ∈ F.names → Names F l → Names F (a :: l) := fun {a l} ha hl s hs => by
      rcases List.mem_cons.mp hs with rfl | hs
      · exact ha
      · exact hl s hs
    unfold XM.ins
    by_cases e1 : y.1 = x.1
    · rw [if_pos e1]
      by_cases e2 : y.2 + x.2 = 0
      · rw [if_pos e2]
        exact h0
      · rw [if_neg e2]
        exact c hx h0
    · rw [if_neg e1]
      by_cases e2 : (OF F).tc y.1 x.1 = true
      · rw [if_pos e2]
        exact c hx h
      · rw [if_neg e2]
        by_cases e3 : ((OF F).lt y.1 x.1 && XM.top (OF F) x.1 r) = true
        · rw [if_pos e3]
          exact c hx h
        · rw [if_neg e3]
          exact c hy ih
theorem names_act {F : Fld} : ∀ {l r : List (Str × Int)}, Names F l → Names F r → Names F (XM.act (OF F) l r)
  | [], _, _, h => h
  | x :: l, r, hl, h => by
    rw [XM.act_cons]
    exact names_act (fun z hz => hl z (List.mem_cons_of_mem _ hz)) (names_ins (hl x List.mem_cons_self) h)
def spPiled (K : PySem.W.Frag) (F : Fld) : Sp := fun vs H Q _ => ∃ (t d : Addr) (xs : List V) (steps : List (Str × Int)), vs = [.ref t, .ref d] ∧ TouchAt K H t F ∧ F.Ok ∧ SqT K H d xs ∧ DpAll K H xs (steps.map dStep) ∧ steps.length ≤ 500 ∧ Names F steps ∧
  ∀ H' r, Same H H' → Dp K H' (.ref r) (dSteps (XM.act (OF F) steps []).reverse) → Q (.ref r) H'
end
end XB
set_option Elab.async false
set_option linter.all false
set_option maxRecDepth 100000
set_option maxHeartbeats 4000000
namespace XB
open PySem PySem.Spec PyProof.Rows L2
section
variable {P : Program} {w : World} {K : PySem.W.Frag} {mg : Str → Option Value} {base : Heap}
theorem GoodScript.names {F : Fld} {l : List (Str × Int)} (g : GoodScript F l) : Names F l := fun s hs => (g.2 s hs).1
theorem GoodScript.nz {F : Fld} {l : List (Str × Int)} (g : GoodScript F l) : XM.NZ l := fun s hs => (g.2 s hs).2.1
/-- a field and a script -/
def FS (K : PySem.W.Frag) (F : Fld) (l : List (Str × Int)) (vs : List V) (H : Hp) : Prop := ∃ (a d : Addr), vs = [.ref a, .ref d] ∧ Dp K H (.ref a) (dField F) ∧ F.Ok ∧ Dp K H (.ref d) (dSteps l) ∧ GoodScript F l
def spLeastPile (K : PySem.W.Frag) (F : Fld) : Sp := fun vs H Q _ => ∃ l, FS K F l vs H ∧ ∀ H' r, Same H H' → Dp K H' (.ref r) (dSteps (XM.act (OF F) l []).reverse) → Q (.ref r) H'
def lenOf (l : List (Str × Int)) : Int := (l.map fun s => if s.2 < 0 then -s.2 else s.2).sum
def spLengthOf (K : PySem.W.Frag) : Sp := fun vs H Q _ => ∃ (a : Addr) (xs : List V) (l : List (Str × Int)), vs = [.ref a] ∧ SqT K H a xs ∧ DpAll K H xs (l.map dStep) ∧ l.length ≤ 500 ∧ ∀ H', Same H H' → Q (.int (lenOf l)) H'
theorem act_len0 {F : Fld} {l : List (Str × Int)} : (XM.act (OF F) l []).length ≤ l.length := by
  have := XM.act_len (O := OF F) (l := l) (r := [])
  rw [List.length_nil] at this
  omega
def spLength (K : PySem.W.Frag) (F : Fld) : Sp := fun vs H Q _ => ∃ l, FS K F l vs H ∧ ∀ H', Same H H' → Q (.int (lenOf (XM.act (OF F) l []).reverse)) H'
def spIsPile (K : PySem.W.Frag) (F : Fld) : Sp := fun vs H Q _ => ∃ l, FS K F l vs H ∧ ∀ H', Same H H' → Q (.bl (decide ((XM.act (OF F) l []).length = l.length))) H'
def spBack (K : PySem.W.Frag) : Sp := fun vs H Q _ => ∃ (a : Addr) (l : List (Str × Int)), vs = [.ref a] ∧ Dp K H (.ref a) (dSteps l) ∧ l.length ≤ 500 ∧ ∀ H' r, Same H H' → Dp K H' (.ref r) (dSteps (XM.back l)) → Q (.ref r) H'
theorem names_back {F : Fld} {l : List (Str × Int)} (h : Names F l) : Names F (XM.back l) := fun s hs => by
  unfold XM.back at hs
  obtain ⟨x, hx, rfl⟩ := List.mem_map.mp (List.mem_reverse.mp hs)
  exact h x hx
def spTakenBack (K : PySem.W.Frag) (F : Fld) : Sp := fun vs H Q _ => ∃ l, FS K F l vs H ∧ ∀ H' r, Same H H' → Dp K H' (.ref r) (dSteps (XM.act (OF F) (XM.back l) []).reverse) → Q (.ref r) H'
end
end XB
set_option Elab.async false
set_option linter.all false
set_option maxRecDepth 100000
set_option maxHeartbeats 4000000
namespace XM
theorem frs_snoc {α : Type} [DecidableEq α] {O : Ord α} {x : α × Int} : ∀ {l bar : Row α}, frs O bar (l ++ [x]) = frs O bar l ++ (if (bar ++ l).all (fun w => !O.tc w.1 x.1) then [x.1] else [])
  | [], bar => by
    show (if _ then _ else _) = _
    rw [List.append_nil]
    cases bar.all (fun w => !O.tc w.1 x.1) <;> rfl
  | y :: l, bar => by
    have ih := frs_snoc (O := O) (x := x) (l := l) (bar := bar ++ [y])
    rw [List.append_assoc, List.singleton_append] at ih
    show (if _ then y.1 :: frs O (bar ++ [y]) (l ++ [x]) else frs O (bar ++ [y]) (l ++ [x])) = (if _ then _ else _) ++ _
    rw [ih]
    cases bar.all (fun w => !O.tc w.1 y.1) <;> rfl
end XM
namespace XB
open PySem PySem.Spec PyProof.Rows L2
section
variable {P : Program} {w : World} {K : PySem.W.Frag} {mg : Str → Option Value} {base : Heap}
def SrtOf (ns zs : List Str) : Prop := zs.Perm ns ∧ sortedS zs = true
theorem frs_len {F : Fld} : ∀ {l bar : List (Str × Int)}, (XM.frs (OF F) bar l).length ≤ l.length
  | [], _ => Nat.le_refl _
  | x :: l, bar => by
    have ih := frs_len (F := F) (l := l) (bar := bar ++ [x])
    unfold XM.frs
    split
    · rw [List.length_cons, List.length_cons]
      omega
    · rw [List.length_cons]
      omega
theorem barred_all {F : Fld} (ok : F.Ok) {n : Str} (hn : n ∈ F.names) (l : List (Str × Int)) : (!(l.any fun w => (touchL F w.1).contains n)) = l.all fun w => !(OF F).tc w.1 n := by
  induction l with
  | nil => rfl
  | cons y r ih =>
    rw [List.any_cons, List.all_cons, Bool.not_or, ih, mem_touch ok hn, (OF F).symm]
def Bars (H : Hp) (B : Addr) (f : Str → Bool) (m : Nat) : Prop := ∃ kvs : List (Key × V), H B = some (.dK kvs) ∧ kvs.length ≤ m ∧ ∀ n, (valV kvs (.inr n)).isSome = f n
def spFrontNames (K : PySem.W.Frag) (F : Fld) : Sp := fun vs H Q _ => ∃ (t d : Addr) (xs : List V) (l : List (Str × Int)), vs = [.ref t, .ref d] ∧ TouchAt K H t F ∧ F.Ok ∧ SqT K H d xs ∧ DpAll K H xs (l.map dStep) ∧ l.length ≤ 60 ∧ Names F l ∧
  ∀ H' r zs, Same H H' → SrtOf (XM.frs (OF F) [] l) zs → SqT K H' r (zs.map V.str) → Q (.ref r) H'
def spFronts (K : PySem.W.Frag) (F : Fld) : Sp := fun vs H Q _ => ∃ l, FS K F l vs H ∧ ∀ H' r zs, Same H H' → SrtOf (XM.frs (OF F) [] (XM.act (OF F) l []).reverse) zs → SqT K H' r (zs.map V.str) → Q (.ref r) H'
theorem names_rev {F : Fld} {l : List (Str × Int)} (h : Names F l) : Names F l.reverse := fun s hs => h s (List.mem_reverse.mp hs)
def spEnds (K : PySem.W.Frag) (F : Fld) : Sp := fun vs H Q _ => ∃ l, FS K F l vs H ∧ ∀ H' r zs, Same H H' → SrtOf (XM.frs (OF F) [] (XM.act (OF F) l [])) zs → SqT K H' r (zs.map V.str) → Q (.ref r) H'
end
end XB
set_option Elab.async false
set_option linter.all false
set_option maxRecDepth 100000
set_option maxHeartbeats 4000000
/-! rules of rows, lists or tuples -/
namespace XB
open PySem PySem.Spec PyProof.Rows L2
section
variable {P : Program} {w : World} {K : PySem.W.Frag} {mg : Str → Option Value} {base : Heap}
def spLawApart (K : PySem.W.Frag) : Sp := fun vs H Q _ => ∃ (a : Addr) (F : Fld) (x y : Str), vs = [.ref a, .str x, .str y] ∧ Dp K H (.ref a) (dField F) ∧ F.Ok ∧ x ∈ F.names ∧ y ∈ F.names ∧ ∀ H', Same H H' → Q (.bl (apart F x y)) H'
theorem c__law_apart (T : Tx K mg) : Cl P w K mg base CX0 1 "_law_apart" (spLawApart K) := by
  refine cl0 T.d__law_apart (ps := ["field", "one", "other"]) (fun _ _ _ _ _ _ us hl => match us, hl with | [_, _, _], _ => rfl) sc__law_apart (fun vs H Q E h => ?_) (fun f cdv A outer st H vs Q E hr h => ?_)
  · obtain ⟨a, F, x, y, rfl, _⟩ := h
    rfl
  · obtain ⟨a, F, x, y, rfl, hF, ok, mx, my, q⟩ := h
    have hu := u65 hr
    refine ⟨_, pss_one (ps_ret (pe_or (pe_cmpR (op_inDTk (K := K) rfl hu) (pe_tup (pa_cons (pv 1) (pa_cons (pv 2) pa_nil))) (pe_ix ix_tup (pv 0) pe_int (fun _ _ => rfl)) (by rfl))
      (pe_one (pe_cmpR (op_inDTk (K := K) rfl hu) (pe_tup (pa_cons (pv 2) (pa_cons (pv 1) pa_nil))) (pe_ix ix_tup (pv 0) pe_int (fun _ _ => rfl)) (by rfl))))), ?_⟩
    have go : ∀ (H1 : Hp) (u v : Str), Same H H1 → u ∈ F.names → v ∈ F.names → ∀ T1, H1 T1 = none → ∃ p n, SqT K (upd H1 T1 (.tup [.str u, .str v])) a [.ref n, .ref p] ∧ Dp K (upd H1 T1 (.tup [.str u, .str v])) (.ref p) (.tuple (F.pairs.map dPair)) ∧ Dp K (upd H1 T1 (.tup [.str u, .str v])) (.ref T1) (dPair (u, v)) := fun H1 u v s1 mu mv T1 h1 => by
      obtain ⟨_, n, p, ps, e, hA, hN, hP, hD⟩ := (Dp.tk (Tk.of (same_new (o := .tup [.str u, .str v]) s1 h1)) _ (flat_field F) hF).field
      cases e
      exact ⟨p, n, hA, .tup hP hD, .tup (SqT.of upd_same) (.cons (.str _) (.cons (.str _) .nil))⟩
    refine ⟨_, rfl, _, rfl, (show 2 ≤ sizeLine by decide), fun T1 h1 => ?_⟩
    obtain ⟨p, n, g1, g2, g3⟩ := go H x y (Same.refl _) mx my T1 h1
    refine ⟨_, rfl, a, _, 1, .ref p, rfl, rfl, g1, rfl, dPair (x, y), _, g3, g2, sh_pair (ok.sgn _ mx) (ok.sgn _ my), sh_pairs ok.good, _, rfl, ?_⟩
    rw [any_pairs]
    have q : ∀ H', Same H H' → Q (.bl (F.pairs.contains (x, y) || F.pairs.contains (y, x))) H' := q
    cases hc : F.pairs.contains (x, y)
    · rw [hc] at q
      refine iteF ?_
      have s1 := same_upd (o := .tup [.str x, .str y]) h1
      refine ⟨_, rfl, _, rfl, (show 2 ≤ sizeLine by decide), fun T2 h2 => ?_⟩
      obtain ⟨p, n, g1, g2, g3⟩ := go _ y x s1 my mx T2 h2
      refine ⟨_, rfl, a, _, 1, .ref p, rfl, rfl, g1, rfl, dPair (y, x), _, g3, g2, sh_pair (ok.sgn _ my) (ok.sgn _ mx), sh_pairs ok.good, ?_⟩
      rw [any_pairs]
      exact q _ (same_new s1 h2)
    · rw [hc] at q
      exact iteT (q _ (same_upd h1))
def spLawLength (K : PySem.W.Frag) : Sp := fun vs H Q _ => ∃ (a : Addr) (xs : List V) (l : List (Str × Int)), vs = [.ref a] ∧ SqT K H a xs ∧ DpAll K H xs (l.map dStep) ∧ l.length ≤ 500 ∧ ∀ H', Same H H' → Q (.int (lenOf l)) H'
end
end XB
set_option Elab.async false
set_option linter.all false
set_option maxRecDepth 100000
set_option maxHeartbeats 4000000
namespace XB
open PySem PySem.Spec PyProof.Rows L2
section
variable {P : Program} {w : World} {K : PySem.W.Frag} {mg : Str → Option Value} {base : Heap}
def spLawBack (K : PySem.W.Frag) : Sp := fun vs H Q _ => ∃ (a : Addr) (l : List (Str × Int)), vs = [.ref a] ∧ Dp K H (.ref a) (dSteps l) ∧ l.length ≤ 500 ∧ ∀ H' r, Same H H' → Dp K H' (.ref r) (dSteps (XM.back l)) → Q (.ref r) H'
/-- whether the step there can stand first -/
def free1 (F : Fld) (l : List (Str × Int)) (k : Nat) : Bool := match l[k]? with
  | some s => (l.take k).all fun y => !(OF F).tc y.1 s.1
  | none => false
def firstsL (F : Fld) (l : List (Str × Int)) (n : Nat) : List Nat := (List.range n).filter (free1 F l)
theorem firsts_snoc {F : Fld} {l : List (Str × Int)} {n : Nat} : firstsL F l (n + 1) = firstsL F l n ++ (if free1 F l n then [n] else []) := by
  unfold firstsL
  rw [List.range_succ, List.filter_append]
  congr 1
  cases h : free1 F l n <;> simp [h]
theorem firsts_len {F : Fld} {l : List (Str × Int)} {n : Nat} : (firstsL F l n).length ≤ n := by
  have := List.length_filter_le (free1 F l) (List.range n)
  rw [List.length_range] at this
  exact this
def spLawFirst (K : PySem.W.Frag) : Sp := fun vs H Q _ => ∃ (a p : Addr) (F : Fld) (xs : List V) (l : List (Str × Int)), vs = [.ref a, .ref p] ∧ Dp K H (.ref a) (dField F) ∧ F.Ok ∧ SqX K H p xs ∧ DpAll K H xs (l.map dStep) ∧ Names F l ∧ l.length ≤ 60 ∧
  ∀ H' r, Same H H' → H' r = some (.lst ((firstsL F l l.length).map fun k => V.int (k : Nat))) → H r = none → Q (.ref r) H'
end
end XB
set_option Elab.async false
set_option linter.all false
set_option maxRecDepth 100000
set_option maxHeartbeats 4000000
namespace XB
open PySem PySem.Spec PyProof.Rows L2
def up (n : Nat) (o : Option (Nat × Nat)) : Option (Nat × Nat) := o.map fun p => (p.1 + n, p.2 + n)
theorem met_none {F : Fld} {l : List (Str × Int)} {k : Nat} {s : Str × Int} (hs : l[k]? = some s) (h : XM.near (OF F) s.1 (l.drop (k + 1)) = none) : up k (XM.met (OF F) (l.drop k)) = up (k + 1) (XM.met (OF F) (l.drop (k + 1))) := by
  rw [drop_at hs]
  show up k (match XM.near (OF F) s.1 (l.drop (k + 1)) with
    | some d => some (0, d + 1)
    | none => (XM.met (OF F) (l.drop (k + 1))).map fun p => (p.1 + 1, p.2 + 1)) = _
  rw [h]
  unfold up
  rw [Option.map_map]
  congr 1
  funext p
  show (p.1 + 1 + k, p.2 + 1 + k) = (p.1 + (k + 1), p.2 + (k + 1))
  rw [Nat.add_assoc, Nat.add_assoc, Nat.add_comm 1 k]
theorem met_here {F : Fld} {l : List (Str × Int)} {k d : Nat} {s : Str × Int} (hs : l[k]? = some s) (h : XM.near (OF F) s.1 (l.drop (k + 1)) = some d) : up k (XM.met (OF F) (l.drop k)) = some (k, k + 1 + d) := by
  rw [drop_at hs]
  show up k (match XM.near (OF F) s.1 (l.drop (k + 1)) with
    | some d => some (0, d + 1)
    | none => (XM.met (OF F) (l.drop (k + 1))).map fun p => (p.1 + 1, p.2 + 1)) = _
  rw [h]
  show some (0 + k, d + 1 + k) = _
  rw [Nat.zero_add, Nat.add_comm (d + 1) k, Nat.add_comm d 1, Nat.add_assoc]
section
variable {P : Program} {w : World} {K : PySem.W.Frag} {mg : Str → Option Value} {base : Heap}
def metV (K : PySem.W.Frag) (H : Hp) (Q : VK) : Option (Nat × Nat) → Prop
  | none => ∀ H', Same H H' → Q .non H'
  | some p => ∀ H' r, Same H H' → SqT K H' r [.int (p.1 : Nat), .int (p.2 : Nat)] → Q (.ref r) H'
def spLawMet (K : PySem.W.Frag) : Sp := fun vs H Q _ => ∃ (a p : Addr) (F : Fld) (xs : List V) (l : List (Str × Int)), vs = [.ref a, .ref p] ∧ Dp K H (.ref a) (dField F) ∧ F.Ok ∧ SqX K H p xs ∧ DpAll K H xs (l.map dStep) ∧ Names F l ∧ l.length ≤ 60 ∧
  metV K H Q (XM.met (OF F) l)
end
end XB
set_option Elab.async false
set_option linter.all false
set_option maxRecDepth 100000
set_option maxHeartbeats 4000000
namespace XB
open PySem PySem.Spec PyProof.Rows L2
theorem cut_mid (xs : List V) {i j : Nat} (h1 : i ≤ j) (h2 : j ≤ xs.length) : cutV xs (some (i : Int)) (some (j : Int)) = (xs.drop i).take (j - i) := by
  unfold cutV
  rw [HT.sIx_nat, HT.sIx_nat, Nat.min_eq_left h2, Nat.min_eq_left (Nat.le_trans h1 h2)]
def melt {α : Type} (l : List α) (x : List α) (i j : Nat) : List α := l.take i ++ x ++ ((l.drop (i + 1)).take (j - (i + 1)) ++ l.drop (j + 1))
theorem melt_step {F : Fld} {l : List (Str × Int)} {i j : Nat} (h : XM.met (OF F) l = some (i, j)) (hZ : XM.NZ l) (hN : Names F l) :
    ∃ a s t, l[i]? = some (a, s) ∧ l[j]? = some (a, t) ∧ i < j ∧ j < l.length ∧ ∀ x, x = (if s + t = 0 then [] else [(a, s + t)]) →
      XM.NZ (melt l x i j) ∧ Names F (melt l x i j) ∧ XM.act (OF F) (melt l x i j) [] = XM.act (OF F) l [] ∧ (melt l x i j).length < l.length := by
  obtain ⟨u, a, s, m, t, v, e, hi, hj, hm⟩ := XM.met_some h
  have z1 : s ≠ 0 := hZ (a, s) (by rw [e]; simp)
  have z2 : t ≠ 0 := hZ (a, t) (by rw [e]; simp)
  refine ⟨a, s, t, ?_, ?_, by omega, ?_, fun x hx => ?_⟩
  · rw [e, List.getElem?_append_right (by omega), hi, Nat.sub_self]
    rfl
  · rw [e, List.getElem?_append_right (by omega), show j - u.length = m.length + 1 by omega, List.getElem?_cons_succ, List.getElem?_append_right (by omega), Nat.sub_self]
    rfl
  · rw [e]
    simp
    omega
  · have em : melt l x i j = u ++ (x ++ (m ++ v)) := by
      unfold melt
      have e1 : l.take i = u := by
        rw [e, ← hi, List.take_left']
        rfl
      have e2 : l.drop (i + 1) = m ++ (a, t) :: v := by
        rw [e, ← hi, List.drop_append, List.drop_of_length_le (by omega)]
        rw [show u.length + 1 - u.length = 1 by omega]
        rfl
      have e3 : l.drop (j + 1) = v := by
        have : l.drop (j + 1) = (l.drop (i + 1)).drop (m.length + 1) := by
          rw [List.drop_drop]
          congr 1
          omega
        rw [this, e2, List.drop_append, List.drop_of_length_le (by omega), show m.length + 1 - m.length = 1 by omega]
        rfl
      rw [e1, e2, e3, show j - (i + 1) = m.length by omega, List.take_left' rfl, List.append_assoc]
    have nx : XM.NZ x := by
      rw [hx]
      intro y hy
      by_cases h0 : s + t = 0
      · rw [if_pos h0] at hy
        cases hy
      · rw [if_neg h0] at hy
        rw [List.mem_singleton.mp hy]
        exact h0
    have zl := hZ
    rw [e] at zl
    have zu : XM.NZ u := fun y hy => zl y (by simp [hy])
    have zm : XM.NZ m := fun y hy => zl y (by simp [hy])
    have zv : XM.NZ v := fun y hy => zl y (by simp [hy])
    have nl := hN
    rw [e] at nl
    rw [em]
    refine ⟨zu.app (nx.app (zm.app zv)), fun y hy => ?_, ?_, ?_⟩
    · rw [List.mem_append, List.mem_append, List.mem_append] at hy
      rcases hy with hy | hy | hy | hy
      · exact nl y (by simp [hy])
      · rw [hx] at hy
        by_cases h0 : s + t = 0
        · rw [if_pos h0] at hy
          cases hy
        · rw [if_neg h0] at hy
          rw [List.mem_singleton.mp hy]
          exact nl (a, s) (by simp)
      · exact nl y (by simp [hy])
      · exact nl y (by simp [hy])
    · rw [e, hx]
      exact (XM.act_meet (O := OF F) hm z1 z2 zu zm (show XM.NF (OF F) [] from trivial)).symm
    · rw [e, hx]
      by_cases h0 : s + t = 0
      · rw [if_pos h0]
        simp
        try omega
      · rw [if_neg h0]
        simp
        try omega
section
variable {P : Program} {w : World} {K : PySem.W.Frag} {mg : Str → Option Value} {base : Heap}
def spLawPile (K : PySem.W.Frag) (F : Fld) : Sp := fun vs H Q _ => ∃ (a p : Addr) (xs : List V) (l : List (Str × Int)), vs = [.ref a, .ref p] ∧ Dp K H (.ref a) (dField F) ∧ F.Ok ∧ SqT K H p xs ∧ DpAll K H xs (l.map dStep) ∧ Names F l ∧ XM.NZ l ∧ l.length ≤ 60 ∧
  ∀ H' r l', Same H H' → Row1 K H' r l' → H r = none → Names F l' → XM.NZ l' → XM.pl (OF F) l' = true → XM.act (OF F) l' [] = XM.act (OF F) l [] → l'.length ≤ l.length → Q (.ref r) H'
/-- what _law_met has answered -/
def SpotV (K : PySem.W.Frag) (H : Hp) (z : V) : Option (Nat × Nat) → Prop
  | none => z = .non
  | some p => ∃ t, z = .ref t ∧ SqT K H t [.int (p.1 : Nat), .int (p.2 : Nat)]
theorem metV_of {H : Hp} {Q : VK} {o : Option (Nat × Nat)} (h : ∀ H' z, Same H H' → SpotV K H' z o → Q z H') : metV K H Q o := by
  cases o with
  | none => exact fun H' s => h H' .non s rfl
  | some p => exact fun H' r s hs => h H' (.ref r) s ⟨r, rfl, hs⟩
def PileInv (K : PySem.W.Frag) (F : Fld) (H : Hp) (a p : Addr) (l : List (Str × Int)) : Nat → L2.St → Hp → Prop := fun m σ H2 => ∃ (D : Addr) (ys : List V) (l' : List (Str × Int)) (z : V) (y4 y5 y6 y7 : Option V), m = l'.length ∧ σ = [some (.ref a), some (.ref p), some (.ref D), some z, y4, y5, y6, y7] ∧ Same H H2 ∧ H2 D = some (.lst ys) ∧ DpAll K H2 ys (l'.map dStep) ∧ H D = none ∧
        Names F l' ∧ XM.NZ l' ∧ XM.act (OF F) l' [] = XM.act (OF F) l [] ∧ l'.length ≤ l.length ∧ SpotV K H2 z (XM.met (OF F) l')
end
end XB
set_option Elab.async false
set_option linter.all false
set_option maxRecDepth 100000
set_option maxHeartbeats 4000000
namespace XB
open PySem PySem.Spec PyProof.Rows L2
theorem rising_least : ∀ {r : List Str} {x : Str}, risingS x r = true → ∀ y ∈ r, sLt y x = false
  | [], _, _ => fun _ h => nomatch h
  | z :: r, x, h => by
    unfold risingS at h
    rw [Bool.and_eq_true] at h
    have h1 : sLt z x = false := by
      have := h.1
      rw [ltCps_eq] at this
      unfold sLt
      simpa using this
    intro y hy
    rcases List.mem_cons.mp hy with rfl | hy
    · exact h1
    · have h2 := rising_least h.2 y hy
      cases h3 : sLt y x
      · rfl
      · exfalso
        by_cases e : x = z
        · rw [e] at h3
          rw [h3] at h2
          cases h2
        · have h4 : sLt x z = true := sLt_tot z x (fun q => e q.symm) h1
          have := sLt_trans _ _ _ h3 h4
          rw [this] at h2
          cases h2
theorem sorted_head {y0 : Str} {ys : List Str} (h : sortedS (y0 :: ys) = true) : ∀ y ∈ y0 :: ys, sLt y y0 = false := fun y hy => by
  rcases List.mem_cons.mp hy with rfl | hy
  · exact sLt_irr _
  · exact rising_least h y hy
def nm1 (l : List (Str × Int)) (k : Nat) : Str := (l[k]?.map (·.1)).getD ""
theorem nm1_of {l : List (Str × Int)} {k : Nat} {s : Str × Int} (h : l[k]? = some s) : nm1 l k = s.1 := by
  unfold nm1
  rw [h]
  rfl
theorem mem_firsts {F : Fld} {l : List (Str × Int)} {n k : Nat} : k ∈ firstsL F l n ↔ k < n ∧ free1 F l k = true := by
  unfold firstsL
  rw [List.mem_filter, List.mem_range]
theorem firsts_at {F : Fld} {l : List (Str × Int)} {k : Nat} (h : k ∈ firstsL F l l.length) : ∃ s, l[k]? = some s ∧ ∀ y ∈ l.take k, (OF F).tc y.1 s.1 = false := by
  obtain ⟨h1, h2⟩ := mem_firsts.mp h
  have hs : l[k]? = some l[k] := List.getElem?_eq_getElem h1
  refine ⟨_, hs, fun y hy => ?_⟩
  unfold free1 at h2
  rw [hs] at h2
  have := List.all_eq_true.mp h2 y hy
  simpa using this
theorem least_first {F : Fld} {l : List (Str × Int)} {ys : List Str} {y0 : Str} (hP : (y0 :: ys).Perm ((firstsL F l l.length).map (nm1 l))) (hS : sortedS (y0 :: ys) = true) {k : Nat} (hk : k ∈ firstsL F l l.length) (hn : nm1 l k = y0) :
    ∃ s, l[k]? = some s ∧ s.1 = y0 ∧ l = l.take k ++ s :: l.drop (k + 1) ∧ XM.LeastFirst (OF F) (l.take k) s (l.drop (k + 1)) := by
  obtain ⟨s, hs, hf⟩ := firsts_at hk
  have e1 : s.1 = y0 := by rw [← hn, nm1_of hs]
  have e2 : l = l.take k ++ s :: l.drop (k + 1) := by
    rw [← drop_at hs, List.take_append_drop]
  refine ⟨s, hs, e1, e2, hf, fun p' z q' e hp hz => ?_⟩
  rw [← e2] at e
  have hz' : l[p'.length]? = some z := by
    rw [e, List.getElem?_append_right (Nat.le_refl _), Nat.sub_self]
    rfl
  have m : p'.length ∈ firstsL F l l.length := by
    refine mem_firsts.mpr ⟨(List.getElem?_eq_some_iff.mp hz').1, ?_⟩
    unfold free1
    rw [hz']
    show (l.take p'.length).all _ = true
    rw [e, List.take_left' rfl, List.all_eq_true]
    intro w hw
    rw [hp w hw]
    rfl
  have m2 : z.1 ∈ y0 :: ys := hP.symm.subset (List.mem_map.mpr ⟨_, m, nm1_of hz'⟩)
  have := sorted_head hS _ m2
  show sLt s.1 z.1 = true
  rw [e1]
  exact sLt_tot _ _ (fun q => hz (by rw [q, e1])) this
theorem firsts_some {F : Fld} {l : List (Str × Int)} (h : l ≠ []) : 0 ∈ firstsL F l l.length := by
  cases l with
  | nil => exact absurd rfl h
  | cons x r => exact mem_firsts.mpr ⟨by simp, rfl⟩
/-- what stands fast while the least pile is drawn from a pile -/
structure LInv (F : Fld) (l fl ll : List (Str × Int)) : Prop where
  srt : XM.Srt (OF F) fl ll
  pl : XM.pl (OF F) (fl ++ ll) = true
  nf : XM.NZ fl
  nl : XM.NZ ll
  act : XM.act (OF F) (fl ++ ll) [] = XM.act (OF F) l []
  nm : Names F ll
  len : fl.length + ll.length ≤ 60
theorem LInv.step {F : Fld} {l fl p q : List (Str × Int)} {s : Str × Int} (I : LInv F l fl (p ++ s :: q)) (L : XM.LeastFirst (OF F) p s q) : LInv F l (fl ++ [s]) (p ++ q) := by
  have zs : s.2 ≠ 0 := I.nl s (by simp)
  have zp : XM.NZ p := fun y hy => I.nl y (by simp [hy])
  have zq : XM.NZ q := fun y hy => I.nl y (by simp [hy])
  refine ⟨I.srt.step L, ?_, I.nf.app fun y hy => by rw [List.mem_singleton.mp hy]; exact zs, zp.app zq, ?_, fun y hy => I.nm y ?_, ?_⟩
  · rw [List.append_assoc, List.singleton_append, ← XM.pl_move L.free]
    exact I.pl
  · rw [List.append_assoc, List.singleton_append, ← XM.act_move L.free I.nf zp (show XM.NF (OF F) [] from trivial)]
    exact I.act
  · rw [List.mem_append] at hy
    rcases hy with h | h <;> simp [h]
  · have := I.len
    simp at this ⊢
    omega
theorem LInv.done {F : Fld} {l fl : List (Str × Int)} (I : LInv F l fl []) : (XM.act (OF F) l []).reverse = fl := by
  have h := I.pl
  have nf : XM.NF (OF F) fl.reverse := XM.nf_of (left := []) _ fl rfl I.srt h I.nf
  have a := XM.act_fix nf
  rw [List.reverse_reverse] at a
  have := I.act
  rw [List.append_nil, a] at this
  rw [← this, List.reverse_reverse]
theorem lay_steps : ∀ {l : List (Str × Int)}, (∀ s ∈ l, GoodName s.1) → PyData.canLayAll0 (l.map dStep) = true
  | [], _ => rfl
  | s :: l, h => by
    rw [List.map_cons, PyData.canLayAll0, lay_steps fun x hx => h x (List.mem_cons_of_mem _ hx)]
    show (PyData.canLay0 (.tuple [.str s.1, .int s.2]) && true) = true
    simp [PyData.canLay0, PyData.canLayAll0, strOk_of (h s List.mem_cons_self)]
theorem deep_steps : ∀ l : List (Str × Int), PyData.depthAll (l.map dStep) ≤ 2
  | [] => by decide
  | s :: l => by
    rw [List.map_cons, PyData.depthAll]
    have := deep_steps l
    have e : (dStep s).depth ≤ 2 := by
      show PyData.depth (.tuple [.str s.1, .int s.2]) ≤ 2
      simp [PyData.depth, PyData.depthAll]
    omega
theorem sh_steps {l : List (Str × Int)} (h : ∀ s ∈ l, GoodName s.1) : SeqAt.shaped (.list (l.map dStep)) = true := by
  have h2 := deep_steps l
  show (PyData.canLayAll0 (l.map dStep) && decide (PyData.depthAll (l.map dStep) + 1 ≤ 64)) = true
  rw [lay_steps h, Bool.true_and]
  exact decide_eq_true (by omega)
theorem ne_steps (l : List (Str × Int)) : PyData.eqv (.list (l.map dStep)) (.list []) = l.isEmpty := by
  cases l <;> rfl
end XB
set_option Elab.async false
set_option linter.all false
set_option maxRecDepth 100000
set_option maxHeartbeats 4000000
namespace XB
open PySem PySem.Spec PyProof.Rows L2
theorem fresh_of {H H1 : Hp} {p : Addr} (s : Same H H1) (h : H1 p = none) : H p = none := by
  cases e : H p with
  | none => rfl
  | some o =>
    rw [s _ _ e] at h
    cases h
theorem nat_at {ns : List Nat} {i : Nat} {x : V} (h : (ns.map fun k => V.int (k : Nat))[i]? = some x) : ∃ k, ns[i]? = some k ∧ x = V.int (k : Nat) := by
  rw [List.getElem?_map] at h
  obtain ⟨z, e, rfl⟩ := Option.map_eq_some_iff.mp h
  exact ⟨z, e, rfl⟩
section
variable {P : Program} {w : World} {K : PySem.W.Frag} {mg : Str → Option Value} {base : Heap}
def spLawLeast (K : PySem.W.Frag) (F : Fld) : Sp := fun vs H Q _ => ∃ (a p : Addr) (l : List (Str × Int)), vs = [.ref a, .ref p] ∧ Dp K H (.ref a) (dField F) ∧ F.Ok ∧ Dp K H (.ref p) (dSteps l) ∧ Names F l ∧ XM.NZ l ∧ l.length ≤ 60 ∧
  ∀ H' r, Same H H' → Dp K H' (.ref r) (dSteps (XM.act (OF F) l []).reverse) → Q (.ref r) H'
def LeastInv (K : PySem.W.Frag) (F : Fld) (H : Hp) (a p : Addr) (l : List (Str × Int)) : Nat → L2.St → Hp → Prop := fun m σ H2 => ∃ (D E : Addr) (xs ys : List V) (ll fl : List (Str × Int)) (y4 y5 y6 : Option V), m = ll.length ∧ σ = [some (.ref a), some (.ref p), some (.ref D), some (.ref E), y4, y5, y6] ∧ Same H H2 ∧
  H2 D = some (.lst xs) ∧ DpAll K H2 xs (ll.map dStep) ∧ H D = none ∧ H2 E = some (.lst ys) ∧ DpAll K H2 ys (fl.map dStep) ∧ H E = none ∧ D ≠ E ∧ LInv F l fl ll
end
end XB
set_option Elab.async false
set_option linter.all false
set_option maxRecDepth 100000
set_option maxHeartbeats 4000000
/-! tuples of which it is known that they have no dict of their own: their methods may be called -/
namespace XB
open PySem PySem.Spec PyProof.Rows L2
def SqF (H : Hp) (a : Addr) (xs : List V) : Prop := ∃ o : Obj, H a = some (.frz o (.tup xs)) ∧ o.cls = .type "tuple" ∧ o.dict = none
theorem SqF.sqT {K : PySem.W.Frag} {H : Hp} {a : Addr} {xs : List V} (h : SqF H a xs) : SqT K H a xs := by
  obtain ⟨o, e, _⟩ := h
  exact .inl (.inr ⟨o, e⟩)
theorem SqF.same {H H' : Hp} {a : Addr} {xs : List V} (h : SqF H a xs) (s : Same H H') : SqF H' a xs := by
  obtain ⟨o, e, r⟩ := h
  exact ⟨o, s _ _ e, r⟩
theorem SqF.tk {H H' : Hp} {a : Addr} {xs : List V} (h : SqF H a xs) (t : Tk H H') : SqF H' a xs := by
  obtain ⟨o, e, r⟩ := h
  exact ⟨o, t.z _ _ _ e, r⟩
/-- the names of a field stand so -/
def FNm (K : PySem.W.Frag) (H : Hp) (f : Addr) (F : Fld) : Prop := ∃ n p, SqT K H f [.ref n, .ref p] ∧ SqF H n (F.names.map V.str)
theorem FNm.tk {K : PySem.W.Frag} {H H' : Hp} {f : Addr} {F : Fld} (h : FNm K H f F) (t : Tk H H') : FNm K H' f F := by
  obtain ⟨n, p, h1, h2⟩ := h
  exact ⟨n, p, t.sqT h1, h2.tk t⟩
/-- (e, ..): a new tuple without a dict of its own -/
def tTupF (t : TA) : TE := fun σ H Q => t σ H fun xs H1 => xs.length ≤ sizeLine ∧ ∀ p o, o.cls = .type "tuple" → o.dict = none → H1 p = none → Q (.ref p) (upd H1 p (.frz o (.tup xs)))
def rSlF (K : PySem.W.Frag) : V → Option Int → Option Int → Hp → VK → Prop := fun x lo hi H Q => ∃ a xs, x = .ref a ∧ SqF H a xs ∧ ∀ H' p, Same H H' → SqF H' p (cutV xs lo hi) → Q (.ref p) H'
section
variable {X : Cx} {es : List Expr} {t : TA} {pos : Pos}
theorem pe_tupF {x1} (h : PA X es t) : PE X (.Tuple es x1 pos) (tTupF t) := by
  refine ⟨fun pins s σ H Q I hq => ?_⟩
  refine wpAny_Tuple_spliced (thn (h.run pos pins s σ H _ I hq) fun us s1 ⟨xs, H1, I1, r, z, q⟩ => ⟨by rw [← r.length]; exact z, ?_⟩)
  have hf : H1 s1.heap.objs.size = none := I1.hok.fresh (Nat.le_refl _)
  refine ⟨.ref s1.heap.objs.size, upd H1 s1.heap.objs.size (.frz { cls := .type "tuple", data := .seq us.toArray } (.tup xs)), I1.laid (t' := s1.toks) (fun b u e => Heap.get?_push_of_some _ e) (Nat.le_refl _) ?_, rfl, q _ _ rfl rfl hf⟩
  exact ⟨Heap.get?_push_size _ rfl, z, us, r, ⟨_, Heap.get?_push_size _ rfl, rfl, _, rfl⟩⟩
theorem sl_tupF {K : PySem.W.Frag} (hk : X.K = K) : SlR X (rSlF K) := by
  subst hk
  intro pins s σ H x v vl vu lo hi sl Q I rx hs pl pu h
  obtain ⟨a, xs, rfl, hF, q⟩ := h
  have hx : SqT X.K H a xs := hF.sqT
  cases rx
  obtain ⟨its, r, ht, hz⟩ := I.tuple hx
  have hlen : its.toArray.size = xs.length := by rw [List.size_toArray]; exact r.length.symm
  refine ⟨"tuple", _, PyProof.Rows.slot_tuple_getitem.lookup, ht.typeIs, ?_⟩
  by_cases hw : HT.sIx xs.length 0 lo = 0 ∧ HT.sIx xs.length xs.length hi = xs.length
  · refine getItem_tuple_whole ht hs pl pu (by rw [hlen]; exact hw) ⟨.ref a, H, I, rfl, q H a (Same.refl _) ?_⟩
    have e : cutV xs lo hi = xs := by
      unfold cutV
      rw [hw.1, hw.2]
      simp
    rw [e]
    exact hF
  · refine HT.getItem_tuple_cut ht hs pl pu (by rw [hlen]; exact hw) ?_ (by rw [hlen]; exact hz)
    rw [hlen]
    have hf : H s.heap.objs.size = none := I.hok.fresh (Nat.le_refl _)
    refine ⟨.ref s.heap.objs.size, _, I.laid (t' := s.toks) (o := .frz { cls := .type "tuple", data := .seq ((its.drop (HT.sIx xs.length 0 lo)).take (HT.sIx xs.length xs.length hi - HT.sIx xs.length 0 lo)).toArray } (.tup (cutV xs lo hi))) (fun b ob q => Heap.get?_push_of_some _ q) (Nat.le_refl _) ?_, rfl, q _ _ (same_upd hf) ⟨_, upd_same, rfl, rfl⟩⟩
    exact ⟨Heap.get?_push_size _ rfl, Nat.le_trans (cutV_length xs lo hi) hz, _, (r.drop (HT.sIx xs.length 0 lo)).take (HT.sIx xs.length xs.length hi - HT.sIx xs.length 0 lo), IsTup.new _ _⟩
/-- o.m(e, ..) of such a tuple -/
def tBMF (r : V → List V → Hp → VK → Prop) (to : TE) (t : TA) : TE := fun σ H Q => to σ H fun x H1 => (∃ a xs, x = .ref a ∧ SqF H1 a xs) ∧ t σ H1 fun xs H2 => r x xs H2 Q
variable {o e : Expr} {to : TE} {name : Str} {apos cpos : Pos} {id : String} {r : V → List V → Hp → VK → Prop}
theorem pe_bmF (slot : Slot "tuple" name id) (hty : typeOf (.builtin id) = pure (.type "method_descriptor")) (hm : MtR X id r) (ho : PE X o to) (ha : PA X (e :: es) t)
    (hbase : attributeBase o name X.env (eval o X.env) = eval o X.env := by rfl)
    (hfew : ((backTo cpos (starEach (e :: es) X.env)).all (fun x => !x.1) && (backToKw cpos (keywordEach [] X.env)).all (fun x => x.1.isSome)
      && decide ((e :: es).length + ([] : List Keyword).length + (if ([] : List Keyword).isEmpty then 0 else 1) < 30)) = true := by rfl)
    (hline : (apos.endLine == cpos.line) = true := by rfl) (hs : starEach (e :: es) X.env = (false, eval e X.env) :: starEach es X.env := by rfl) (hplain : (backTo cpos (starEach es X.env)).any (·.1) = false := by rfl) :
    PE X (.Call (.Attribute o name apos) (e :: es) [] cpos) (tBMF r to t) := by
  refine ⟨fun pins s σ H Q I h => ?_⟩
  refine wpAny_Call_method_late hbase hfew hline rfl (thn (ho.run pins s σ H _ I h) fun v s1 ⟨x, H1, I1, r1, ty, q1⟩ => ?_)
  obtain ⟨a, xs, rfl, ob, hH, hc, hd⟩ := ty
  cases r1
  obtain ⟨hg, _⟩ := I1.hok a _ hH
  refine ⟨"tuple", id, PySem.F.plainAttrs_tuple, slot, hty, ⟨ob, hg, hc⟩, fun b e => ?_, ?_⟩
  · cases e
    exact ⟨ob, hg, hd⟩
  · have hA := ha.run cpos pins s1 σ H1 _ I1 q1
    rw [hs] at hA ⊢
    refine Calls.callWith_builtin (by show (false || (backTo cpos (starEach es X.env)).any (·.1)) = false; rw [hplain] <;> rfl) (Calls.evalArgs_plain ?_)
    exact thn hA fun us s2 ⟨vs, H2, I2, r2, q2⟩ => hm pins s2 σ H2 (.ref a) vs _ us Q I2 rfl r2 q2
end
end XB
set_option Elab.async false
set_option linter.all false
set_option maxRecDepth 100000
set_option maxHeartbeats 4000000
namespace XB
open PySem PySem.Spec PyProof.Rows L2
def NL : List Str := ["a", "b", "c", "dd", "e", "f"]
def nmN (i : Nat) : Str := (NL[i]?).getD ""
def fP (n i : Nat) : List (Str × Str) := ((NL.take n).drop (i + 1)).map fun o => (nmN i, o)
def PP (n k : Nat) : List (Str × Str) := (List.range k).flatMap (fP n)
def ltP (p q : Str × Str) : Bool := if p.1 == q.1 then (if p.2 == q.2 then false else sLt p.2 q.2) else sLt p.1 q.1
def pwB {α : Type} (r : α → α → Bool) : List α → Bool
  | [] => true
  | x :: l => l.all (r x) && pwB r l
theorem pw_of {α : Type} {r : α → α → Bool} : ∀ {l : List α}, pwB r l = true → l.Pairwise fun a b => r a b = true
  | [], _ => .nil
  | x :: l, h => by
    unfold pwB at h
    rw [Bool.and_eq_true, List.all_eq_true] at h
    exact .cons h.1 (pw_of h.2)
def goodB (n : Str) : Bool := decide (1 ≤ n.length) && decide (n.length ≤ 6) && n.cps.toList.all fun c => decide (97 ≤ c) && decide (c ≤ 122)
theorem good_of {n : Str} (h : goodB n = true) : GoodName n := by
  unfold goodB at h
  simp only [Bool.and_eq_true, decide_eq_true_eq, List.all_eq_true] at h
  exact ⟨h.1.1, h.1.2, h.2⟩
def okB (n : Nat) : Bool := (PP n n).all (fun p => sLt p.1 p.2 && (NL.take n).contains p.1 && (NL.take n).contains p.2) && pwB ltP (PP n n) && pwB sLt (NL.take n) && (NL.take n).all goodB && decide ((PP n n).length ≤ 100) && decide ((NL.take n).length = n)
theorem okB_all : okB 1 = true ∧ okB 2 = true ∧ okB 3 = true ∧ okB 4 = true ∧ okB 5 = true ∧ okB 6 = true := by decide +kernel
theorem okB_of {n : Nat} (h0 : 1 ≤ n) (h6 : n ≤ 6) : okB n = true := by
  obtain ⟨a, b, c, d, e, f⟩ := okB_all
  rcases n with _ | _ | _ | _ | _ | _ | _ | n
  · omega
  · exact a
  · exact b
  · exact c
  · exact d
  · exact e
  · exact f
  · omega
theorem fld_ok {n : Nat} {ps : List (Str × Str)} (h0 : 1 ≤ n) (h6 : n ≤ 6) (hs : ps.Sublist (PP n n)) : (Fld.mk (NL.take n) ps).Ok := by
  have h := okB_of h0 h6
  unfold okB at h
  simp only [Bool.and_eq_true, decide_eq_true_eq, List.all_eq_true] at h
  obtain ⟨⟨⟨⟨⟨a, b⟩, c⟩, d⟩, e⟩, f⟩ := h
  refine ⟨by show 0 < (NL.take n).length; omega, by show (NL.take n).length ≤ 6; omega, fun p hp => (a p (hs.subset hp)).1.1, fun p hp => ⟨?_, ?_⟩, fun x hx => good_of (d x hx), pw_of c, (pw_of b).sublist hs, Nat.le_trans hs.length_le e⟩
  · have := (a p (hs.subset hp)).1.2
    simpa using this
  · have := (a p (hs.subset hp)).2
    simpa using this
theorem Dr.tk {H H' : Hp} {m c g : Addr} {s : Int} (D : Dr H m c g s) (k : Kp m g H H') : Tk H H' := by
  obtain ⟨⟨cs, gs, em, ec, eg, _⟩, _⟩ := D
  exact ⟨fun b xs e => k b _ (ne_of e em fun q => nomatch q) (ne_of e eg fun q => nomatch q) e, fun b o u e => k b _ (ne_of e em fun q => nomatch q) (ne_of e eg fun q => nomatch q) e⟩
theorem Dr.nm {H : Hp} {m c g : Addr} {s : Int} (D : Dr H m c g s) {p : Addr} (h : H p = none) : p ≠ m ∧ p ≠ c ∧ p ≠ g := by
  obtain ⟨⟨cs, gs, em, ec, eg, _⟩, _⟩ := D
  exact ⟨fun e => (by rw [e, em] at h; cases h), fun e => (by rw [e, ec] at h; cases h), fun e => (by rw [e, eg] at h; cases h)⟩
theorem Dr.same {H H' : Hp} {m c g : Addr} {s : Int} (D : Dr H m c g s) (t : Same H H') : Dr H' m c g s := by
  obtain ⟨⟨cs, gs, em, ec, eg, r⟩, a, b⟩ := D
  exact ⟨⟨cs, gs, t _ _ em, t _ _ ec, t _ _ eg, r⟩, a, b⟩
theorem Dr.put {H : Hp} {m c g D : Addr} {s : Int} {o : HO} (R : Dr H m c g s) (h : D ≠ m ∧ D ≠ c ∧ D ≠ g) : Dr (upd H D o) m c g s := by
  obtain ⟨⟨cs, gs, em, ec, eg, r⟩, a, b⟩ := R
  exact ⟨⟨cs, gs, by rw [upd_ne h.1.symm]; exact em, by rw [upd_ne h.2.1.symm]; exact ec, by rw [upd_ne h.2.2.symm]; exact eg, r⟩, a, b⟩
theorem Kp.put {m g D : Addr} {H H1 : Hp} {o : HO} (k : Kp m g H H1) (h : H D = none) : Kp m g H (upd H1 D o) := fun b u h1 h2 e => by
  rw [upd_ne (ne_of_none e h)]
  exact k b u h1 h2 e
theorem sl_pre {K : PySem.W.Frag} {H : Hp} {a : Addr} {xs : List V} {k : Nat} {Q : VK} (h : SqT K H a xs) (q : ∀ H' p, Same H H' → SqT K H' p (xs.take k) → Q (.ref p) H') : rSlA K (.ref a) none (some (k : Int)) H Q := by
  refine ⟨a, xs, rfl, h, fun hw => q H a (Same.refl _) ?_, fun _ p hp => q _ p (same_upd hp) ?_⟩
  · rw [← cut_init, cut_whole hw]
    exact h
  · rw [← cut_init]
    exact SqT.of upd_same
theorem sl_suf {K : PySem.W.Frag} {H : Hp} {a : Addr} {xs : List V} {k : Nat} {Q : VK} (h : SqT K H a xs) (q : ∀ H' p, Same H H' → SqT K H' p (xs.drop k) → Q (.ref p) H') : rSlA K (.ref a) (some (k : Int)) none H Q := by
  refine ⟨a, xs, rfl, h, fun hw => q H a (Same.refl _) ?_, fun _ p hp => q _ p (same_upd hp) ?_⟩
  · rw [← cut_from, cut_whole hw]
    exact h
  · rw [← cut_from]
    exact SqT.of upd_same
theorem PP_succ (n k : Nat) : PP n (k + 1) = PP n k ++ fP n k := by
  unfold PP
  rw [List.range_succ, List.flatMap_append]
  simp
theorem nl_at {n k : Nat} (h6 : n ≤ 6) (h : k < n) : ((NL.take n).map V.str)[k]? = some (.str (nmN k)) := by
  have hl : k < NL.length := by show k < 6; omega
  rw [List.getElem?_map, List.getElem?_take, if_pos h, List.getElem?_eq_getElem hl]
  unfold nmN
  rw [List.getElem?_eq_getElem hl]
  rfl
theorem nl_len {n : Nat} (h6 : n ≤ 6) : (NL.take n).length = n := by
  rw [List.length_take]
  show min n 6 = n
  omega
/-- pairs in a list of their own -/
def RowP (K : PySem.W.Frag) (H : Hp) (D : Addr) (ps : List (Str × Str)) : Prop := ∃ xs, H D = some (.lst xs) ∧ DpAll K H xs (ps.map dPair)
theorem flat_pairs (ps : List (Str × Str)) : flatAll (ps.map dPair) = true := flatAll_of fun d hd => by
  obtain ⟨y, _, rfl⟩ := List.mem_map.mp hd
  rfl
def FieldInv (K : PySem.W.Frag) (H : Hp) (m c g tn D : Addr) (most ch s : Int) (n : Nat) (all : List (Str × Str)) (b : Nat) (y5 : Option V) : L2.St → Hp → Prop := fun σ H2 => ∃ (y6 : Option V) (s2 : Int) (ps : List (Str × Str)), σ = [some (.ref m), some (.int most), some (.ref tn), some (.ref D), some (.int ch), y5, y6] ∧
  Kp m g H H2 ∧ Dr H2 m c g s2 ∧ s2 ≤ s + 2 + (b : Int) ∧ SqF H2 tn ((NL.take n).map V.str) ∧ RowP K H2 D ps ∧ ps.Sublist all ∧ ps.length ≤ b
section
variable {P : Program} {w : World} {K : PySem.W.Frag} {mg : Str → Option Value} {base : Heap}
def spLawField (K : PySem.W.Frag) : Sp := fun vs H Q _ => ∃ (m c g : Addr) (s most : Int), vs = [.ref m, .int most] ∧ Dr H m c g s ∧ 1 ≤ most ∧ most ≤ 6 ∧ s < 1000000000 ∧
  ∀ H' f F s', Dr H' m c g s' → s' ≤ s + 40 → Kp m g H H' → Dp K H' (.ref f) (dField F) → F.Ok → FNm K H' f F → Q (.ref f) H'
theorem c__law_field (T : Tx K mg) : Cl P w K mg base CX0 3 "_law_field" (spLawField K) := by
  refine cl0 T.d__law_field (ps := ["m", "most"]) (fun _ _ _ _ _ _ us hl => match us, hl with | [_, _], _ => rfl) sc__law_field (fun vs H Q E h => ?_) (fun f cdv A outer st H vs Q E hr h => ?_)
  · obtain ⟨m, c, g, s, most, rfl, _⟩ := h
    rfl
  · obtain ⟨m, c, g, s, most, rfl, R, m1, m6, hs9, q⟩ := h
    have nd := sc__law_field.nd
    refine ⟨_, pss_cons (ps_par (i := 2) (j := 3) rfl nd rfl rfl (by decide) rfl rfl (pa_cons (pe_slice (sl_tupF (K := K) rfl) (pe_tupF (pa_cons pe_str (pa_cons pe_str (pa_cons pe_str (pa_cons pe_str (pa_cons pe_str (pa_cons pe_str pa_nil))))))) po_none (po_some (pe_op op_add pe_int (pe_k (c_draw T) hr (by decide) (by rfl) (pa_cons (pv 0) (pa_cons (pv 1) pa_nil)))))) (pa_cons (pe_lst pa_nil) pa_nil)) rfl)
      (pss_cons (ps_set (i := 4) nd rfl (.inl rfl) (pe_op op_add pe_int (pe_k (c_draw T) hr (by decide) (by rfl) (pa_cons (pv 0) (pa_cons pe_int pa_nil)))))
      (pss_cons (ps_for PassesOwn.never rfl (pi_range1 (by rfl) T.b_range (pa_cons (pe_lenS (by rfl) T.b_len (pv 2)) pa_nil)) (pg_name (i := 5) nd rfl (.inl rfl))
        (pss_one (ps_for PassesOwn.never rfl (pi_tup (pe_slice sl_tupA (pv 2) (po_some (pe_op op_add (pv 5) pe_int)) po_none)) (pg_name (i := 6) nd rfl (.inl rfl))
          (pss_one (ps_if (pt_cmpR op_lt (pe_k (c_draw T) hr (by decide) (by rfl) (pa_cons (pv 0) (pa_cons pe_int pa_nil))) (pv 4) (nomark _))
            (pss_one (ps_expr (pe_bm PySem.F.plainAttrs_list PySem.F.slot_list_append PySem.F.type_list_append mt_append (pv 3) (pa_cons (pe_tup (pa_cons (pe_ix ix_tup (pv 2) (pv 5) (fun _ _ => rfl)) (pa_cons (pv 6) pa_nil))) pa_nil)))) pss_nil)))))
      (pss_one (ps_ret (pe_tup (pa_cons (pv 2) (pa_cons (pe_tupleOf (by rfl) T.b_tuple (pv 3)) pa_nil))))))), ?_⟩
    refine ⟨(show 6 ≤ sizeLine by decide), fun t0 o0 hc0 hd0 ht0 => ?_⟩
    have s1 := same_upd (o := .frz o0 (.tup [.str "a", .str "b", .str "c", .str "dd", .str "e", .str "f"])) ht0
    have e1 : SqF (upd H t0 (.frz o0 (.tup [.str "a", .str "b", .str "c", .str "dd", .str "e", .str "f"]))) t0 (NL.map V.str) := ⟨o0, upd_same, hc0, hd0⟩
    generalize upd H t0 (.frz o0 (.tup [.str "a", .str "b", .str "c", .str "dd", .str "e", .str "f"])) = H1 at s1 e1 ⊢
    refine noPart ?_
    refine ⟨_, rfl, _, rfl, m, c, g, s, most, rfl, R.same s1, by omega, by omega, by omega, fun r H2 r0 r1 R2 k2 => ?_⟩
    obtain ⟨n, hn⟩ : ∃ n : Nat, 1 + r = (n : Int) := ⟨(1 + r).toNat, by omega⟩
    have n1 : 1 ≤ n := by omega
    have n6 : n ≤ 6 := by omega
    refine ⟨_, _, rfl, rfl, (n : Int), congrArg V.int hn, ?_⟩
    refine ⟨t0, _, rfl, e1.tk ((R.same s1).tk k2), fun H3 tn s3 hN => ⟨Nat.zero_le _, fun D hD => ⟨_, _, rfl, ?_⟩⟩⟩
    rw [cut_init, ← List.map_take] at hN
    have k3 : Kp m g H H3 := ((Kp.of s1).trans k2).trans (Kp.of s3)
    have R3 := R2.same s3
    have nD := R3.nm hD
    have hDH : H D = none := by
      cases e : H D with
      | none => rfl
      | some o =>
        rw [k3 _ _ nD.1 nD.2.2 e] at hD
        cases hD
    have k4 : Kp m g H (upd H3 D (.lst [])) := k3.put hDH
    have R4 := R3.put (o := .lst []) nD
    have hN4 := hN.tk (Tk.of (same_upd (o := .lst []) hD))
    have eD4 : upd H3 D (.lst []) D = some (.lst []) := upd_same
    generalize upd H3 D (.lst []) = H4 at k4 R4 hN4 eD4 ⊢
    refine ⟨_, rfl, m, c, g, s + 1, 3, rfl, R4, by omega, by omega, by omega, fun rc H5 c0 c1 R5 k5 => ⟨_, _, rfl, rfl, ?_⟩⟩
    have eD5 := k5 _ _ nD.1 nD.2.2 eD4
    have hN5 := hN4.tk (R4.tk k5)
    have k5 := k4.trans k5
    have hl : ((NL.take n).map V.str).length = n := by rw [List.length_map, nl_len n6]
    refine ⟨_, rfl, tn, _, rfl, .inr hN5.sqT, _, rfl, by rw [hl]; omega, by rw [hl]; omega, ?_⟩
    rw [hl]
    refine for_range (lo := 0) (n := n) (fun k σ H2 => ∃ y5, FieldInv K H m c g tn D most (1 + rc) s n (PP n k) (6 * k) y5 σ H2)
      ⟨none, none, s + 1 + 1, [], rfl, k5, R5, by omega, hN5, ⟨[], eD5, .nil⟩, List.nil_sublist _, Nat.zero_le _⟩ (fun k σ H6 hk ⟨y5, y6, s2, ps, eσ, k6, R6, hs6, hN6, ⟨xs, eD6, hX⟩, hsub, hpl⟩ => ?_) (fun σ H6 ⟨y5, y6, s2, ps, eσ, k6, R6, hs6, hN6, ⟨xs, eD6, hX⟩, hsub, hpl⟩ => ?_)
    · subst eσ
      rw [Int.zero_add]
      refine ⟨_, rfl, _, rfl, _, _, rfl, rfl, ((k + 1 : Nat) : Int), rfl, ?_⟩
      refine noPart ?_
      refine sl_suf hN6.sqT fun H7 u s7 hU => ⟨u, rfl, ⟨_, hU⟩, ?_⟩
      rw [← List.map_drop] at hU
      have hlu : (((NL.take n).drop (k + 1)).map V.str).length = n - (k + 1) := by rw [List.length_map, List.length_drop, nl_len n6]
      refine for_it (walk_tup (xs := ((NL.take n).drop (k + 1)).map V.str)) (fun j σ H2 => FieldInv K H m c g tn D most (1 + rc) s n (PP n k ++ (fP n k).take j) (6 * k + j) (some (.int (k : Nat))) σ H2 ∧ SqT K H2 u (((NL.take n).drop (k + 1)).map V.str))
        ⟨⟨y6, s2, ps, rfl, k6.trans (Kp.of s7), R6.same s7, by omega, hN6.tk (Tk.of s7), ⟨xs, s7 _ _ eD6, DpAll.tk (Tk.of s7) _ (flat_pairs ps) hX⟩, by simpa using hsub, by omega⟩, hU⟩ (fun j σ H2 _ h => h.2) (fun j x σ H8 H9 hj ⟨⟨y6, s2, ps, eσ, k8, R8, hs8, hN8, ⟨xs, eD8, hX⟩, hsub, hpl⟩, hU⟩ hy => ?_) (fun σ H8 ⟨⟨y6, s2, ps, eσ, k8, R8, hs8, hN8, ⟨xs, eD8, hX⟩, hsub, hpl⟩, hU⟩ => ?_)
      · obtain ⟨rfl, hx⟩ := hy
        subst eσ
        obtain ⟨o, ho, rfl⟩ := str_at hx
        rw [hlu] at hj
        refine ⟨_, rfl, m, c, g, s2, 4, rfl, R8, by omega, by omega, by omega, fun rr H10 q0 q1 R10 k10 => ?_⟩
        have t10 := R8.tk k10
        have eD10 := k10 _ _ nD.1 nD.2.2 eD8
        have hX10 := DpAll.tk t10 _ (flat_pairs ps) hX
        have hlx := hX.len
        rw [List.length_map] at hlx
        have ex : (fP n k).take (j + 1) = (fP n k).take j ++ [(nmN k, o)] := take_snoc (by unfold fP; rw [List.getElem?_map, ho]; rfl)
        refine ⟨_, rfl, _, _, rfl, rfl, _, rfl, ?_⟩
        cases decide (rr < 1 + rc)
        · refine iteF ⟨⟨_, s2 + 1, ps, rfl, k8.trans k10, R10, by omega, hN8.tk t10, ⟨xs, eD10, hX10⟩, ?_, by omega⟩, t10.sqT hU⟩
          rw [ex, ← List.append_assoc]
          exact hsub.trans (List.sublist_append_left _ _)
        · refine iteT ⟨_, rfl, Or.inl ⟨rfl, _, SqL.of eD10⟩, _, rfl, _, rfl, _, _, _, _, rfl, rfl, (hN8.tk t10).sqT, at_of (j := k) rfl (nl_at n6 hk), _, rfl, (show 2 ≤ sizeLine by decide), fun T hT => ?_⟩
          have sT := same_upd (o := .tup [.str (nmN k), .str o]) hT
          have eDT := sT _ _ eD10
          have tT : Tk H10 (upd (upd H10 T (.tup [.str (nmN k), .str o])) D (.lst (xs ++ [.ref T]))) := (Tk.of sT).lst eDT
          refine ⟨D, xs, .ref T, rfl, rfl, eDT, small1000 (by omega), ⟨⟨_, s2 + 1, ps ++ [(nmN k, o)], rfl, ((k8.trans k10).trans (Kp.of sT)).put hDH, (R10.same sT).put nD, by omega, (hN8.tk t10).tk tT, ⟨xs ++ [.ref T], upd_same, ?_⟩, ?_, ?_⟩, tT.sqT (t10.sqT hU)⟩⟩
          · rw [List.map_append]
            refine (DpAll.tk tT _ (flat_pairs ps) hX10).app (.cons (.tup ?_ (.cons (.str _) (.cons (.str _) .nil))) .nil)
            exact (Tk.refl.lst eDT).sqT (SqT.of upd_same)
          · rw [ex, ← List.append_assoc]
            exact hsub.append (List.Sublist.refl _)
          · rw [List.length_append]
            simp
            omega
      · subst eσ
        rw [hlu] at hsub hs8 hpl
        have hf : (fP n k).take (n - (k + 1)) = fP n k := List.take_of_length_le (by unfold fP; rw [List.length_map, List.length_drop, nl_len n6]; exact Nat.le_refl _)
        rw [hf, ← PP_succ] at hsub
        exact ⟨_, y6, s2, ps, rfl, k8, R8, by omega, hN8, ⟨xs, eD8, hX⟩, hsub, by omega⟩
    · subst eσ
      refine ⟨_, rfl, _, rfl, .inl ⟨D, xs, rfl, SqL.of eD6, fun u hu => ⟨(show 2 ≤ sizeLine by decide), fun fa hfa => ?_⟩⟩⟩
      have sA := same_upd (o := .tup xs) hu
      have sB := same_upd (o := .tup [.ref tn, .ref u]) hfa
      refine q _ fa ⟨NL.take n, ps⟩ s2 (R6.same (sA.trans sB)) (by omega) (k6.trans (Kp.of (sA.trans sB))) ?_ (fld_ok n1 n6 hsub) ⟨tn, u, SqT.of upd_same, hN6.tk (Tk.of (sA.trans sB))⟩
      refine .tup (SqT.of upd_same) (.cons (.tup (hN6.tk (Tk.of (sA.trans sB))).sqT (DpAll.strs _)) (.cons (.tup ((Tk.of sB).sqT (SqT.of upd_same)) (DpAll.tk (Tk.of (sA.trans sB)) _ (flat_pairs ps) hX)) .nil))
end
end XB
set_option Elab.async false
set_option linter.all false
set_option maxRecDepth 100000
set_option maxHeartbeats 4000000
namespace XB
open PySem PySem.Spec PyProof.Rows L2
def SL : List Int := [1, -1, 1, -1, 2, -2, 3, -3, 1, -1, 6, 10 ^ 30, -(10 ^ 30), 10 ^ 30 - 1]
theorem sl_good {i : Nat} {z : Int} (h : SL[i]? = some z) : GoodTimes z := by
  have : ∀ z ∈ SL, z ≠ 0 ∧ -(10 ^ 30) ≤ z ∧ z ≤ 10 ^ 30 := by decide +kernel
  exact this z (List.mem_of_getElem? h)
section
variable {P : Program} {w : World} {K : PySem.W.Frag} {mg : Str → Option Value} {base : Heap}
def spLawScript (K : PySem.W.Frag) : Sp := fun vs H Q _ => ∃ (m c g f : Addr) (s most : Int) (F : Fld), vs = [.ref m, .ref f, .int most] ∧ Dr H m c g s ∧ Dp K H (.ref f) (dField F) ∧ F.Ok ∧ 0 ≤ most ∧ most ≤ 60 ∧ s < 1000000000 ∧
  ∀ H' r l s', Dr H' m c g s' → s' ≤ s + 2 + 2 * most → Kp m g H H' → Dp K H' (.ref r) (dSteps l) → GoodScript F l → (l.length : Int) ≤ most → Q (.ref r) H'
def ScriptInv (K : PySem.W.Frag) (F : Fld) (H : Hp) (m c g f D S : Addr) (most many s : Int) (b : Nat) : L2.St → Hp → Prop := fun σ H2 => ∃ (y6 : Option V) (s2 : Int) (l : List (Str × Int)), σ = [some (.ref m), some (.ref f), some (.int most), some (.ref D), some (.ref S), some (.int many), y6] ∧
  Kp m g H H2 ∧ Dr H2 m c g s2 ∧ s2 ≤ s + 2 + 2 * (b : Int) ∧ Dp K H2 (.ref f) (dField F) ∧ H2 S = some (.lst (SL.map V.int)) ∧ Row1 K H2 D l ∧ (∀ x ∈ l, x.1 ∈ F.names ∧ GoodTimes x.2) ∧ l.length = b
theorem c__law_script (T : Tx K mg) : Cl P w K mg base CX0 3 "_law_script" (spLawScript K) := by
  refine cl0 T.d__law_script (ps := ["m", "field", "most"]) (fun _ _ _ _ _ _ us hl => match us, hl with | [_, _, _], _ => rfl) sc__law_script (fun vs H Q E h => ?_) (fun fa cdv A outer st H vs Q E hr h => ?_)
  · obtain ⟨m, c, g, f, s, most, F, rfl, _⟩ := h
    rfl
  · obtain ⟨m, c, g, f, s, most, F, rfl, R, hF, ok, m0, m60, hs9, q⟩ := h
    have nd := sc__law_script.nd
    refine ⟨_, pss_cons (ps_par (i := 3) (j := 4) rfl nd rfl rfl (by decide) rfl rfl (pa_cons (pe_lst pa_nil) (pa_cons (pe_lst (pa_cons pe_int (pa_cons (pe_un un_neg pe_int) (pa_cons pe_int (pa_cons (pe_un un_neg pe_int) (pa_cons pe_int (pa_cons (pe_un un_neg pe_int) (pa_cons pe_int (pa_cons (pe_un un_neg pe_int) (pa_cons pe_int (pa_cons (pe_un un_neg pe_int) (pa_cons pe_int
          (pa_cons (pe_op op_pow pe_int pe_int) (pa_cons (pe_un un_neg (pe_op op_pow pe_int pe_int)) (pa_cons (pe_op op_sub (pe_op op_pow pe_int pe_int) pe_int) pa_nil))))))))))))))) pa_nil)) rfl)
      (pss_cons (ps_set (i := 5) nd rfl (.inl rfl) (pe_op op_add pe_int (pe_op op_mul pe_int (pe_callTy call_int1 (by rfl) T.b_int (by decide +kernel) (pa_cons (pe_cmpR op_eq (pe_k (c_draw T) hr (by decide) (by rfl) (pa_cons (pv 0) (pa_cons pe_int pa_nil))) pe_int (nomark _)) pa_nil)))))
      (pss_cons (ps_for PassesOwn.never rfl (pi_range1 (by rfl) T.b_range (pa_cons (pe_k (c_draw T) hr (by decide) (by rfl) (pa_cons (pv 0) (pa_cons (pe_op op_add (pv 2) pe_int) pa_nil))) pa_nil)) (pg_name (i := 6) nd rfl (.inl rfl))
        (pss_one (ps_expr (pe_bm PySem.F.plainAttrs_list PySem.F.slot_list_append PySem.F.type_list_append mt_append (pv 3) (pa_cons (pe_tup (pa_cons
          (pe_ix ix_tup (pe_ix ix_tup (pv 1) pe_int (fun _ _ => rfl)) (pe_k (c_draw T) hr (by decide) (by rfl) (pa_cons (pv 0) (pa_cons (pe_lenS (by rfl) T.b_len (pe_ix ix_tup (pv 1) pe_int (fun _ _ => rfl))) pa_nil))) (fun _ _ => rfl))
          (pa_cons (pe_ix ix_list (pv 4) (pe_k (c_draw T) hr (by decide) (by rfl) (pa_cons (pv 0) (pa_cons (pv 5) pa_nil))) (fun _ _ => rfl)) pa_nil))) pa_nil)))))
      (pss_one (ps_ret (pe_tupleOf (by rfl) T.b_tuple (pv 3)))))), ?_⟩
    refine ⟨Nat.zero_le _, fun D hD0 => ?_⟩
    have C30 : CPow 10 30 := ⟨by decide, by decide, by decide⟩
    refine ⟨_, rfl, _, rfl, _, rfl, _, rfl, _, rfl, _, _, rfl, rfl, C30, _, _, rfl, rfl, C30, _, rfl, _, _, rfl, rfl, C30, _, _, rfl, rfl, (show 14 ≤ sizeLine by decide), fun S hS0 => ⟨_, _, rfl, ?_⟩⟩
    have sD := same_upd (o := .lst []) hD0
    have hSH : H S = none := fresh_of sD hS0
    have nDS : D ≠ S := ne_of_none upd_same hS0
    have eS : upd (upd H D (.lst [])) S (.lst (SL.map V.int)) S = some (.lst (SL.map V.int)) := upd_same
    have eD : upd (upd H D (.lst [])) S (.lst (SL.map V.int)) D = some (.lst []) := by
      rw [upd_ne nDS]
      exact upd_same
    have s1 : Same H (upd (upd H D (.lst [])) S (.lst (SL.map V.int))) := sD.trans (same_upd hS0)
    have nD := R.nm hD0
    have nS := R.nm hSH
    refine ⟨_, rfl, m, c, g, s, 6, rfl, R.same s1, by omega, by omega, by omega, fun r1 H4 _ _ R4 k4 => ?_⟩
    have eS4 : H4 S = some (.lst (SL.map V.int)) := k4 _ _ nS.1 nS.2.2 eS
    have eD4 : H4 D = some (.lst []) := k4 _ _ nD.1 nD.2.2 eD
    have hF4 : Dp K H4 (.ref f) (dField F) := Dp.tk ((Tk.of s1).trans ((R.same s1).tk k4)) _ (flat_field F) hF
    have k4 : Kp m g H H4 := (Kp.of s1).trans k4
    refine ⟨rfl, .inr ⟨_, rfl, _, _, rfl, rfl, .inl (by decide), _, _, rfl, rfl, ?_⟩⟩
    obtain ⟨many, hmany, hm⟩ : ∃ many : Int, 10 + 4 * (if decide (V.int r1 = V.int 0) = true then 1 else 0) = many ∧ (many = 10 ∨ many = 14) := by
      refine ⟨_, rfl, ?_⟩
      split
      · exact .inr rfl
      · exact .inl rfl
    show gName 5 (V.int (10 + 4 * (if decide (V.int r1 = V.int 0) = true then 1 else 0))) _ _ _
    rw [hmany]
    refine ⟨_, rfl, _, rfl, _, _, rfl, rfl, m, c, g, s + 1, most + 1, rfl, R4, by omega, by omega, by omega, fun cnt H5 c0 c1 R5 k5 => ?_⟩
    obtain ⟨nc, hnc⟩ : ∃ n : Nat, cnt = (n : Int) := ⟨cnt.toNat, by omega⟩
    subst hnc
    refine ⟨_, rfl, by omega, by omega, ?_⟩
    refine for_range (lo := 0) (n := nc) (fun i σ H2 => ScriptInv K F H m c g f D S most many s i σ H2)
      ⟨none, s + 1 + 1, [], rfl, k4.trans k5, R5, by omega, Dp.tk (R4.tk k5) _ (flat_field F) hF4, k5 _ _ nS.1 nS.2.2 eS4, ⟨[], k5 _ _ nD.1 nD.2.2 eD4, .nil⟩, (fun _ h => nomatch h), rfl⟩ (fun i σ H6 hi ⟨y6, s2, l, eσ, k6, R6, hs6, hF6, eS6, ⟨ys, eD6, hY⟩, hg, hlen⟩ => ?_) (fun σ H6 ⟨y6, s2, l, eσ, k6, R6, hs6, hF6, eS6, ⟨ys, eD6, hY⟩, hg, hlen⟩ => ?_)
    · subst eσ
      have hly := hY.len
      rw [List.length_map] at hly
      obtain ⟨_, n, p, ps, e, hA, hN, hP, hD⟩ := hF6.field
      cases e
      have hlN : (F.names.map V.str).length = F.names.length := List.length_map ..
      have f0 := ok.n0
      have f6 := ok.n6
      refine ⟨_, rfl, Or.inl ⟨rfl, _, SqL.of eD6⟩, ?_⟩
      refine ⟨_, rfl, _, _, _, _, rfl, rfl, hA, rfl, _, rfl, _, rfl, _, _, _, _, rfl, rfl, hA, rfl, n, _, rfl, .inr hN, m, c, g, s2, _, rfl, R6, by rw [hlN]; omega, by rw [hlN]; omega, by omega, fun r2 H7 r20 r21 R7 k7 => ?_⟩
      rw [hlN] at r21
      obtain ⟨a, ha⟩ : ∃ a : Nat, r2 = (a : Int) := ⟨r2.toNat, by omega⟩
      have hx : F.names[a]? = some F.names[a] := List.getElem?_eq_getElem (by omega)
      have hxm := List.mem_of_getElem? hx
      generalize F.names[a] = x at hx hxm
      have t7 := R6.tk k7
      refine ⟨_, _, _, .str x, rfl, rfl, t7.sqT hN, at_of ha (by rw [List.getElem?_map, hx]; rfl), ?_⟩
      refine ⟨_, rfl, _, rfl, _, rfl, m, c, g, s2 + 1, many, rfl, R7, by omega, by omega, by omega, fun r3 H8 r30 r31 R8 k8 => ?_⟩
      obtain ⟨b, hb⟩ : ∃ b : Nat, r3 = (b : Int) := ⟨r3.toNat, by omega⟩
      have hbl : b < SL.length := by
        show b < 14
        omega
      have hz : SL[b]? = some SL[b] := List.getElem?_eq_getElem hbl
      have hzg := sl_good hz
      generalize SL[b] = z at hz hzg
      have eS8 := k8 _ _ nS.1 nS.2.2 (k7 _ _ nS.1 nS.2.2 eS6)
      have eD8 := k8 _ _ nD.1 nD.2.2 (k7 _ _ nD.1 nD.2.2 eD6)
      have t8 := t7.trans (R7.tk k8)
      refine ⟨_, _, _, .int z, rfl, rfl, SqL.of eS8, at_of hb (by rw [List.getElem?_map, hz]; rfl), (show 2 ≤ sizeLine by decide), fun T hT => ?_⟩
      have sT := same_upd (o := .tup [.str x, .int z]) hT
      have eDT := sT _ _ eD8
      have nDS' : S ≠ D := nDS.symm
      have tT : Tk H8 (upd (upd H8 T (.tup [.str x, .int z])) D (.lst (ys ++ [.ref T]))) := (Tk.of sT).lst eDT
      refine ⟨D, ys, .ref T, rfl, rfl, eDT, small1000 (by omega), ?_⟩
      refine ⟨_, s2 + 1 + 1, l ++ [(x, z)], rfl, (((k6.trans k7).trans k8).trans (Kp.of sT)).put hD0, (R8.same sT).put nD, by omega, Dp.tk (t8.trans tT) _ (flat_field F) hF6, ?_, ⟨ys ++ [.ref T], upd_same, ?_⟩, fun y hy => ?_, by rw [List.length_append, hlen]; rfl⟩
      · rw [upd_ne nDS']
        exact sT _ _ eS8
      · rw [List.map_append]
        exact (DpAll.tk (t8.trans tT) _ (flat_all_steps l) hY).app (.cons (Dp.of_step (s := (x, z)) ((Tk.refl.lst eDT).sqT (SqT.of upd_same))) .nil)
      · rcases List.mem_append.mp hy with h | h
        · exact hg y h
        · rw [List.mem_singleton.mp h]
          exact ⟨hxm, hzg⟩
    · subst eσ
      refine ⟨_, rfl, .inl ⟨D, ys, rfl, SqL.of eD6, fun r hr' => ?_⟩⟩
      have sr := same_upd (o := .tup ys) hr'
      exact q _ r l s2 (R6.same sr) (by omega) (k6.trans (Kp.of sr)) (.tup (SqT.of upd_same) (DpAll.tk (Tk.of sr) _ (flat_all_steps l) hY)) ⟨by omega, hg⟩ (by omega)
end
end XB
set_option Elab.async false
set_option linter.all false
set_option maxRecDepth 100000
set_option maxHeartbeats 4000000
namespace XB
open PySem PySem.Spec PyProof.Rows L2
/-- what can be shown: how great it is -/
structure Sz (d : PyData) (n : Nat) : Prop where
  sh : d.showable = true
  nd : d.hasDict = false
  dp : d.depth ≤ 20
  lv : d.leavesShort 60 = true
  bk : d.bulk ≤ n
structure SzA (ds : List PyData) (n : Nat) : Prop where
  sh : PyData.showableAll ds = true
  nd : PyData.hasDictAll ds = false
  dp : PyData.depthAll ds ≤ 19
  lv : PyData.leavesShortAll 60 ds = true
  bk : PyData.bulkAll ds ≤ n
theorem Sz.fits {d : PyData} {n : Nat} (h : Sz d n) (hn : n ≤ 100000) : d.shown.length ≤ sizeLine := by
  have q := PyData.shown_le_bulk 60 (by decide) d h.lv
  have := h.bk
  rw [sizeLine_eq]
  omega
theorem SzA.nil : SzA [] 0 := ⟨rfl, rfl, by decide, rfl, Nat.le_refl _⟩
theorem SzA.cons {d : PyData} {ds : List PyData} {n k : Nat} (h : Sz d n) (hd : d.depth ≤ 19) (t : SzA ds k) : SzA (d :: ds) (n + 1 + k) := by
  refine ⟨?_, ?_, ?_, ?_, ?_⟩
  · rw [PyData.showableAll, h.sh, t.sh]
    rfl
  · rw [PyData.hasDictAll, h.nd, t.nd]
    rfl
  · rw [PyData.depthAll]
    have := t.dp
    omega
  · rw [PyData.leavesShortAll, h.lv, t.lv]
    rfl
  · rw [PyData.bulkAll]
    have := h.bk
    have := t.bk
    omega
theorem SzA.tup {ds : List PyData} {n : Nat} (h : SzA ds n) : Sz (.tuple ds) n := ⟨by rw [PyData.showable]; exact h.sh, by rw [PyData.hasDict]; exact h.nd, by rw [PyData.depth]; have := h.dp; omega, by rw [PyData.leavesShort]; exact h.lv, by rw [PyData.bulk]; exact h.bk⟩
theorem SzA.lst {ds : List PyData} {n : Nat} (h : SzA ds n) : Sz (.list ds) n := ⟨by rw [PyData.showable]; exact h.sh, by rw [PyData.hasDict]; exact h.nd, by rw [PyData.depth]; have := h.dp; omega, by rw [PyData.leavesShort]; exact h.lv, by rw [PyData.bulk]; exact h.bk⟩
theorem Sz.mono {d : PyData} {n k : Nat} (h : Sz d n) (e : n ≤ k) : Sz d k := ⟨h.sh, h.nd, h.dp, h.lv, Nat.le_trans h.bk e⟩
theorem sz_bool (b : Bool) : Sz (.bool b) 0 := ⟨rfl, rfl, by simp [PyData.depth], rfl, Nat.le_refl _⟩
theorem sz_int {z : Int} (h : z.natAbs < 10 ^ 50) : Sz (.int z) 0 := by
  refine ⟨decide_eq_true ?_, rfl, by simp [PyData.depth], decide_eq_true ?_, Nat.le_refl _⟩
  · by_cases h0 : z.natAbs = 0
    · rw [h0]
      decide
    · have : z.natAbs.log2 < 200 := (Nat.log2_lt h0).mpr (Nat.lt_of_lt_of_le h (by decide))
      omega
  · have e := int_text_length_le10 (k := 50) (by decide) h
    show (Str.ofString (toString z)).length ≤ 60
    rw [PySem.ofString_length]
    omega
theorem sz_str {n : Str} (h : GoodName n) : Sz (.str n) 6 := by
  refine ⟨rfl, rfl, by simp [PyData.depth], ?_, h.2.1⟩
  show (n.cps.toList.all fun c => decide (c < 16 ^ 8)) = true
  rw [List.all_eq_true]
  intro c hc
  have := h.2.2 c hc
  exact decide_eq_true (by omega)
theorem sz_step {s : Str × Int} (h : GoodName s.1) (g : s.2.natAbs < 10 ^ 50) : Sz (dStep s) 8 := (SzA.cons (sz_str h) (by simp [PyData.depth]) (SzA.cons (sz_int g) (by simp [PyData.depth]) SzA.nil)).tup.mono (by omega)
theorem sz_stepsA : ∀ {l : List (Str × Int)}, (∀ s ∈ l, GoodName s.1 ∧ s.2.natAbs < 10 ^ 50) → SzA (l.map dStep) (9 * l.length)
  | [], _ => SzA.nil
  | s :: l, h => by
    have t := sz_stepsA fun x hx => h x (List.mem_cons_of_mem _ hx)
    have hs := h s List.mem_cons_self
    have e : (dStep s).depth ≤ 19 := by
      show PyData.depth (.tuple [.str s.1, .int s.2]) ≤ 19
      simp [PyData.depth, PyData.depthAll]
    have q := SzA.cons (sz_step hs.1 hs.2) e t
    exact ⟨q.sh, q.nd, q.dp, q.lv, Nat.le_trans q.bk (by rw [List.length_cons]; omega)⟩
theorem sz_strsA : ∀ {l : List Str}, (∀ s ∈ l, GoodName s) → SzA (l.map .str) (7 * l.length)
  | [], _ => SzA.nil
  | s :: l, h => by
    have t := sz_strsA fun x hx => h x (List.mem_cons_of_mem _ hx)
    have q := SzA.cons (sz_str (h s List.mem_cons_self)) (by simp [PyData.depth]) t
    exact ⟨q.sh, q.nd, q.dp, q.lv, Nat.le_trans q.bk (by rw [List.length_cons]; omega)⟩
section
variable {P : Program} {w : World} {K : PySem.W.Frag} {mg : Str → Option Value} {base : Heap}
def spLike (K : PySem.W.Frag) : Sp := fun vs H Q _ => ∃ (u v : V) (d : PyData), vs = [u, v] ∧ Dp K H u d ∧ Dp K H v d ∧ Sz d 90000 ∧ Q (.bl true) H
theorem g__law_like (T : Tx K mg) : Cg P w K mg base CX0 1 "_law_like" (spLike K) := by
  refine cg0 T.d__law_like (ps := ["heard", "due"]) (fun _ _ _ _ _ _ us hl => match us, hl with | [_, _], _ => rfl) sc__law_like (fun vs H Q E h => ?_) (fun f cdv A outer st H vs Q E hgu hr h => ?_)
  · obtain ⟨u, v, d, rfl, _⟩ := h
    rfl
  · obtain ⟨u, v, d, rfl, h1, h2, z, q⟩ := h
    have hu : (A.deeper (envOfC "_law_like" (defScope s__law_like) st.heap.objs.size f cdv)).units + 70 < cLine := by
      have := hr.un
      omega
    refine ⟨_, pss_one (ps_ret (pe_cmpR op_eq (pe_callB (call_reprD hgu hu) (by rfl) T.b_repr (by decide +kernel) (pa_cons (pv 0) pa_nil)) (pe_callB (call_reprD hgu hu) (by rfl) T.b_repr (by decide +kernel) (pa_cons (pv 1) pa_nil)) (nomark _))), ?_⟩
    have dd := z.dp
    refine ⟨_, rfl, u, d, rfl, h1, z.sh, z.nd, by omega, z.fits (by decide), _, rfl, v, d, rfl, h2, z.sh, z.nd, by omega, z.fits (by decide), rfl, ?_⟩
    show Q (.bl (decide (V.str d.shown = V.str d.shown))) H
    rw [decide_eq_true rfl]
    exact q
end
end XB
set_option Elab.async false
set_option linter.all false
set_option maxRecDepth 100000
set_option maxHeartbeats 4000000
namespace XB
open PySem PySem.Spec PyProof.Rows L2
theorem firsts_frs {F : Fld} {l : List (Str × Int)} : ∀ n : Nat, n ≤ l.length → (firstsL F l n).map (nm1 l) = XM.frs (OF F) [] (l.take n)
  | 0, _ => rfl
  | n + 1, h => by
    have ih := firsts_frs (F := F) n (Nat.le_of_succ_le h)
    have hs : l[n]? = some l[n] := List.getElem?_eq_getElem h
    generalize l[n] = s at hs
    rw [firsts_snoc, List.map_append, ih, take_snoc hs, XM.frs_snoc, List.nil_append]
    congr 1
    have e : free1 F l n = (l.take n).all fun w => !(OF F).tc w.1 s.1 := by
      unfold free1
      rw [hs]
    rw [e]
    cases (l.take n).all fun w => !(OF F).tc w.1 s.1
    · rfl
    · rw [if_pos rfl, if_pos rfl, List.map_singleton, nm1_of hs]
theorem srt_unique : ∀ {zs ys : List Str}, zs.Perm ys → sortedS zs = true → sortedS ys = true → zs = ys
  | [], ys, p, _, _ => (List.Perm.nil_eq p)
  | z :: zs, [], p, _, _ => by
    have := p.length_eq
    simp at this
  | z :: zs, y :: ys, p, h1, h2 => by
    have m1 : y ∈ z :: zs := p.symm.subset List.mem_cons_self
    have m2 : z ∈ y :: ys := p.subset List.mem_cons_self
    have a1 := sorted_head h1 y m1
    have a2 := sorted_head h2 z m2
    have e : z = y := by
      by_cases e : z = y
      · exact e
      · have := sLt_tot z y e a2
        rw [a1] at this
        cases this
    subst e
    have t : ∀ {x : Str} {l : List Str}, sortedS (x :: l) = true → sortedS l = true := fun {x l} h => by
      cases l with
      | nil => rfl
      | cons y r =>
        have h : risingS x (y :: r) = true := h
        unfold risingS at h
        rw [Bool.and_eq_true] at h
        exact h.2
    rw [srt_unique (p.cons_inv) (t h1) (t h2)]
theorem srt_same {ns ms zs ys : List Str} (h1 : SrtOf ns zs) (h2 : SrtOf ms ys) (h : ns.Perm ms) : zs = ys := srt_unique (h1.1.trans (h.trans h2.1.symm)) h1.2 h2.2
theorem ins_bound {F : Fld} {x : Str × Int} {b c : Nat} (hx : x.2.natAbs ≤ c) : ∀ {r : List (Str × Int)}, (∀ y ∈ r, y.2.natAbs ≤ b) → ∀ y ∈ XM.ins (OF F) x r, y.2.natAbs ≤ b + c
  | [], _ => fun y hy => by
    have hy : y ∈ [x] := hy
    rw [List.mem_singleton.mp hy]
    omega
  | z :: r, h => by
    have ih := ins_bound (F := F) hx (r := r) fun y hy => h y (List.mem_cons_of_mem _ hy)
    have hz := h z List.mem_cons_self
    have h0 : ∀ y ∈ r, y.2.natAbs ≤ b + c := fun y hy => by
      have := h y (List.mem_cons_of_mem _ hy)
      omega
    have k : ∀ {a : Str × Int} {l : List (Str × Int)}, a.2.natAbs ≤ b + c → (∀ y ∈ l, y.2.natAbs ≤ b + c) → ∀ y ∈ a :: l, y.2.natAbs ≤ b + c := fun {a l} ha hl y hy => by
      rcases List.mem_cons.mp hy with rfl | hy
      · exact ha
      · exact hl y hy
    unfold XM.ins
    by_cases e1 : z.1 = x.1
    · rw [if_pos e1]
      by_cases e2 : z.2 + x.2 = 0
      · rw [if_pos e2]
        exact h0
      · rw [if_neg e2]
        exact k (by show (z.2 + x.2).natAbs ≤ b + c; omega) h0
    · rw [if_neg e1]
      by_cases e2 : (OF F).tc z.1 x.1 = true
      · rw [if_pos e2]
        exact k (by omega) (k (by omega) h0)
      · rw [if_neg e2]
        by_cases e3 : ((OF F).lt z.1 x.1 && XM.top (OF F) x.1 r) = true
        · rw [if_pos e3]
          exact k (by omega) (k (by omega) h0)
        · rw [if_neg e3]
          exact k (by omega) ih
theorem act_bound {F : Fld} {c : Nat} : ∀ {l r : List (Str × Int)} {b : Nat}, (∀ y ∈ l, y.2.natAbs ≤ c) → (∀ y ∈ r, y.2.natAbs ≤ b) → ∀ y ∈ XM.act (OF F) l r, y.2.natAbs ≤ b + l.length * c
  | [], r, b, _, h => fun y hy => by
    have := h y hy
    omega
  | x :: l, r, b, hl, h => fun y hy => by
    rw [XM.act_cons] at hy
    have := act_bound (F := F) (b := b + c) (fun z hz => hl z (List.mem_cons_of_mem _ hz)) (ins_bound (hl x List.mem_cons_self) h) y hy
    rw [List.length_cons, Nat.succ_mul]
    omega
theorem len_bound {c : Nat} : ∀ {l : List (Str × Int)}, (∀ y ∈ l, y.2.natAbs ≤ c) → (lenOf l).natAbs ≤ l.length * c
  | [], _ => by
    show (0 : Int).natAbs ≤ _
    omega
  | x :: l, h => by
    have t := len_bound (l := l) fun y hy => h y (List.mem_cons_of_mem _ hy)
    have hx := h x List.mem_cons_self
    have e : lenOf (x :: l) = (if x.2 < 0 then -x.2 else x.2) + lenOf l := by
      unfold lenOf
      rw [List.map_cons, List.sum_cons]
    rw [e, List.length_cons, Nat.succ_mul]
    split <;> omega
/-- the data of a good script's pile -/
structure PileD (F : Fld) (A : List (Str × Int)) : Prop where
  nm : Names F A
  ln : A.length ≤ 60
  bd : ∀ y ∈ A, y.2.natAbs < 10 ^ 40
theorem times_c {t : Int} (g : GoodTimes t) : t.natAbs ≤ 10 ^ 30 := by
  obtain ⟨_, a, b⟩ := g
  omega
theorem pileD {F : Fld} {l : List (Str × Int)} (hN : Names F l) (h60 : l.length ≤ 60) (hb : ∀ y ∈ l, y.2.natAbs ≤ 10 ^ 30) : PileD F (XM.act (OF F) l []).reverse := by
  refine ⟨names_rev (names_act hN (fun _ h => nomatch h)), ?_, fun y hy => ?_⟩
  · rw [List.length_reverse]
    exact Nat.le_trans act_len0 h60
  · have := act_bound (F := F) (r := []) (b := 0) hb (fun _ h => nomatch h) y (List.mem_reverse.mp hy)
    have h2 : l.length * 10 ^ 30 ≤ 60 * 10 ^ 30 := Nat.mul_le_mul_right _ h60
    exact Nat.lt_of_le_of_lt this (Nat.lt_of_le_of_lt (by omega) (show 60 * 10 ^ 30 < 10 ^ 40 by decide))
theorem PileD.szA {F : Fld} (ok : F.Ok) {A : List (Str × Int)} (h : PileD F A) : Sz (dSteps A) 540 := (sz_stepsA fun s hs => ⟨ok.sgn _ (h.nm s hs), Nat.lt_trans (h.bd s hs) (by decide)⟩).tup.mono (by have := h.ln; omega)
theorem PileD.szL {F : Fld} {A : List (Str × Int)} (h : PileD F A) : Sz (.int (lenOf A)) 0 := by
  refine sz_int (Nat.lt_of_le_of_lt (len_bound (c := 10 ^ 40) fun y hy => Nat.le_of_lt (h.bd y hy)) ?_)
  have : A.length * 10 ^ 40 ≤ 60 * 10 ^ 40 := Nat.mul_le_mul_right _ h.ln
  exact Nat.lt_of_le_of_lt this (by decide)
theorem frs_mem {F : Fld} : ∀ {l bar : List (Str × Int)} {n : Str}, n ∈ XM.frs (OF F) bar l → ∃ s ∈ l, s.1 = n
  | [], _, _, h => by cases h
  | x :: l, bar, n, h => by
    unfold XM.frs at h
    split at h
    · rcases List.mem_cons.mp h with rfl | h
      · exact ⟨x, List.mem_cons_self, rfl⟩
      · obtain ⟨s, hs, e⟩ := frs_mem h
        exact ⟨s, List.mem_cons_of_mem _ hs, e⟩
    · obtain ⟨s, hs, e⟩ := frs_mem h
      exact ⟨s, List.mem_cons_of_mem _ hs, e⟩
theorem sz_names {F : Fld} (ok : F.Ok) {A : List (Str × Int)} (hn : Names F A) (h60 : A.length ≤ 60) {zs : List Str} (h : SrtOf (XM.frs (OF F) [] A) zs) : Sz (dNames zs) 420 := by
  refine (sz_strsA fun s hs => ?_).tup.mono ?_
  · obtain ⟨x, hx, rfl⟩ := frs_mem (h.1.subset hs)
    exact ok.sgn _ (hn x hx)
  · have e := h.1.length_eq
    have := frs_len (F := F) (l := A) (bar := [])
    omega
theorem deep_dsteps (A : List (Str × Int)) : (dSteps A).depth ≤ 19 := by
  have := deep_steps A
  show PyData.depth (.tuple _) ≤ 19
  rw [PyData.depth]
  omega
theorem deep_strs : ∀ zs : List Str, PyData.depthAll (zs.map .str) ≤ 1
  | [] => by decide
  | z :: zs => by
    have := deep_strs zs
    rw [List.map_cons, PyData.depthAll]
    have e : (PyData.str z).depth = 0 := by simp [PyData.depth]
    omega
theorem deep_dnames (zs : List Str) : (dNames zs).depth ≤ 19 := by
  have := deep_strs zs
  show PyData.depth (.tuple _) ≤ 19
  rw [PyData.depth]
  omega
end XB
set_option Elab.async false
set_option linter.all false
set_option maxRecDepth 100000
set_option maxHeartbeats 8000000
namespace XB
open PySem PySem.Spec PyProof.Rows L2
section
variable {P : Program} {w : World} {K : PySem.W.Frag} {mg : Str → Option Value} {base : Heap}
theorem fg0 {x : Str} {st : Stmt} {N ps : List Str} {k : Nat} {sp : Sp} {fl : Addr} {fd : FuncData} (F : Fun K x x st fl fd) (S : FnScope N ps (defScope st)) (len : ∀ vs H Q E, sp vs H Q E → vs.length = ps.length)
    (body : ∀ (f : Addr) (cdv : Value) (A : Around) (outer : List Env) (s : Shared) (H : Hp) (vs : List V) (Q : VK) (E : XK), (A.deeper (envOfC x (defScope st) s.heap.objs.size f cdv)).guards = some [] → Room k (A.deeper (envOfC x (defScope st) s.heap.objs.size f cdv)) → sp vs H Q E →
      ∃ t, PSs (cxOf CX0 P w K mg base N x (defScope st) f cdv A outer s H E).nox (defBody st) t ∧ t { nx := fun _ H' => Q .non H', rt := Q } (start N vs) H) : FnG P w K mg base CX0 (k + 1) fl fd ps sp := by
  obtain ⟨oc, od, kV, doc, pm, an, cdv, ct, osl, rfl, lk, hcd⟩ := id F.ex
  refine fng_of lk hcd S len fun A outer s H vs Q E hg hr h => ?_
  obtain ⟨t, ht, q⟩ := body fl cdv A outer s H vs Q E hg hr h
  exact ⟨t, ht.nox, q⟩
end
section
variable {X : Cx} {k j : Nat} {x : Str} {sp : Fld → Sp} {p pos : Pos} {e : Expr} {es : List Expr} {t : TA}
/-- a def's promises for each field -/
theorem pe_gF (c : ∀ F, Cg X.prog X.w X.K X.mg X.base CX0 k x (sp F)) (hgu : X.A.guards = some []) (hr : Room j X.A) (hk : k ≤ j) (hg : Gl X x) (ha : PA X (e :: es) t)
    (hdb : (x == ("__debug__" : Str)) = false := by decide) (he : starEach (e :: es) X.env = (false, eval e X.env) :: starEach es X.env := by rfl) (hpl : (backTo pos (starEach es X.env)).any (·.1) = false := by rfl) :
    PE X (.Call (.Name x p) (e :: es) [] pos) (tCall (fun vs H Q E => ∃ F, sp F vs H Q E) [] E0 t) := by
  obtain ⟨f, _, _, _, hm, kp, _⟩ := (c ⟨[], []⟩).ex
  constructor
  intro pins s σ H Q I h
  refine wpAny_Call_Name_kw (ld_glob I hg hm ?_ hdb)
  refine PySem.W.callWith_K (h₀ := X.base) I.ok.mod.kin kp (thn (ha.run pos pins s σ H _ I h) ?_) he hpl
  rintro us s1 ⟨vs, H1, I1, r, G, q⟩
  obtain ⟨f', fd, ps, F, hm', _, b⟩ := (c G).ex
  have ef : f = f' := Value.ref.inj (Option.some.inj (hm.symm.trans hm'))
  subst ef
  have q' : sp G vs H1 Q E0 := by
    rw [List.append_nil] at q
    exact q
  have hl : us.length = ps.length := by
    rw [← r.length]
    exact F.many _ _ _ _ q'
  have bb := b s1 us I1.kIn (by rw [List.append_nil]; exact hl)
  rw [List.append_nil] at bb
  refine ⟨I1.kIn, wpAny_call (codeAny_mono (F.goes (outer := X.stack) (Q := Q) (E := E0) hgu (hr.mono hk) I1.env0 bb r q') ?_)⟩
  rintro (er | fl) s' hq
  · exact hq.elim
  · rcases fl with u | _ | _ | _ <;> first
      | exact I1.after hq
      | exact False.elim hq
end
section
variable {P : Program} {w : World} {K : PySem.W.Frag} {mg : Str → Option Value} {base : Heap}
def spLaw (K : PySem.W.Frag) : Sp := fun vs H Q _ => ∃ (a : Addr) (ns : List Int), vs = [.ref a] ∧ SqL K H a (ns.map V.int) ∧ ns.length ≤ 1000 ∧ ∀ H', Q (.bl true) H'
theorem sp_law_len {vs : List V} {H : Hp} {Q : VK} {E : XK} (h : spLaw K vs H Q E) : vs.length = ["script"].length := by
  obtain ⟨a, ns, rfl, _⟩ := h
  rfl
theorem same_t {H H1 H2 : Hp} (a : Same H H1) (b : Same H1 H2) : Same H H2 := a.trans b
theorem tS {K : PySem.W.Frag} {H H' : Hp} {v : V} {l : List (Str × Int)} (h : Dp K H v (dSteps l)) (s : Same H H') : Dp K H' v (dSteps l) := Dp.tk (Tk.of s) _ (flat_steps l) h
theorem tF {K : PySem.W.Frag} {H H' : Hp} {v : V} {F : Fld} (h : Dp K H v (dField F)) (s : Same H H') : Dp K H' v (dField F) := Dp.tk (Tk.of s) _ (flat_field F) h
theorem tN {K : PySem.W.Frag} {H H' : Hp} {v : V} {l : List Str} (h : Dp K H v (dNames l)) (s : Same H H') : Dp K H' v (dNames l) := Dp.tk (Tk.of s) _ (flat_names l) h
theorem dpN {K : PySem.W.Frag} {H : Hp} {a : Addr} {l : List Str} (h : SqT K H a (l.map V.str)) : Dp K H (.ref a) (dNames l) := .tup h (DpAll.strs l)
end
end XB
set_option Elab.async false
set_option linter.all false
set_option maxRecDepth 100000
set_option maxHeartbeats 4000000
/-! an own exception made by a call with keywords alone -/
namespace PySem
namespace XOK
open Builtin Builtin.ObjectAttr HandSPX PySem.Spec PyProof.Rows
section
variable {prog : Program} {w : World} {A : Around} {E : Value → Shared → Prop} {R : Result → Shared → Prop} {h : Heap} {g : Array GenState} {d : Drawn} {t : Nat} {os : OsState}
variable {nm q : Str} {C N : Addr} {bs bm bmB : List Value} {hdct : Bool} {sn : List Str} {sub : List Value} {ab : Bool} {col : Option Bool} {dd : Option Addr} {k0 k1 k2 k3 k5 : Option Value} {B newId initId : String} {kw : List (Str × Value)}
theorem chk_type (hC : h.get? C = some (excClassObj nm q C N bs bm hdct sn sub ab col dd k0 k1 k2 k3 k5 newId)) {M : Model} {Q : Unit → Shared → Prop} (hq : Q () ⟨h, g, d, t, os⟩) : wpAny M A (checkBuiltinCall "type.__call__" ⟨[.ref C], kw⟩) Q E ⟨h, g, d, t, os⟩ := by
  have z3 := tc_sub
  have zT : (⟨h, g, d, t, os⟩ : Shared).TypeIs (.ref C) "type" := ⟨_, hC, rfl⟩
  simp only [tc_split, tc_kind, checkBuiltinCall]
  repeat (any_goals (first | assumption | with_reducible refine wpAny_onRaise ?_ | with_reducible refine wpAny_loadPart_at hC ?_ | with_reducible refine wpAny_map ?_ | wp_step))
theorem chk_new (F : ExcBaseFacts B newId initId bmB) (hT : ∀ Y : String, bm.contains (.type Y) = bmB.contains (.type Y)) {M : Model} {Q : Unit → Shared → Prop}
    (hC : h.get? C = some (excClassObj nm q C N bs bm hdct sn sub ab col dd k0 k1 k2 k3 k5 newId)) (hq : Q () ⟨h, g, d, t, os⟩) : wpAny M A (checkBuiltinCall newId ⟨[.ref C], kw⟩) Q E ⟨h, g, d, t, os⟩ := by
  have zc : (Value.ref C :: bm).contains (.type B) = true := by rw [List.contains_cons, hT, F.hasB, Bool.or_true]
  have zs := F.noStar
  simp only [F.newRow, F.newSplit, F.newKind, checkBuiltinCall]
  repeat (first | refine wpAny_loadPart_at hC ?_ | refine wpAny_staticBase_exc hC ?_ | (refine wpAny_isSubtype_exc hC ?_; rw [zc]) | refine wpAny_madeBy_exc hC ?_ | simp only [Bool.false_eq_true, bne_self_eq_false, if_false] | wp_step)
  exact hq
theorem make_new (F : ExcBaseFacts B newId initId bmB) (hT : ∀ Y : String, bm.contains (.type Y) = bmB.contains (.type Y)) (hC : h.get? C = some (excClassObj nm q C N bs bm hdct sn sub ab col dd k0 k1 k2 k3 k5 newId))
    (hq : R (.ok (.ret (.ref (h.objs.size + 1)))) ⟨(h.push { cls := .type "tuple", data := .seq #[] }).push { cls := .ref C, data := .fields #[.ref h.objs.size, .none, .none, .none, .bool false, .none] }, g, d, t, os⟩) :
    codeAny (model prog w) A (.builtin newId ⟨[.ref C], kw⟩) R ⟨h, g, d, t, os⟩ := by
  have z1 : (Value.ref C :: bm).contains (.type B) = true := by rw [List.contains_cons, hT, F.hasB, Bool.or_true]
  have z2 : (Value.ref C :: bm).contains (.type "AttributeError") = false := by rw [List.contains_cons, hT, F.noAttr, Bool.or_false]; rfl
  have z3 : (Value.ref C :: bm).contains (.type "NameError") = false := by rw [List.contains_cons, hT, F.noName, Bool.or_false]; rfl
  have zl : ([] : List Value).length ≤ sizeLine := Nat.zero_le _
  have ze := F.ends
  refine codeAny_builtinAt F.entry ?_
  unfold Builtin.«BaseException.__new__»
  refine wpAt_bind (show wpAt _ _ _ (stack >>= _) _ _ _ from ?_)
  refine wpAt_bind (wpAt_stack fun pa lo => wpAt_of_wpAny ?_)
  wp_walk
  refine (wpAt_of_wpAny ?_)
  rw [F.owner]
  repeat (first | with_reducible refine wpAny_loadPart_at hC ?_ | with_reducible refine wpAny_madeHere_exc F.canon hC ?_ | (with_reducible refine wpAny_isSubtype_exc hC ?_; first | rw [z1] | rw [z2] | rw [z3]) | wp_step)
  show R _ _
  rw [Heap.size_push]
  exact hq
theorem type_kw (F : ExcBaseFacts B newId initId bmB) (hT : ∀ Y : String, bm.contains (.type Y) = bmB.contains (.type Y)) {fI : Addr} {Q : Fin → Shared → Prop} (hC : h.get? C = some (excClassObj nm q C N bs bm hdct sn sub ab col dd k0 k1 k2 k3 k5 newId))
    (hi : W.Looks (model prog w) h (typeLookup (.ref C) "__init__") (some (.ref fI))) (hb : ∀ self, W.Looks (model prog w) h (bindSpecial (.ref fI) self) (.ref fI, [self]))
    (hq : codeAny (model prog w) A (.call (.ref fI) ⟨[.ref (h.objs.size + 1)], kw⟩) (fun r s' => match r with | .ok (.ret v) => v = .none ∧ Q (.done (.ret (.ref (h.objs.size + 1)))) s' | .ok _ => False | .error e => E e s')
      ⟨(h.push (W.kdv_tup [])).push (excO C h.objs.size), g, d, t, os⟩) : wpAny (model prog w) A (Builtin.«type.__call__» ⟨[.ref C], kw⟩) Q E ⟨h, g, d, t, os⟩ := by
  repeat (first | with_reducible refine wpAny_madeBy_exc hC ?_ | with_reducible refine wpAny_loadPart_at hC ?_ | wp_step)
  refine codeAny_call_builtin_code (Code.quiet_builtin _ F.quiet) (chk_new F hT hC (make_new F hT hC ?_))
  show wpAny _ _ _ _ _ _
  obtain ⟨h2, e2⟩ : ∃ h2, h2 = (h.push (W.kdv_tup [])).push (excO C h.objs.size) := ⟨_, rfl⟩
  have kp : ∀ b o, h.get? b = some o → h2.get? b = some o := fun b o e => by
    rw [e2]
    exact Heap.get?_push_of_some _ (Heap.get?_push_of_some _ e)
  have hg : h2.get? (h.objs.size + 1) = some (excO C h.objs.size) := by
    rw [e2]
    heap_get
  have hC2 := kp _ _ hC
  have zz : (Value.ref C :: bm).contains (.ref C) = true := by simp
  have j1 := hi.keeps kp
  have j2 := (hb (.ref (h.objs.size + 1))).keeps kp
  rw [← e2] at hq
  rw [show (h.push { cls := .type "tuple", data := .seq #[] }).push { cls := .ref C, data := .fields #[.ref h.objs.size, .none, .none, .none, .bool false, .none] } = h2 from e2.symm]
  unfold isInstance
  repeat (first | (with_reducible refine wpAny_isSubtype_exc hC2 ?_; rw [zz]) | with_reducible refine wpAny_loadPart_at hg ?_ | wp_step)
  show wpAny _ _ (typeLookup (.ref C) _) _ _ _
  refine j1.at (wpAny_holding (wpAny_bind (j2.at (wpAny_bind (wpAny_call (codeAny_mono hq ?_))))))
  rintro (e | fl) s' z
  · exact z
  · cases fl with
    | ret v =>
      obtain ⟨rfl, z⟩ := z
      first
        | exact wpAny_pure (wpAny_pure z)
        | (wp_walk; exact z)
    | next => exact False.elim z
    | brk => exact False.elim z
    | cont => exact False.elim z
theorem call_kw (F : ExcBaseFacts B newId initId bmB) (hT : ∀ Y : String, bm.contains (.type Y) = bmB.contains (.type Y)) {fI : Addr} (hC : h.get? C = some (excClassObj nm q C N bs bm hdct sn sub ab col dd k0 k1 k2 k3 k5 newId))
    (hi : W.Looks (model prog w) h (typeLookup (.ref C) "__init__") (some (.ref fI))) (hb : ∀ self, W.Looks (model prog w) h (bindSpecial (.ref fI) self) (.ref fI, [self]))
    (hq : codeAny (model prog w) (A.under (.builtin "type.__call__" ⟨[.ref C], kw⟩)) (.call (.ref fI) ⟨[.ref (h.objs.size + 1)], kw⟩) (W.InitBack (h.objs.size + 1) R) ⟨(h.push (W.kdv_tup [])).push (excO C h.objs.size), g, d, t, os⟩) :
    codeAny (model prog w) A (.call (.ref C) ⟨[], kw⟩) R ⟨h, g, d, t, os⟩ := by
  have y1 := tc_lookup
  have y2 := tc_bind (.ref C)
  have yT : (⟨h, g, d, t, os⟩ : Shared).TypeIs (.ref C) "type" := ⟨_, hC, rfl⟩
  refine codeAny_of_tree (show wpAny _ _ (callAny (.ref C) _) _ _ _ from ?_)
  repeat (any_goals (first | assumption | with_reducible refine wpAny_loadPart_at hC ?_ | wp_step))
  refine ⟨rfl, codeAny_call_builtin_at (Code.quiet_builtin _ (by decide +kernel)) entry_typeCall (chk_type hC (type_kw F hT hC hi hb (codeAny_mono hq ?_)))⟩
  rintro (e | fl) s' z
  · exact z
  · cases fl <;> exact z
end
end XOK
end PySem
namespace XB
open PySem PySem.Spec PyProof.Rows L2
section
variable {X : Cx}
/-- C(f = e) -/
theorem pe_newK {k j : Nat} {x f : Str} {e : Expr} {te : TE} {p pos kpos : Pos} (c : MkE X.prog X.w X.K X.mg X.base k x f) (hr : Room j X.A) (hk : k + 1 ≤ j) (hg : Gl X x) (ha : PE X e te)
    (hall : (backToKw pos (keywordEach [⟨some f, e, kpos⟩] X.env)).all (·.1.isSome) = true := by rfl) (hks : (backToKw pos (keywordEach [⟨some f, e, kpos⟩] X.env)).filterMap (·.1) = [f] := by rfl) (hdb : (x == ("__debug__" : Str)) = false := by decide)
    (hpl : ((backTo pos (starEach ([] : List Expr) X.env)).any (·.1) || (backToKw pos (keywordEach [⟨some f, e, kpos⟩] X.env)).any (·.1.isNone)) = false := by rfl) :
    PE X (.Call (.Name x p) [] [⟨some f, e, kpos⟩] pos) (tNew X.K X.mg x f te) := by
  obtain ⟨C, fI, fd, ps, h1, h2, h3, h4, h5, F, _, b⟩ := c.ex
  constructor
  intro pins s σ H Q I h
  obtain ⟨nm, q, N, bs, bm, sn, sub, ab, col, dd, k0, k1, k2, k3, k5, B, ni, ii, bmB, hC, hF, hT, _, _⟩ := h2.cls
  refine wpAny_Call_Name_kw (ld_glob I hg h1 ?_ hdb)
  refine PySem.W.callWith_KW0 (h₀ := X.base) I.ok.mod.kin h2.kC hall ?_ hpl
  have e1 : ∀ P : Addr → Prop, (∀ C', X.mg x = some (.ref C') → ExcC X.K C' → P C') = P C := fun P => propext ⟨fun g => g C h1 h3, fun g C' z _ => by rw [cls_eq z h1]; exact g⟩
  unfold tNew rNew at h
  simp only [e1] at h
  refine thn ((pk_cons ha pk_nil).run pos pins s σ H _ I (show tCons te tNil σ H (fun vs H2 => vs.length ≤ 1000 ∧ ∀ a, H2 a = none → spIni X.K C f (.ref a :: vs) (upd H2 a (exo a C none)) (fun v H3 => v = .non ∧ Q (.ref a) H3) fun _ _ _ => False) from h)) ?_
  rintro ws ⟨hp, g, dr, tk, os⟩ ⟨zs, H1, I1, rz, hz, q1⟩
  refine ⟨I1.kIn, ?_⟩
  rw [hks]
  have up1 : hp.objs.size ≤ hp.objs.size + 1 := by omega
  have hq := q1 (hp.objs.size + 1) (I1.hok.fresh up1)
  obtain ⟨a', y', ev, _⟩ := id hq
  obtain ⟨_, ez⟩ := List.cons.inj ev
  subst ez
  obtain ⟨u, rfl, ru⟩ := rz.one
  obtain ⟨h2', eh2⟩ : ∃ h2', h2' = (hp.push (PySem.W.kdv_tup [])).push (PySem.HandSPX.excO C hp.objs.size) := ⟨_, rfl⟩
  have kk : ∀ b o, hp.get? b = some o → h2'.get? b = some o := fun b o z => by
    rw [eh2]
    exact Heap.get?_push_of_some _ (Heap.get?_push_of_some _ z)
  have hget : h2'.get? (hp.objs.size + 1) = some (PySem.HandSPX.excO C hp.objs.size) := by
    rw [eh2]
    heap_get
  have I2 : Inv X pins σ (upd H1 (hp.objs.size + 1) (exo (hp.objs.size + 1) C none)) ⟨h2', g, dr, tk, os⟩ := I1.laid (t' := tk) (a := hp.objs.size + 1) (h' := h2') kk up1 (exo_ok hget)
  have r2 : Vals [V.ref (hp.objs.size + 1), y'] [Value.ref (hp.objs.size + 1), u] := .cons rfl (.cons ru .nil)
  refine wpAny_call (PySem.XOK.call_kw (kw := [(f, u)]) hF hT (I1.kIn _ _ hC) (PySem.W.looks_findIn I1.kIn h4) (fun self => PySem.W.bind_fn I1.kIn self h5) ?_)
  rw [← eh2]
  refine codeAny_mono (F.run _ X.stack _ _ ⟨[.ref (hp.objs.size + 1)], [(f, u)]⟩ [.ref (hp.objs.size + 1), u] _ _ (fun _ _ _ => False) ((hr.mono hk).make C [] [(f, u)]) (I2.env0.make C [] [(f, u)]) (b _ _ _) r2 hq) ?_
  rintro (er | fl) s' hq'
  · exact pass0 pins σ _ _ er s' I2 hq'
  · cases fl with
    | ret u =>
      obtain ⟨v, H2, os2, bare2, un2, hok2, rv, ev, q2⟩ := hq'
      subst ev
      exact ⟨rv, .ref (hp.objs.size + 1), H2, I2.call' (ch := []) os2 un2 hok2 bare2 (fun b z => absurd z (by simp)), rfl, q2⟩
    | next => exact False.elim hq'
    | brk => exact False.elim hq'
    | cont => exact False.elim hq'
end
end XB
set_option Elab.async false
set_option linter.all false
set_option maxRecDepth 100000
set_option maxHeartbeats 4000000
/-! an exception that is caught and kept -/
namespace XB
open PySem PySem.Spec PyProof.Rows L2
section
variable {X : Cx} {pins : List (Addr × Obj)} {σ : L2.St} {H : Hp} {s : Shared} {a : Addr} {o : HO}
/-- an object that nothing told of, new since the entry, is told of -/
theorem adopt (I : Inv X pins σ H s) (hn : H a = none) (h0 : X.s_0.heap.get? a = none) (hL : a ≠ X.env.locals) (hc : ∀ x c, X.env.cells.lookup x = some c → c ≠ a) (hp : ∀ p ∈ X.pn ++ pins, p.1 ≠ a) (new : ObjOk X.prog X.w (upd H a o) s.heap a o) : Inv X pins σ (upd H a o) s := by
  obtain ⟨b1, b2, b3, b4, b5, b6, b7⟩ := I.base
  have nh : ∀ {b : Addr} {u : HO}, H b = some u → b ≠ a := fun {b u} e z => by
    rw [z, hn] at e
    cases e
  refine ⟨I.ok, I.os, I.bare, ⟨b1, b2, fun b u e n hx => ?_, b4, fun b xs e => ?_, fun b u v e => ?_, fun b ps e => ?_⟩, I.loc, I.cell, ?_, fun x c e => ?_, fun p hm => ?_, ?_, I.len⟩
  · have : b ≠ a := fun z => by
      rw [z, h0] at e
      cases e
    rw [upd_ne this]
    exact b3 b u e n hx
  · have z := b5 b xs e
    rw [upd_ne (nh z), z]
  · have z := b6 b u v e
    rw [upd_ne (nh z), z]
  · obtain ⟨more, z⟩ := b7 b ps e
    exact ⟨more, by rw [upd_ne (nh z), z]⟩
  · rw [upd_ne (Ne.symm hL)]
    exact I.free
  · rw [upd_ne (hc x c e)]
    exact I.freeC x c e
  · obtain ⟨p1, p2, p3⟩ := I.pin p hm
    exact ⟨p1, by rw [upd_ne (hp p hm), p2], p3⟩
  · exact I.hok.laidN (fun _ _ e => e) hn new
end
/-- what the clause 'except x as n' wishes, the exception being kept -/
def wKeep (K : PySem.W.Frag) (c : Value) (i : Nat) (ts : Addr → Value → Option Addr → TS) (Wout : WX) (D : Ends) : WX := fun cls d σ H =>
  ∃ b, PySem.W.exmOne K cls c = some b ∧ (b = true → ∀ a, H a = none → ts a cls d { nx := fun σ' H' => D.nx (σ'.set i none) (upd H' a (exg a cls d)), rt := fun v H' => D.rt v (upd H' a (exg a cls d)), bk := fun σ' H' => D.bk (σ'.set i none) (upd H' a (exg a cls d)), ct := fun σ' H' => D.ct (σ'.set i none) (upd H' a (exg a cls d)) } (σ.set i (some (.ref a))) H) ∧
    (b = false → Wout cls d σ H)
section
variable {X : Cx} {x n : Str} {c : Value} {i : Nat} {body suite : List Stmt} {b₀ : Stmt} {np pos pos' : Pos} {tb : WX → TS} {ts : Addr → Value → Option Addr → TS} {Wout : WX}
theorem ps_keep (hx : X.ex = []) (hs : X.stack = X.env :: X.outer) (hf : X.env.frame = some X.env.locals) (hN : X.N.Nodup) (hi : X.N[i]? = some n) (hln : X.env.kindOf n = some .local) (hc : L2.Names X x c) (tk : Takes X Wout)
    (hb : ∀ (W : WX) (pn : List (Addr × Obj)) (xe : Value → Shared → Prop), Takes (X.tr pn xe) W → PassesOwn (model X.prog X.w) X.A X.env xe → PSs (X.tr pn xe) body (tb W))
    (hsu : ∀ (a : Addr) (oe : Obj) (cls : Value) (d : Option Addr) (pn : List (Addr × Obj)), Zc cls d oe → (∃ vs, oe.data = .fields vs) → PSs (X.suite a ((a, oe) :: pn)) (b₀ :: suite) (ts a cls d)) :
    PS X (.Try body [.ExceptHandler (some (.Name x np)) (some n) (b₀ :: suite) pos'] [] [] pos) (fun D σ H => tb (wKeep X.K c i ts Wout D) D σ H) := by
  constructor
  intro pins s σ H D I h
  have kk := I.ok
  have frm : X.A.frames = some (X.env :: X.outer) := by rw [kk.frames, hs]
  have lo : Loc X.env.scope n := .inl hln
  refine wpAny_Try_except (wpAny_mono ((hb (wKeep X.K c i ts Wout D) (X.pn ++ pins) (fun e s₁ => wpAny (model X.prog X.w) X.A (noteFrame e X.env) (fun _ s₂ => wpAny (model X.prog X.w) X.A (setFlight e none) (fun _ s₃ => wpAny (model X.prog X.w) X.A (handleBy e X.env [.ExceptHandler (some (.Name x np)) (some n) (b₀ :: suite) pos']) (SP X pins D) X.xe s₃) X.xe s₂) X.xe s₁) ?_ PassesOwn.looking).run [] s σ H D (I.toTry _) h) ?_ (fun _ _ he => he))
  · rintro u s' ⟨a, B, sI, pins', σ', H', cls, d, rfl, J', nb, up, sky, na, os, ag, b, hb1, hyes, hno⟩
    have J : Inv X pins σ' H' sI := J'.ofTry kk
    rw [hs] at sky
    show wpAny (model X.prog X.w) X.A (noteFrame (.ref a) X.env) _ _ _
    refine Sky.land Zc.steady frm hf sky fun h3 fl3 up3 => ?_
    have J3 : Inv X pins σ' H' { s' with heap := h3 } := J.landed nb fl3.1 (up.trans up3) os ag
    obtain ⟨oe3, vs3, he3, hz3, hd3⟩ := fl3.there
    have nfr : a ∉ frs (X.env :: X.outer) := fun hm => by
      obtain ⟨_, o', e', hnf⟩ := fl3.2.2.1.mem hm
      rw [he3] at e'
      cases e'
      exact hnf _ hd3
    have nL : a ≠ X.env.locals := fun z => nfr (List.mem_filterMap.mpr ⟨X.env, List.mem_cons_self, by rw [hf, z]⟩)
    have nF : a ∉ X.fs := fun hm => by
      obtain ⟨e, he, q⟩ := List.mem_filterMap.mp hm
      exact nfr (List.mem_filterMap.mpr ⟨e, List.mem_cons_of_mem _ he, q⟩)
    have Ba : B.get? a = none := fl3.2.1
    have gone : sI.heap.get? a = none := by
      cases q : sI.heap.get? a with
      | none => rfl
      | some o =>
        have z := nb a o q (by rw [hs]; exact nfr)
        rw [Ba] at z
        cases z
    have g0 : X.s_0.heap.get? a = none := by
      cases q : X.s_0.heap.get? a with
      | none => rfl
      | some o =>
        obtain ⟨o', z⟩ := J.base.there a o q (by rw [hx]; simp)
        rw [gone] at z
        cases z
    have gc : ∀ x c, X.env.cells.lookup x = some c → c ≠ a := fun x c e z => by
      obtain ⟨v, o, ho, _⟩ := J.cell x c e
      rw [z, gone] at ho
      cases ho
    have gp : ∀ p ∈ X.pn ++ pins, p.1 ≠ a := fun p hp z => by
      have w := (J.pin p hp).1
      rw [z, gone] at w
      cases w
    have S3 := J3.suite he3 hd3 na nL nF
    refine wpAny_handleBy_cons (codeAny_handlers_test ?_) (by intro q; cases q)
    have LT : PySem.W.Looks (model X.prog X.w) h3 (typeOf (.ref a)) cls := fun A Q E s k q => wpAny_typeOf_ref (k _ _ he3) (by rw [hz3.1]; exact q)
    have LM := PySem.W.exm_one (M := model X.prog X.w) J3.kIn LT hb1
    have tst : ∀ {Q : Value → Shared → Prop} {E : Value → Shared → Prop}, Q c { s' with heap := h3 } → wpAny (model X.prog X.w) (X.A.mark (some (.ref a))) (eval (.Name x np) X.env) Q E { s' with heap := h3 } := fun {Q E} q => by
      obtain ⟨hg, hdbg, hm | ⟨hm, hv, hnn⟩⟩ := hc
      · exact ld_glob (X := X.suite a ((a, oe3) :: (X.pn ++ pins))) S3 hg hm q hdbg
      · exact ld_blt (X := X.suite a ((a, oe3) :: (X.pn ++ pins))) S3 hg hm hv q hnn hdbg
    refine tst (LM.here ?_)
    cases b with
    | true =>
      refine codeAny_handlers_suite_as (HandSPX.lands_againZ fl3 fun h4 fl4 up4 => ?_)
      have J4 : Inv X pins σ' H' { s' with heap := h4 } := J.landed nb fl4.1 ((up.trans up3).trans up4) os ag
      obtain ⟨oe4, vs4, he4, hz4, hd4⟩ := fl4.there
      have S4 := J4.suite he4 hd4 na nL nF
      refine store_ok (X := X.suite a ((a, oe4) :: (X.pn ++ pins))) (v := .ref a) S4 hN hi lo rfl (fun s5 S5 => ?_) (.inr hln)
      refine wpAny_mono ((hsu a oe4 cls d (X.pn ++ pins) hz4 ⟨_, hd4⟩).run [] s5 _ H' _ S5 (hyes rfl a na)) ?_ (fun _ _ z => False.elim z)
      have fin : ∀ {s6 : Shared} {σ6 : L2.St} {H6 : Hp} {Q : Shared → Prop}, Inv (X.suite a ((a, oe4) :: (X.pn ++ pins))) [] σ6 H6 s6 → (∀ s7, Inv X pins (σ6.set i none) (upd H6 a (exg a cls d)) s7 → Q s7) →
          wpAny (model X.prog X.w) X.A (do bindName X.env n .none; unbindBehindTheSuite X.env n pos') (fun _ s7 => Q s7) X.xe s6 := fun {s6 σ6 H6 Q} S6 hq => by
        obtain ⟨w1, w2, _⟩ := S6.pin (a, oe4) (List.mem_append_left _ List.mem_cons_self)
        exact gone_ok (adopt (S6.unsuite kk) w2 g0 nL gc gp (exg_ok w1 hz4.1 hz4.2 hd4)) hN hi hln hq
      intro f s6 hsp
      cases f with
      | next =>
        obtain ⟨σ6, H6, S6, q6⟩ := hsp
        exact fin S6 fun s7 J7 => ⟨_, _, J7, q6⟩
      | brk =>
        obtain ⟨σ6, H6, S6, q6⟩ := hsp
        exact fin S6 fun s7 J7 => ⟨_, _, J7, q6⟩
      | cont =>
        obtain ⟨σ6, H6, S6, q6⟩ := hsp
        exact fin S6 fun s7 J7 => ⟨_, _, J7, q6⟩
      | ret u =>
        obtain ⟨v6, σ6, H6, S6, r6, q6⟩ := hsp
        exact fin S6 fun s7 J7 => ⟨_, _, _, J7, r6, q6⟩
    | false =>
      show wpAny _ X.A (handleBy (.ref a) X.env []) _ _ _
      refine wpAny_handleBy_nil ?_
      obtain ⟨k1, k2, k3, oe, vs, Tb, oT, tss, he, hz, hd, h1, hr⟩ := id fl3
      unfold PySem.passOn
      refine wpAny_bind (wpAny_field he hd h1 ?_)
      rw [if_neg (show ¬ ((Value.ref Tb == Value.none) = true) from by simp)]
      have last : wpAny (model X.prog X.w) X.A (setFlight (.ref a) X.env.frame) (fun _ s4 => wpAny (model X.prog X.w) X.A (throw (.ref a) : Sem Flow) (SP X pins D) X.xe s4) X.xe { s' with heap := h3 } := by
        rw [hf]
        refine HandSPX.setFlight_upZ fl3 fun h4 hh4 up4 => wpAny_throw (tk _ _ ⟨a, B, sI, pins, σ', H', cls, d, rfl, J, nb, (up.trans up3).trans up4, .inr (.inr ?_), na, os, ag, hno rfl⟩)
        rw [hs]
        exact hh4
      first
        | exact wpAny_bind (wpAny_pure (wpAny_bind last))
        | exact wpAny_bind last
  · intro f s1 hsp
    cases f with
    | next =>
      obtain ⟨σ', H', J', q⟩ := hsp
      exact wpAny_execs_nil ⟨σ', H', J'.ofTry kk, q⟩
    | brk =>
      obtain ⟨σ', H', J', q⟩ := hsp
      exact ⟨σ', H', J'.ofTry kk, q⟩
    | cont =>
      obtain ⟨σ', H', J', q⟩ := hsp
      exact ⟨σ', H', J'.ofTry kk, q⟩
    | ret u =>
      obtain ⟨v, σ', H', J', r, q⟩ := hsp
      exact ⟨v, σ', H', J'.ofTry kk, r, q⟩
end
/-! ### an own exception raised -/
section
variable {X : Cx}
/-- C(e) to be raised -/
@[irreducible] def rMk (K : PySem.W.Frag) (mg : Str → Option Value) (x f : Str) (σ : L2.St) (y : V) (H1 : Hp) (Q : XK) : Prop := ∀ C, mg x = some (.ref C) → ExcC K C → (tNil σ H1 fun ys H2 => (y :: ys).length ≤ 1000 ∧ ∀ a, H2 a = none → spIni K C f (.ref a :: (y :: ys)) (upd H2 a (exo a C none))
  (fun v H3 => v = .non ∧ ∃ (d : Addr) (fs : List (Str × V)), H3 a = some (exo a C (some d)) ∧ H3 d = some (exd d fs) ∧ H2 d = none ∧ Q (.ref C) (some d) (upd (del H3 a) d (.xd fs))) fun _ _ _ => False)
theorem mk_at {K : PySem.W.Frag} {mg : Str → Option Value} {x f : Str} {y : V} {σ : L2.St} {H1 : Hp} {Q : XK} (q : ∀ C H' d, mg x = some (.ref C) → ExcC K C → Same H1 H' → H' d = some (.xd [(f, y)]) → Q (.ref C) (some d) H') : rMk K mg x f σ y H1 Q := by
  unfold rMk
  intro C hC T
  refine (show 1 ≤ 1000 ∧ _ from ⟨by decide, fun a ha => ⟨a, y, rfl, upd_same, fun dx hdx hne => ⟨rfl, dx, [(f, y)], upd_same, ?_, ?_, q C _ dx hC T ?_ upd_same⟩⟩⟩)
  · rw [upd_ne hne, upd_same]
  · rw [upd_ne hne] at hdx
    exact hdx
  · have hd : H1 dx = none := by
      rw [upd_ne hne] at hdx
      exact hdx
    intro b o e
    have e1 : b ≠ a := ne_of_none e ha
    have e2 : b ≠ dx := ne_of_none e hd
    rw [upd_ne e2, del_ne e1, upd_ne e1, upd_ne e2, upd_ne e1, e]
theorem pmk_gen {CX : CXT} {x : Str} {C fI : Addr} {k : Nat} {fd : FuncData} {ps : List Str} {sp : Sp} {e : Expr} {es : List Expr} {p pos : Pos} {ta : TA} (T : OexG X.K C) (iC : PySem.W.findIn X.K (.ref C) "__init__" = some (some (.ref fI)))
    (tI : PySem.W.typeIn X.K (.ref fI) = some (.type "function")) (F1 : FnOk X.prog X.w X.K X.mg X.base CX k fI fd ps sp) (hr : Room (k + 1) X.A) (hb : Binds X.K fd ps []) (hx : Passes CX X fun _ _ _ => False) (hg : Gl X x) (hm : X.mg x = some (.ref C)) (ha : PA X (e :: es) ta)
    (hdb : (x == ("__debug__" : Str)) = false := by decide) (he : starEach (e :: es) X.env = (false, eval e X.env) :: starEach es X.env := by rfl) (hpl : (backTo pos (starEach es X.env)).any (·.1) = false := by rfl) :
    PMk X (.Call (.Name x p) (e :: es) [] pos) (fun σ H Q => ta σ H fun vs H1 => vs.length ≤ 1000 ∧ ∀ a, H1 a = none → sp (.ref a :: vs) (upd H1 a (exo a C none)) (fun v H2 => v = .non ∧ ∃ (d : Addr) (fs : List (Str × V)), H2 a = some (exo a C (some d)) ∧ H2 d = some (exd d fs) ∧ H1 d = none ∧ Q (.ref C) (some d) (upd (del H2 a) d (.xd fs))) fun _ _ _ => False) := by
  intro pins s σ H Q I h
  obtain ⟨nm, q, N, bs, bm, sn, sub, ab, col, dd, k0, k1, k2, k3, k5, B, ni, ii, bmB, hC, hF, hT, _, _⟩ := T.cls
  refine wpAny_Call_Name_kw (ld_glob I hg hm ?_ hdb)
  refine PySem.W.callWith_K (h₀ := X.base) I.ok.mod.kin T.kC (thn (ha.run pos pins s σ H _ I h) ?_) he hpl
  rintro us ⟨hp, g, dr, tk, os⟩ ⟨vs, H1, I1, r1, hz, q1⟩
  refine ⟨I1.kIn, ?_⟩
  show wpAny _ _ (call (.ref C) us) _ _ _
  have up1 : hp.objs.size ≤ hp.objs.size + 1 := by omega
  have hq := q1 (hp.objs.size + 1) (I1.hok.fresh up1)
  obtain ⟨h2, eh2⟩ : ∃ h2, h2 = (hp.push (PySem.W.kdv_tup us)).push (PySem.HandSPX.excO C hp.objs.size) := ⟨_, rfl⟩
  have kk : ∀ b o, hp.get? b = some o → h2.get? b = some o := fun b o z => by
    rw [eh2]
    exact Heap.get?_push_of_some _ (Heap.get?_push_of_some _ z)
  have hget : h2.get? (hp.objs.size + 1) = some (PySem.HandSPX.excO C hp.objs.size) := by
    rw [eh2]
    heap_get
  have I2 : Inv X pins σ (upd H1 (hp.objs.size + 1) (exo (hp.objs.size + 1) C none)) ⟨h2, g, dr, tk, os⟩ := I1.laid (t' := tk) (a := hp.objs.size + 1) (h' := h2) kk up1 (exo_ok hget)
  have r2 : Vals (V.ref (hp.objs.size + 1) :: vs) (Value.ref (hp.objs.size + 1) :: us) := .cons rfl r1
  have hl : (Value.ref (hp.objs.size + 1) :: us).length = ps.length := r2.length.symm.trans (F1.len _ _ _ _ hq)
  have hus : us.length ≤ sizeLine := by
    have z := Paired.length r1
    rw [sizeLine_eq]
    omega
  have hb2 := hb ⟨h2, g, dr, tk, os⟩ (Value.ref (hp.objs.size + 1) :: us) I2.kIn (by rw [List.append_nil]; exact hl)
  rw [List.append_nil] at hb2
  refine wpAny_call (PySem.HandSPX.call_own hF hT (I1.kIn _ _ hC) (PySem.W.looks_findIn I1.kIn iC) (fun self => PySem.W.bind_fn I1.kIn self tI) hus ?_)
  rw [← eh2]
  refine codeAny_mono (F1.run _ X.stack _ _ ⟨Value.ref (hp.objs.size + 1) :: us, []⟩ (Value.ref (hp.objs.size + 1) :: us) _ _ (fun _ _ _ => False) (hr.make C us []) (I2.env0.make C us []) hb2 r2 hq) ?_
  rintro (er | fl) s' hq'
  · exact hx pins σ _ _ er s' I2 hq'
  · cases fl with
    | ret u =>
      obtain ⟨v, H2, os2, bare2, un2, hok2, rv, ev, d, fs, ea, ed, hd1, q2⟩ := hq'
      subst ev
      obtain ⟨h3, g3, d3, t3, os3⟩ := s'
      exact ⟨rv, mk_end (raises_own T.exC T.tyC) I1 up1 kk un2 hok2 os2 bare2 ea ed hd1 q2⟩
    | next => exact False.elim hq'
    | brk => exact False.elim hq'
    | cont => exact False.elim hq'
theorem pmk_new {k j : Nat} {x f : Str} {e : Expr} {te : TE} {p pos : Pos} (c : MkE X.prog X.w X.K X.mg X.base k x f) (hr : Room j X.A) (hk : k + 1 ≤ j) (hg : Gl X x) (ha : PE X e te)
    (hdb : (x == ("__debug__" : Str)) = false := by decide) (he : starEach [e] X.env = (false, eval e X.env) :: starEach [] X.env := by rfl) (hpl : (backTo pos (starEach ([] : List Expr) X.env)).any (·.1) = false := by rfl) :
    PMk X (.Call (.Name x p) [e] [] pos) (fun σ H Q => te σ H fun y H1 => rMk X.K X.mg x f σ y H1 Q) := by
  obtain ⟨C, fI, fd, ps, h1, h2, h3, h4, h5, F, b, _⟩ := c.ex
  intro pins s σ H Q I h
  refine pmk_gen (pos := pos) (p := p) h2 h4 h5 F (hr.mono hk) b pass0 hg h1 (pa_cons (hs := he) ha pa_nil) hdb he hpl pins s σ H Q I ?_
  have e1 : ∀ P : Addr → Prop, (∀ C', X.mg x = some (.ref C') → ExcC X.K C' → P C') = P C := fun P => propext ⟨fun g => g C h1 h3, fun g C' z _ => by rw [cls_eq z h1]; exact g⟩
  unfold rMk at h
  simp only [e1] at h
  exact h
end
/-! ### classes with two fields -/
def spIni2 (K : PySem.W.Frag) (C : Addr) (f g : Str) : Sp := fun vs H Q _ => ∃ (a : Addr) (y z : V), vs = [.ref a, y, z] ∧ H a = some (exo a C none) ∧ ∀ dx, H dx = none → dx ≠ a → Q .non (upd (upd H dx (exd dx [(g, z), (f, y)])) a (exo a C (some dx)))
structure MkE2 (P : Program) (w : World) (K : PySem.W.Frag) (mg : Str → Option Value) (base : Heap) (k : Nat) (x f g : Str) : Prop where
  ex : ∃ (C fI : Addr) (fd : FuncData) (ps : List Str), mg x = some (.ref C) ∧ OexG K C ∧ ExcC K C ∧ PySem.W.findIn K (.ref C) "__init__" = some (some (.ref fI)) ∧ PySem.W.typeIn K (.ref fI) = some (.type "function") ∧ FnOk P w K mg base CX0 k fI fd ps (spIni2 K C f g) ∧ Binds K fd ps [] ∧
    ∀ (s : Shared) (u v z : Value), BindsTo s fd ⟨[u], [(g, v), (f, z)]⟩ (ps.zip [u, z, v])
section
variable {P : Program} {w : World} {K : PySem.W.Frag} {mg : Str → Option Value} {base : Heap}
theorem mke2 {x q f g : Str} {st : Stmt} {N ps : List Str} {k : Nat} (D : Ek K mg x q st) (hp : ps.length = 3)
    (hb : ∀ (kV doc pm : Value) (an : Option Addr) (cdv ct : Value) (us : List Value), us.length = ps.length → bindArgs (PySem.W.fnOf "__init__" q (defArgs st) (defBody st) (defScope st) .none kV doc pm an cdv ct) ⟨us, []⟩ = pure (ps.zip us))
    (hk : ∀ (kV doc pm : Value) (an : Option Addr) (cdv ct u v z : Value), bindArgs (PySem.W.fnOf "__init__" q (defArgs st) (defBody st) (defScope st) .none kV doc pm an cdv ct) ⟨[u], [(g, v), (f, z)]⟩ = pure (ps.zip [u, z, v]))
    (S : FnScope N ps (defScope st))
    (hbody : ∀ (C f' : Addr) (cdv : Value) (A : Around) (outer : List Env) (s : Shared) (H : Hp) (vs : List V) (Q : VK) (E : XK), mg x = some (.ref C) → Room k (A.deeper (envOfC q (defScope st) s.heap.objs.size f' cdv)) → spIni2 K C f g vs H Q E →
      ∃ t, PSs (cxOf CX0 P w K mg base N q (defScope st) f' cdv A outer s H E).nox (defBody st) t ∧ t { nx := fun _ H' => Q .non H', rt := Q } (start N vs) H) : MkE2 P w K mg base (k + 1) x f g := by
  obtain ⟨C, fI, fd, h1, h2, h3, h4, h5, F⟩ := D.ex
  refine ⟨C, fI, fd, ps, h1, h2, h3, h4, h5, F.ok S (fun vs H Q E h => ?_) (fun cdv A outer s H vs Q E hr h => hbody C fI cdv A outer s H vs Q E h1 hr h), F.binds hb, fun s u v z => ?_⟩
  · obtain ⟨a, y, z, rfl, _⟩ := h
    rw [hp]
    rfl
  · obtain ⟨oc, od, kV, doc, pm, an, cdv, ct, osl, rfl, lk, hcd⟩ := F.ex
    exact .of_eq (hk kV doc pm an cdv ct u v z)
end
/-- two stores on a new exception -/
theorem two_st {H : Hp} {a dx : Addr} {u v v' : HO} (h : dx ≠ a) : upd (upd (upd H dx v) a u) dx v' = upd (upd H dx v') a u := by
  funext b
  by_cases h1 : b = dx
  · rw [h1, upd_same, upd_ne h, upd_same]
  · by_cases h2 : b = a
    · rw [h2, upd_ne (Ne.symm h), upd_same, upd_same]
    · rw [upd_ne h1, upd_ne h2, upd_ne h1, upd_ne h2, upd_ne h1]
section
variable {X : Cx}
@[irreducible] def rMk2 (K : PySem.W.Frag) (mg : Str → Option Value) (x f g : Str) (σ : L2.St) (y z : V) (H1 : Hp) (Q : XK) : Prop := ∀ C, mg x = some (.ref C) → ExcC K C → (tNil σ H1 fun ys H2 => (y :: z :: ys).length ≤ 1000 ∧ ∀ a, H2 a = none → spIni2 K C f g (.ref a :: (y :: z :: ys)) (upd H2 a (exo a C none))
  (fun v H3 => v = .non ∧ ∃ (d : Addr) (fs : List (Str × V)), H3 a = some (exo a C (some d)) ∧ H3 d = some (exd d fs) ∧ H2 d = none ∧ Q (.ref C) (some d) (upd (del H3 a) d (.xd fs))) fun _ _ _ => False)
theorem mk_at2 {K : PySem.W.Frag} {mg : Str → Option Value} {x f g : Str} {y z : V} {σ : L2.St} {H1 : Hp} {Q : XK} (q : ∀ C H' d, mg x = some (.ref C) → ExcC K C → Same H1 H' → H' d = some (.xd [(g, z), (f, y)]) → Q (.ref C) (some d) H') : rMk2 K mg x f g σ y z H1 Q := by
  unfold rMk2
  intro C hC T
  refine (show 2 ≤ 1000 ∧ _ from ⟨by decide, fun a ha => ⟨a, y, z, rfl, upd_same, fun dx hdx hne => ⟨rfl, dx, [(g, z), (f, y)], upd_same, ?_, ?_, q C _ dx hC T ?_ upd_same⟩⟩⟩)
  · rw [upd_ne hne, upd_same]
  · rw [upd_ne hne] at hdx
    exact hdx
  · have hd : H1 dx = none := by
      rw [upd_ne hne] at hdx
      exact hdx
    intro b o e
    have e1 : b ≠ a := ne_of_none e ha
    have e2 : b ≠ dx := ne_of_none e hd
    rw [upd_ne e2, del_ne e1, upd_ne e1, upd_ne e2, upd_ne e1, e]
theorem pmk_new2 {k j : Nat} {x f g : Str} {e1 e2 : Expr} {t1 t2 : TE} {p pos : Pos} (c : MkE2 X.prog X.w X.K X.mg X.base k x f g) (hr : Room j X.A) (hk : k + 1 ≤ j) (hg : Gl X x) (ha : PA X [e1, e2] (tCons t1 (tCons t2 tNil)))
    (hdb : (x == ("__debug__" : Str)) = false := by decide) (he : starEach [e1, e2] X.env = (false, eval e1 X.env) :: starEach [e2] X.env := by rfl) (hpl : (backTo pos (starEach [e2] X.env)).any (·.1) = false := by rfl) :
    PMk X (.Call (.Name x p) [e1, e2] [] pos) (fun σ H Q => t1 σ H fun y H1 => t2 σ H1 fun z H2 => rMk2 X.K X.mg x f g σ y z H2 Q) := by
  obtain ⟨C, fI, fd, ps, h1, h2, h3, h4, h5, F, b, _⟩ := c.ex
  intro pins s σ H Q I h
  refine pmk_gen (pos := pos) (p := p) h2 h4 h5 F (hr.mono hk) b pass0 hg h1 ha hdb he hpl pins s σ H Q I ?_
  have e1 : ∀ P : Addr → Prop, (∀ C', X.mg x = some (.ref C') → ExcC X.K C' → P C') = P C := fun P => propext ⟨fun g => g C h1 h3, fun g C' z _ => by rw [cls_eq z h1]; exact g⟩
  unfold rMk2 at h
  simp only [e1] at h
  exact h
@[irreducible] def rNew2 (K : PySem.W.Frag) (mg : Str → Option Value) (x f g : Str) (σ : L2.St) (z y : V) (H1 : Hp) (Q : VK) : Prop := ∀ C, mg x = some (.ref C) → ExcC K C → ∀ a, H1 a = none → spIni2 K C f g [.ref a, y, z] (upd H1 a (exo a C none)) (fun v H3 => v = .non ∧ Q (.ref a) H3) fun _ _ _ => False
theorem new_at2 {K : PySem.W.Frag} {mg : Str → Option Value} {x f g : Str} {y z : V} {σ : L2.St} {H1 : Hp} {Q : VK} (q : ∀ H' a, Same H1 H' → Ex1 K mg x H' a [(g, z), (f, y)] → Q (.ref a) H') : rNew2 K mg x f g σ z y H1 Q := by
  unfold rNew2
  intro C hC T a ha
  refine ⟨a, y, z, rfl, upd_same, fun dx hdx hne => ⟨rfl, q _ a (fun b o w => ?_) ⟨C, hC, T, dx, .inl upd_same, .inl ?_⟩⟩⟩
  · have hb : b ≠ a := ne_of_none w ha
    have hd : b ≠ dx := fun e => by
      rw [← e, upd_ne hb, w] at hdx
      cases hdx
    rw [upd_ne hb, upd_ne hd, upd_ne hb]
    exact w
  · rw [upd_ne hne, upd_same]
/-- C(g = e1, f = e2) -/
theorem pe_newK2 {k j : Nat} {x f g : Str} {e1 e2 : Expr} {t1 t2 : TE} {p pos kp1 kp2 : Pos} (c : MkE2 X.prog X.w X.K X.mg X.base k x f g) (hr : Room j X.A) (hk : k + 1 ≤ j) (hg : Gl X x) (h1e : PE X e1 t1) (h2e : PE X e2 t2)
    (hall : (backToKw pos (keywordEach [⟨some g, e1, kp1⟩, ⟨some f, e2, kp2⟩] X.env)).all (·.1.isSome) = true := by rfl) (hks : (backToKw pos (keywordEach [⟨some g, e1, kp1⟩, ⟨some f, e2, kp2⟩] X.env)).filterMap (·.1) = [g, f] := by rfl) (hdb : (x == ("__debug__" : Str)) = false := by decide)
    (hpl : ((backTo pos (starEach ([] : List Expr) X.env)).any (·.1) || (backToKw pos (keywordEach [⟨some g, e1, kp1⟩, ⟨some f, e2, kp2⟩] X.env)).any (·.1.isNone)) = false := by rfl) :
    PE X (.Call (.Name x p) [] [⟨some g, e1, kp1⟩, ⟨some f, e2, kp2⟩] pos) (fun σ H Q => t1 σ H fun z H1 => t2 σ H1 fun y H2 => rNew2 X.K X.mg x f g σ z y H2 Q) := by
  obtain ⟨C, fI, fd, ps, h1, h2, h3, h4, h5, F, _, b⟩ := c.ex
  constructor
  intro pins s σ H Q I h
  obtain ⟨nm, q, N, bs, bm, sn, sub, ab, col, dd, k0, k1, k2, k3, k5, B, ni, ii, bmB, hC, hF, hT, _, _⟩ := h2.cls
  refine wpAny_Call_Name_kw (ld_glob I hg h1 ?_ hdb)
  refine PySem.W.callWith_KW0 (h₀ := X.base) I.ok.mod.kin h2.kC hall ?_ hpl
  have e1 : ∀ P : Addr → Prop, (∀ C', X.mg x = some (.ref C') → ExcC X.K C' → P C') = P C := fun P => propext ⟨fun g => g C h1 h3, fun g C' z _ => by rw [cls_eq z h1]; exact g⟩
  unfold rNew2 at h
  simp only [e1] at h
  refine thn ((pk_cons h1e (pk_cons h2e pk_nil)).run pos pins s σ H _ I (show tCons t1 (tCons t2 tNil) σ H (fun vs H2 => match vs with
    | [z, y] => ∀ a, H2 a = none → spIni2 X.K C f g [.ref a, y, z] (upd H2 a (exo a C none)) (fun v H3 => v = .non ∧ Q (.ref a) H3) fun _ _ _ => False
    | _ => False) from h)) ?_
  rintro ws ⟨hp, gg, dr, tk, os⟩ ⟨zs, H1, I1, rz, hm⟩
  obtain ⟨z, y, rfl⟩ : ∃ z y, zs = [z, y] := by
    rcases zs with _ | ⟨z, _ | ⟨y, _ | ⟨_, _⟩⟩⟩
    · exact False.elim hm
    · exact False.elim hm
    · exact ⟨z, y, rfl⟩
    · exact False.elim hm
  have q1 : ∀ a, H1 a = none → spIni2 X.K C f g [.ref a, y, z] (upd H1 a (exo a C none)) (fun v H3 => v = .non ∧ Q (.ref a) H3) fun _ _ _ => False := hm
  refine ⟨I1.kIn, ?_⟩
  rw [hks]
  have up1 : hp.objs.size ≤ hp.objs.size + 1 := by omega
  have hq := q1 (hp.objs.size + 1) (I1.hok.fresh up1)
  obtain ⟨u, v, rfl, ru, rv⟩ := vals2 rz
  obtain ⟨h2', eh2⟩ : ∃ h2', h2' = (hp.push (PySem.W.kdv_tup [])).push (PySem.HandSPX.excO C hp.objs.size) := ⟨_, rfl⟩
  have kk : ∀ b o, hp.get? b = some o → h2'.get? b = some o := fun b o z => by
    rw [eh2]
    exact Heap.get?_push_of_some _ (Heap.get?_push_of_some _ z)
  have hget : h2'.get? (hp.objs.size + 1) = some (PySem.HandSPX.excO C hp.objs.size) := by
    rw [eh2]
    heap_get
  have I2 : Inv X pins σ (upd H1 (hp.objs.size + 1) (exo (hp.objs.size + 1) C none)) ⟨h2', gg, dr, tk, os⟩ := I1.laid (t' := tk) (a := hp.objs.size + 1) (h' := h2') kk up1 (exo_ok hget)
  have r2 : Vals [V.ref (hp.objs.size + 1), y, z] [Value.ref (hp.objs.size + 1), v, u] := .cons rfl (.cons rv (.cons ru .nil))
  refine wpAny_call (PySem.XOK.call_kw (kw := [(g, u), (f, v)]) hF hT (I1.kIn _ _ hC) (PySem.W.looks_findIn I1.kIn h4) (fun self => PySem.W.bind_fn I1.kIn self h5) ?_)
  rw [← eh2]
  refine codeAny_mono (F.run _ X.stack _ _ ⟨[.ref (hp.objs.size + 1)], [(g, u), (f, v)]⟩ [.ref (hp.objs.size + 1), v, u] _ _ (fun _ _ _ => False) ((hr.mono hk).make C [] [(g, u), (f, v)]) (I2.env0.make C [] [(g, u), (f, v)]) (b _ _ _ _) r2 hq) ?_
  rintro (er | fl) s' hq'
  · exact pass0 pins σ _ _ er s' I2 hq'
  · cases fl with
    | ret u =>
      obtain ⟨v, H2, os2, bare2, un2, hok2, rv, ev, q2⟩ := hq'
      subst ev
      exact ⟨rv, .ref (hp.objs.size + 1), H2, I2.call' (ch := []) os2 un2 hok2 bare2 (fun b z => absurd z (by simp)), rfl, q2⟩
    | next => exact False.elim hq'
    | brk => exact False.elim hq'
    | cont => exact False.elim hq'
end
section
variable {X : Cx} {W : WX}
/-- raise C(e) -/
theorem ps_rs {K : PySem.W.Frag} {mg : Str → Option Value} {k j : Nat} {x f : Str} {e : Expr} {te : TE} {p pos pos' : Pos} (hK : X.K = K) (hmg : X.mg = mg) (hcm : X.calm = true) (tk : Takes X W) (c : MkE X.prog X.w X.K X.mg X.base k x f) (hr : Room j X.A) (hk : k + 1 ≤ j) (hg : Gl X x) (ha : PE X e te)
    (hdb : (x == ("__debug__" : Str)) = false := by decide) (he : starEach [e] X.env = (false, eval e X.env) :: starEach [] X.env := by rfl) (hpl : (backTo pos (starEach ([] : List Expr) X.env)).any (·.1) = false := by rfl) :
    PS X (.Raise (some (.Call (.Name x p) [e] [] pos)) none pos') (fun _ σ H => te σ H fun y H1 => rMk K mg x f σ y H1 fun cls d H' => W cls d σ H') := by
  subst hK hmg
  exact ps_raise hcm tk (pmk_new c hr hk hg ha hdb he hpl)
theorem ps_rs2 {K : PySem.W.Frag} {mg : Str → Option Value} {k j : Nat} {x f g : Str} {e1 e2 : Expr} {t1 t2 : TE} {p pos pos' : Pos} (hK : X.K = K) (hmg : X.mg = mg) (hcm : X.calm = true) (tk : Takes X W) (c : MkE2 X.prog X.w X.K X.mg X.base k x f g) (hr : Room j X.A) (hk : k + 1 ≤ j) (hg : Gl X x) (ha : PA X [e1, e2] (tCons t1 (tCons t2 tNil)))
    (hdb : (x == ("__debug__" : Str)) = false := by decide) (he : starEach [e1, e2] X.env = (false, eval e1 X.env) :: starEach [e2] X.env := by rfl) (hpl : (backTo pos (starEach [e2] X.env)).any (·.1) = false := by rfl) :
    PS X (.Raise (some (.Call (.Name x p) [e1, e2] [] pos)) none pos') (fun _ σ H => t1 σ H fun y H1 => t2 σ H1 fun z H2 => rMk2 K mg x f g σ y z H2 fun cls d H' => W cls d σ H') := by
  subst hK hmg
  exact ps_raise hcm tk (pmk_new2 c hr hk hg ha hdb he hpl)
end
end XB
set_option Elab.async false
set_option linter.all false
set_option maxRecDepth 100000
set_option maxHeartbeats 4000000
/-! 'except x as n', the exception kept, where nothing is known of the def's own names but how many there are -/
namespace XB
open PySem PySem.Spec PyProof.Rows L2
/-- what the clause 'except x as n' wishes, the exception being kept -/
def wKeepN (n : Nat) (K : PySem.W.Frag) (c : Value) (i : Nat) (ts : Addr → Value → Option Addr → TS) (Wout : WX) (D : Ends) : WX := fun cls d σ H => σ.length = n →
  ∃ b, PySem.W.exmOne K cls c = some b ∧ (b = true → ∀ a, H a = none → ts a cls d { nx := fun σ' H' => D.nx (σ'.set i none) (upd H' a (exg a cls d)), rt := fun v H' => D.rt v (upd H' a (exg a cls d)), bk := fun σ' H' => D.bk (σ'.set i none) (upd H' a (exg a cls d)), ct := fun σ' H' => D.ct (σ'.set i none) (upd H' a (exg a cls d)) } (σ.set i (some (.ref a))) H) ∧
    (b = false → Wout cls d σ H)
section
variable {X : Cx} {x n : Str} {c : Value} {i : Nat} {body suite : List Stmt} {b₀ : Stmt} {np pos pos' : Pos} {tb : WX → TS} {ts : Addr → Value → Option Addr → TS} {Wout : WX}
theorem ps_keepN (hx : X.ex = []) (hs : X.stack = X.env :: X.outer) (hf : X.env.frame = some X.env.locals) (hN : X.N.Nodup) (hi : X.N[i]? = some n) (hln : X.env.kindOf n = some .local) (hc : L2.Names X x c) (tk : Takes X Wout)
    (hb : ∀ (W : WX) (pn : List (Addr × Obj)) (xe : Value → Shared → Prop), Takes (X.tr pn xe) W → PassesOwn (model X.prog X.w) X.A X.env xe → PSs (X.tr pn xe) body (tb W))
    (hsu : ∀ (a : Addr) (oe : Obj) (cls : Value) (d : Option Addr) (pn : List (Addr × Obj)), Zc cls d oe → (∃ vs, oe.data = .fields vs) → PSs (X.suite a ((a, oe) :: pn)) (b₀ :: suite) (ts a cls d)) :
    PS X (.Try body [.ExceptHandler (some (.Name x np)) (some n) (b₀ :: suite) pos'] [] [] pos) (fun D σ H => tb (wKeepN X.N.length X.K c i ts Wout D) D σ H) := by
  constructor
  intro pins s σ H D I h
  have kk := I.ok
  have frm : X.A.frames = some (X.env :: X.outer) := by rw [kk.frames, hs]
  have lo : Loc X.env.scope n := .inl hln
  refine wpAny_Try_except (wpAny_mono ((hb (wKeepN X.N.length X.K c i ts Wout D) (X.pn ++ pins) (fun e s₁ => wpAny (model X.prog X.w) X.A (noteFrame e X.env) (fun _ s₂ => wpAny (model X.prog X.w) X.A (setFlight e none) (fun _ s₃ => wpAny (model X.prog X.w) X.A (handleBy e X.env [.ExceptHandler (some (.Name x np)) (some n) (b₀ :: suite) pos']) (SP X pins D) X.xe s₃) X.xe s₂) X.xe s₁) ?_ PassesOwn.looking).run [] s σ H D (I.toTry _) h) ?_ (fun _ _ he => he))
  · rintro u s' ⟨a, B, sI, pins', σ', H', cls, d, rfl, J', nb, up, sky, na, os, ag, hlen⟩
    obtain ⟨b, hb1, hyes, hno⟩ := hlen J'.len
    have J : Inv X pins σ' H' sI := J'.ofTry kk
    rw [hs] at sky
    show wpAny (model X.prog X.w) X.A (noteFrame (.ref a) X.env) _ _ _
    refine Sky.land Zc.steady frm hf sky fun h3 fl3 up3 => ?_
    have J3 : Inv X pins σ' H' { s' with heap := h3 } := J.landed nb fl3.1 (up.trans up3) os ag
    obtain ⟨oe3, vs3, he3, hz3, hd3⟩ := fl3.there
    have nfr : a ∉ frs (X.env :: X.outer) := fun hm => by
      obtain ⟨_, o', e', hnf⟩ := fl3.2.2.1.mem hm
      rw [he3] at e'
      cases e'
      exact hnf _ hd3
    have nL : a ≠ X.env.locals := fun z => nfr (List.mem_filterMap.mpr ⟨X.env, List.mem_cons_self, by rw [hf, z]⟩)
    have nF : a ∉ X.fs := fun hm => by
      obtain ⟨e, he, q⟩ := List.mem_filterMap.mp hm
      exact nfr (List.mem_filterMap.mpr ⟨e, List.mem_cons_of_mem _ he, q⟩)
    have Ba : B.get? a = none := fl3.2.1
    have gone : sI.heap.get? a = none := by
      cases q : sI.heap.get? a with
      | none => rfl
      | some o =>
        have z := nb a o q (by rw [hs]; exact nfr)
        rw [Ba] at z
        cases z
    have g0 : X.s_0.heap.get? a = none := by
      cases q : X.s_0.heap.get? a with
      | none => rfl
      | some o =>
        obtain ⟨o', z⟩ := J.base.there a o q (by rw [hx]; simp)
        rw [gone] at z
        cases z
    have gc : ∀ x c, X.env.cells.lookup x = some c → c ≠ a := fun x c e z => by
      obtain ⟨v, o, ho, _⟩ := J.cell x c e
      rw [z, gone] at ho
      cases ho
    have gp : ∀ p ∈ X.pn ++ pins, p.1 ≠ a := fun p hp z => by
      have w := (J.pin p hp).1
      rw [z, gone] at w
      cases w
    have S3 := J3.suite he3 hd3 na nL nF
    refine wpAny_handleBy_cons (codeAny_handlers_test ?_) (by intro q; cases q)
    have LT : PySem.W.Looks (model X.prog X.w) h3 (typeOf (.ref a)) cls := fun A Q E s k q => wpAny_typeOf_ref (k _ _ he3) (by rw [hz3.1]; exact q)
    have LM := PySem.W.exm_one (M := model X.prog X.w) J3.kIn LT hb1
    have tst : ∀ {Q : Value → Shared → Prop} {E : Value → Shared → Prop}, Q c { s' with heap := h3 } → wpAny (model X.prog X.w) (X.A.mark (some (.ref a))) (eval (.Name x np) X.env) Q E { s' with heap := h3 } := fun {Q E} q => by
      obtain ⟨hg, hdbg, hm | ⟨hm, hv, hnn⟩⟩ := hc
      · exact ld_glob (X := X.suite a ((a, oe3) :: (X.pn ++ pins))) S3 hg hm q hdbg
      · exact ld_blt (X := X.suite a ((a, oe3) :: (X.pn ++ pins))) S3 hg hm hv q hnn hdbg
    refine tst (LM.here ?_)
    cases b with
    | true =>
      refine codeAny_handlers_suite_as (HandSPX.lands_againZ fl3 fun h4 fl4 up4 => ?_)
      have J4 : Inv X pins σ' H' { s' with heap := h4 } := J.landed nb fl4.1 ((up.trans up3).trans up4) os ag
      obtain ⟨oe4, vs4, he4, hz4, hd4⟩ := fl4.there
      have S4 := J4.suite he4 hd4 na nL nF
      refine store_ok (X := X.suite a ((a, oe4) :: (X.pn ++ pins))) (v := .ref a) S4 hN hi lo rfl (fun s5 S5 => ?_) (.inr hln)
      refine wpAny_mono ((hsu a oe4 cls d (X.pn ++ pins) hz4 ⟨_, hd4⟩).run [] s5 _ H' _ S5 (hyes rfl a na)) ?_ (fun _ _ z => False.elim z)
      have fin : ∀ {s6 : Shared} {σ6 : L2.St} {H6 : Hp} {Q : Shared → Prop}, Inv (X.suite a ((a, oe4) :: (X.pn ++ pins))) [] σ6 H6 s6 → (∀ s7, Inv X pins (σ6.set i none) (upd H6 a (exg a cls d)) s7 → Q s7) →
          wpAny (model X.prog X.w) X.A (do bindName X.env n .none; unbindBehindTheSuite X.env n pos') (fun _ s7 => Q s7) X.xe s6 := fun {s6 σ6 H6 Q} S6 hq => by
        obtain ⟨w1, w2, _⟩ := S6.pin (a, oe4) (List.mem_append_left _ List.mem_cons_self)
        exact gone_ok (adopt (S6.unsuite kk) w2 g0 nL gc gp (exg_ok w1 hz4.1 hz4.2 hd4)) hN hi hln hq
      intro f s6 hsp
      cases f with
      | next =>
        obtain ⟨σ6, H6, S6, q6⟩ := hsp
        exact fin S6 fun s7 J7 => ⟨_, _, J7, q6⟩
      | brk =>
        obtain ⟨σ6, H6, S6, q6⟩ := hsp
        exact fin S6 fun s7 J7 => ⟨_, _, J7, q6⟩
      | cont =>
        obtain ⟨σ6, H6, S6, q6⟩ := hsp
        exact fin S6 fun s7 J7 => ⟨_, _, J7, q6⟩
      | ret u =>
        obtain ⟨v6, σ6, H6, S6, r6, q6⟩ := hsp
        exact fin S6 fun s7 J7 => ⟨_, _, _, J7, r6, q6⟩
    | false =>
      show wpAny _ X.A (handleBy (.ref a) X.env []) _ _ _
      refine wpAny_handleBy_nil ?_
      obtain ⟨k1, k2, k3, oe, vs, Tb, oT, tss, he, hz, hd, h1, hr⟩ := id fl3
      unfold PySem.passOn
      refine wpAny_bind (wpAny_field he hd h1 ?_)
      rw [if_neg (show ¬ ((Value.ref Tb == Value.none) = true) from by simp)]
      have last : wpAny (model X.prog X.w) X.A (setFlight (.ref a) X.env.frame) (fun _ s4 => wpAny (model X.prog X.w) X.A (throw (.ref a) : Sem Flow) (SP X pins D) X.xe s4) X.xe { s' with heap := h3 } := by
        rw [hf]
        refine HandSPX.setFlight_upZ fl3 fun h4 hh4 up4 => wpAny_throw (tk _ _ ⟨a, B, sI, pins, σ', H', cls, d, rfl, J, nb, (up.trans up3).trans up4, .inr (.inr ?_), na, os, ag, hno rfl⟩)
        rw [hs]
        exact hh4
      first
        | exact wpAny_bind (wpAny_pure (wpAny_bind last))
        | exact wpAny_bind last
  · intro f s1 hsp
    cases f with
    | next =>
      obtain ⟨σ', H', J', q⟩ := hsp
      exact wpAny_execs_nil ⟨σ', H', J'.ofTry kk, q⟩
    | brk =>
      obtain ⟨σ', H', J', q⟩ := hsp
      exact ⟨σ', H', J'.ofTry kk, q⟩
    | cont =>
      obtain ⟨σ', H', J', q⟩ := hsp
      exact ⟨σ', H', J'.ofTry kk, q⟩
    | ret u =>
      obtain ⟨v, σ', H', J', r, q⟩ := hsp
      exact ⟨v, σ', H', J'.ofTry kk, r, q⟩
end
end XB
set_option Elab.async false
set_option linter.all false
set_option maxRecDepth 100000
set_option maxHeartbeats 4000000
/-! repr of data with empty dicts in it -/
namespace XB
open PySem PySem.Spec PyProof.Rows L2
inductive De (H : Hp) : V → PyData → Prop
  | non : De H .non .none
  | bl (b : Bool) : De H (.bl b) (.bool b)
  | int (i : Int) : De H (.int i) (.int i)
  | str (x : Str) : De H (.str x) (.str x)
  | emp {a : Addr} : H a = some (.dK []) → De H (.ref a) (.dict [])
section
variable {X : Cx} {pins : List (Addr × Obj)} {σ : L2.St} {H : Hp} {s : Shared}
theorem De.reads (I : Inv X pins σ H s) {v : V} {d : PyData} {u : Value} (h : De H v d) (r : RelV v u) : ∃ as, Reads s.heap u d as ∧ sysModules ∉ as := by
  cases h with
  | non =>
    cases r
    exact ⟨_, .none, by simp⟩
  | bl b =>
    cases r
    exact ⟨_, .bool b, by simp⟩
  | int i =>
    obtain ⟨t, rfl⟩ := r
    exact ⟨_, .int i t, by simp⟩
  | str x =>
    obtain ⟨t, rfl⟩ := r
    exact ⟨_, .str x t, by simp⟩
  | @emp a e =>
    obtain rfl : u = Value.ref a := r
    obtain ⟨_, hd, vs, rel, dd⟩ := dk_of I.hok e
    have hv : vs = [] := by
      have := Paired.length rel
      exact List.length_eq_zero_iff.mp this.symm
    subst hv
    obtain ⟨o, es, ep, h1, h2, h3, h4⟩ := dd
    have hes : es.toList = [] := List.length_eq_zero_iff.mp (h4.2.1.length)
    refine ⟨a :: [] ++ [], Reads.dict (kvs := []) h1 h2.1 h3 ?_ ?_, ?_⟩
    · rw [hes]
      exact .nil
    · rw [hes]
      exact .nil
    · intro z
      have z : sysModules = a := by simpa using z
      rw [z] at hd
      simp at hd
theorem De.readsAll (I : Inv X pins σ H s) : ∀ {vs : List V} {ds : List PyData} {us : List Value}, Paired (De H) vs ds → Vals vs us → ∃ as, ReadsAll s.heap us ds as ∧ sysModules ∉ as
  | _, _, _, .nil, .nil => ⟨_, .nil, by simp⟩
  | _, _, _, .cons h t, .cons r rr => by
    obtain ⟨as, q1, n1⟩ := De.reads I h r
    obtain ⟨bs, q2, n2⟩ := De.readsAll I t rr
    refine ⟨_, .cons q1 q2, fun z => ?_⟩
    rcases List.mem_append.mp z with z | z
    · exact n1 z
    · exact n2 z
/-- such data, or a tuple of such -/
inductive De2 (K : PySem.W.Frag) (H : Hp) : V → PyData → Prop
  | one {v : V} {d : PyData} : De H v d → De2 K H v d
  | tup {a : Addr} {xs : List V} {ds : List PyData} : SqT K H a xs → Paired (De H) xs ds → De2 K H (.ref a) (.tuple ds)
theorem De2.reads (I : Inv X pins σ H s) {v : V} {d : PyData} {u : Value} (h : De2 X.K H v d) (r : RelV v u) : ∃ as, Reads s.heap u d as ∧ sysModules ∉ as := by
  cases h with
  | one h => exact h.reads I r
  | tup hs ha =>
    cases r
    obtain ⟨its, rv, ⟨o, ho, hc, n, hd⟩, _⟩ := I.tuple hs
    obtain ⟨as, hr, na⟩ := De.readsAll I ha rv
    exact ⟨_, Reads.tuple ho hc hd hr, na⟩
end
section
variable {X : Cx}
theorem call_reprE {K : PySem.W.Frag} (hk : X.K = K) (hgu : X.A.guards = some []) (hu : X.A.units + 70 < cLine) : CallR X (.builtin "repr") (fun xs H Q => ∃ x d, xs = [x] ∧ De2 K H x d ∧ d.showable = true ∧ d.depth ≤ 64 ∧ d.shown.length ≤ sizeLine ∧ Q (.str d.shown) H) := by
  subst hk
  intro pins s σ H xs us Q I r h
  obtain ⟨x, d, rfl, hd, hs, hdp, hz, q⟩ := h
  obtain ⟨u, rfl, rx⟩ := r.one
  obtain ⟨as, hr, na⟩ := hd.reads I rx
  cases hr with
  | none => exact PySem.P.repr_of_none ⟨.str _, H, I.tok _, ⟨_, rfl⟩, q⟩
  | bool b => exact PySem.P.repr_of_bool ⟨.str _, H, I.tok _, ⟨_, rfl⟩, q⟩
  | int i t => exact PySem.P.repr_of_int (of_decide_eq_true hs) ⟨.str _, H, I.tok _, ⟨_, rfl⟩, q⟩
  | str z t => exact PySem.P.repr_of_str ⟨.str _, H, I.tok _, ⟨_, rfl⟩, q⟩ hz
  | list h1 h2 h3 h4 => exact repr_of_reads' (Reads.list h1 h2 h3 h4) hs (fun _ => na) hgu (by omega) (fun _ _ e => e) (fun h' u tk k => ⟨.str _, H, I.kept k, ⟨_, rfl⟩, q⟩) hz
  | tuple h1 h2 h3 h4 => exact repr_of_reads' (Reads.tuple h1 h2 h3 h4) hs (fun _ => na) hgu (by omega) (fun _ _ e => e) (fun h' u tk k => ⟨.str _, H, I.kept k, ⟨_, rfl⟩, q⟩) hz
  | dict h1 h2 h3 h4 h5 => exact repr_of_reads' (Reads.dict h1 h2 h3 h4 h5) hs (fun _ => na) hgu (by omega) (fun _ _ e => e) (fun h' u tk k => ⟨.str _, H, I.kept k, ⟨_, rfl⟩, q⟩) hz
end
end XB
namespace XB
open PySem PySem.Spec PyProof.Rows L2
section
variable {X : Cx}
/-- data without dicts, or with empty ones beside flat things -/
def Dx (K : PySem.W.Frag) (H : Hp) (x : V) (d : PyData) : Prop := (Dp K H x d ∧ d.hasDict = false) ∨ De2 K H x d
theorem call_reprX {K : PySem.W.Frag} (hk : X.K = K) (hgu : X.A.guards = some []) (hu : X.A.units + 70 < cLine) : CallR X (.builtin "repr") (fun xs H Q => ∃ x d, xs = [x] ∧ Dx K H x d ∧ d.showable = true ∧ d.depth ≤ 64 ∧ d.shown.length ≤ sizeLine ∧ Q (.str d.shown) H) := by
  subst hk
  intro pins s σ H xs us Q I r h
  obtain ⟨x, d, rfl, hd, hs, hdp, hz, q⟩ := h
  rcases hd with ⟨hd, nd⟩ | hd
  · exact call_reprD hgu hu pins s σ H [x] us Q I r ⟨x, d, rfl, hd, hs, nd, hdp, hz, q⟩
  · exact call_reprE rfl hgu hu pins s σ H [x] us Q I r ⟨x, d, rfl, hd, hs, hdp, hz, q⟩
end
end XB
namespace XB
open PySem PySem.Spec PyProof.Rows L2
theorem sqT_same {K : PySem.W.Frag} {H H' : Hp} {a : Addr} {xs : List V} (s : Same H H') (h : SqT K H a xs) : SqT K H' a xs := by
  rcases h with h | h
  · rcases h with h | ⟨o, h⟩
    · exact .inl (.inl (s _ _ h))
    · exact .inl (.inr ⟨o, s _ _ h⟩)
  · exact .inr h
mutual
theorem dp_same {K : PySem.W.Frag} {H H' : Hp} (s : Same H H') : ∀ (d : PyData) {v : V}, Dp K H v d → Dp K H' v d
  | .none, _, h => by cases h; exact .non
  | .bool b, _, h => by cases h; exact .bl b
  | .int i, _, h => by cases h; exact .int i
  | .str x, _, h => by cases h; exact .str x
  | .tuple ds, _, h => by
    cases h with
    | tup hs ha => exact .tup (sqT_same s hs) (dpAll_same s ds ha)
  | .list ds, _, h => by
    cases h with
    | lst hs ha => exact .lst (s.seq hs) (dpAll_same s ds ha)
  | .dict _, _, h => by cases h
theorem dpAll_same {K : PySem.W.Frag} {H H' : Hp} (s : Same H H') : ∀ (ds : List PyData) {vs : List V}, DpAll K H vs ds → DpAll K H' vs ds
  | [], _, h => by cases h; exact .nil
  | d :: ds, _, h => by
    cases h with
    | cons h1 h2 => exact .cons (dp_same s d h1) (dpAll_same s ds h2)
end
theorem De.same {H H' : Hp} {v : V} {d : PyData} (h : De H v d) (s : Same H H') : De H' v d := by
  cases h with
  | non => exact .non
  | bl b => exact .bl b
  | int i => exact .int i
  | str x => exact .str x
  | emp e => exact .emp (s _ _ e)
end XB
set_option Elab.async false
set_option linter.all false
set_option maxRecDepth 100000
set_option maxHeartbeats 4000000
/-! lists that are told not to be the table of modules; repr of data with empty dicts in them -/
namespace XB
open PySem PySem.Spec PyProof.Rows L2
mutual
inductive Df (K : PySem.W.Frag) (H : Hp) : V → PyData → Prop
  | non : Df K H .non .none
  | bl (b : Bool) : Df K H (.bl b) (.bool b)
  | int (i : Int) : Df K H (.int i) (.int i)
  | str (x : Str) : Df K H (.str x) (.str x)
  | emp {a : Addr} : H a = some (.dK []) → Df K H (.ref a) (.dict [])
  | lst {a : Addr} {xs : List V} {ds : List PyData} : SqL K H a xs → a ≠ sysModules → DfAll K H xs ds → Df K H (.ref a) (.list ds)
  | tup {a : Addr} {xs : List V} {ds : List PyData} : SqT K H a xs → DfAll K H xs ds → Df K H (.ref a) (.tuple ds)
inductive DfAll (K : PySem.W.Frag) (H : Hp) : List V → List PyData → Prop
  | nil : DfAll K H [] []
  | cons {v : V} {vs : List V} {d : PyData} {ds : List PyData} : Df K H v d → DfAll K H vs ds → DfAll K H (v :: vs) (d :: ds)
end
mutual
theorem Df.same {K : PySem.W.Frag} {H H' : Hp} (s : Same H H') : ∀ (d : PyData) {v : V}, Df K H v d → Df K H' v d
  | .none, _, h => by cases h; exact .non
  | .bool b, _, h => by cases h; exact .bl b
  | .int i, _, h => by cases h; exact .int i
  | .str x, _, h => by cases h; exact .str x
  | .tuple ds, _, h => by
    cases h with
    | tup hs ha => exact .tup (sqT_same s hs) (DfAll.same s ds ha)
  | .list ds, _, h => by
    cases h with
    | lst hs hn ha => exact .lst (s.seq hs) hn (DfAll.same s ds ha)
  | .dict _, _, h => by
    cases h with
    | emp e => exact .emp (s _ _ e)
theorem DfAll.same {K : PySem.W.Frag} {H H' : Hp} (s : Same H H') : ∀ (ds : List PyData) {vs : List V}, DfAll K H vs ds → DfAll K H' vs ds
  | [], _, h => by cases h; exact .nil
  | d :: ds, _, h => by
    cases h with
    | cons h1 h2 => exact .cons (Df.same s d h1) (DfAll.same s ds h2)
end
section
variable {X : Cx} {pins : List (Addr × Obj)} {σ : L2.St} {H : Hp} {s : Shared}
mutual
theorem Df.reads (I : Inv X pins σ H s) : ∀ (d : PyData) {v : V} {u : Value}, Df X.K H v d → RelV v u → ∃ as, Reads s.heap u d as ∧ sysModules ∉ as
  | .none, _, _, h, r => by
    cases h
    cases r
    exact ⟨_, .none, by simp⟩
  | .bool b, _, _, h, r => by
    cases h
    cases r
    exact ⟨_, .bool b, by simp⟩
  | .int i, _, _, h, r => by
    cases h
    obtain ⟨t, rfl⟩ := r
    exact ⟨_, .int i t, by simp⟩
  | .str x, _, _, h, r => by
    cases h
    obtain ⟨t, rfl⟩ := r
    exact ⟨_, .str x t, by simp⟩
  | .list ds, _, _, h, r => by
    cases h with
    | lst hs hn ha =>
      cases r
      obtain ⟨its, rv, ⟨o, n, ho, hc, _, hd⟩, _⟩ := I.list hs
      obtain ⟨as, hr, na⟩ := DfAll.reads I ds ha rv
      refine ⟨_, Reads.list ho hc hd hr, fun z => ?_⟩
      rcases List.mem_cons.mp z with z | z
      · exact hn z.symm
      · exact na z
  | .tuple ds, _, _, h, r => by
    cases h with
    | tup hs ha =>
      cases r
      obtain ⟨its, rv, ⟨o, ho, hc, n, hd⟩, _⟩ := I.tuple hs
      obtain ⟨as, hr, na⟩ := DfAll.reads I ds ha rv
      exact ⟨_, Reads.tuple ho hc hd hr, na⟩
  | .dict kvs, _, _, h, r => by
    cases h with
    | emp e => exact De.reads I (.emp e) r
theorem DfAll.reads (I : Inv X pins σ H s) : ∀ (ds : List PyData) {vs : List V} {us : List Value}, DfAll X.K H vs ds → Vals vs us → ∃ as, ReadsAll s.heap us ds as ∧ sysModules ∉ as
  | [], _, _, h, r => by
    cases h
    cases r
    exact ⟨_, .nil, by simp⟩
  | d :: ds, _, _, h, r => by
    cases h with
    | cons h1 h2 =>
      cases r with
      | cons r1 r2 =>
        obtain ⟨as, q1, n1⟩ := Df.reads I d h1 r1
        obtain ⟨bs, q2, n2⟩ := DfAll.reads I ds h2 r2
        refine ⟨_, .cons q1 q2, fun z => ?_⟩
        rcases List.mem_append.mp z with z | z
        · exact n1 z
        · exact n2 z
end
end
section
variable {X : Cx}
theorem call_reprF {K : PySem.W.Frag} (hk : X.K = K) (hgu : X.A.guards = some []) (hu : X.A.units + 70 < cLine) : CallR X (.builtin "repr") (fun xs H Q => ∃ x d, xs = [x] ∧ Df K H x d ∧ d.showable = true ∧ d.depth ≤ 64 ∧ d.shown.length ≤ sizeLine ∧ Q (.str d.shown) H) := by
  subst hk
  intro pins s σ H xs us Q I r h
  obtain ⟨x, d, rfl, hd, hs, hdp, hz, q⟩ := h
  obtain ⟨u, rfl, rx⟩ := r.one
  obtain ⟨as, hr, na⟩ := hd.reads I d rx
  cases hr with
  | none => exact PySem.P.repr_of_none ⟨.str _, H, I.tok _, ⟨_, rfl⟩, q⟩
  | bool b => exact PySem.P.repr_of_bool ⟨.str _, H, I.tok _, ⟨_, rfl⟩, q⟩
  | int i t => exact PySem.P.repr_of_int (of_decide_eq_true hs) ⟨.str _, H, I.tok _, ⟨_, rfl⟩, q⟩
  | str z t => exact PySem.P.repr_of_str ⟨.str _, H, I.tok _, ⟨_, rfl⟩, q⟩ hz
  | list h1 h2 h3 h4 => exact repr_of_reads' (Reads.list h1 h2 h3 h4) hs (fun _ => na) hgu (by omega) (fun _ _ e => e) (fun h' u tk k => ⟨.str _, H, I.kept k, ⟨_, rfl⟩, q⟩) hz
  | tuple h1 h2 h3 h4 => exact repr_of_reads' (Reads.tuple h1 h2 h3 h4) hs (fun _ => na) hgu (by omega) (fun _ _ e => e) (fun h' u tk k => ⟨.str _, H, I.kept k, ⟨_, rfl⟩, q⟩) hz
  | dict h1 h2 h3 h4 h5 => exact repr_of_reads' (Reads.dict h1 h2 h3 h4 h5) hs (fun _ => na) hgu (by omega) (fun _ _ e => e) (fun h' u tk k => ⟨.str _, H, I.kept k, ⟨_, rfl⟩, q⟩) hz
/-- a list, laid; not the table of modules -/
def tLstB (t : TA) : TE := fun σ H Q => t σ H fun xs H1 => xs.length ≤ sizeLine ∧ ∀ p, H1 p = none → p ≠ sysModules → Q (.ref p) (upd H1 p (.lst xs))
theorem pe_lstB {es : List Expr} {t : TA} {pos : Pos} (h : PA X es t) : PE X (.List es pos) (tLstB t) := by
  constructor
  intro pins s σ H Q I hq
  refine wpAny_List_spliced (thn (h.run pos pins s σ H _ I hq) ?_)
  rintro us s1 ⟨xs, H1, I1, r, z, q⟩
  have hs := Nat.ne_of_gt I1.big
  exact ⟨by rw [← r.length]; exact z, .ref s1.heap.objs.size, _, I1.laid (t' := s1.toks) (fun b u e => Heap.get?_push_of_some _ e) (Nat.le_refl _) (o := .lst xs) ⟨z, us, 0, r, Heap.get?_push_size _ rfl⟩, rfl, q _ (I1.hok.fresh (Nat.le_refl _)) hs⟩
def rCatB : R2 := fun x y H Q => ∃ l b xs zs, x = .ref l ∧ y = .ref b ∧ H l = some (.lst xs) ∧ H b = some (.lst zs) ∧ xs.length + zs.length ≤ sizeLine ∧ ∀ p, H p = none → p ≠ sysModules → Q (.ref p) (upd H p (.lst (xs ++ zs)))
theorem op_catB : OpR X (binaryOp .Add) rCatB := by
  intro pins s σ H x y v u Q I rx ry h
  obtain ⟨l, b, xs, zs, rfl, rfl, hL, hB, hz, q⟩ := h
  cases rx
  cases ry
  obtain ⟨z1, i1, n1, r1, g1, e1⟩ := I.lstM hL
  obtain ⟨z2, i2, n2, r2, g2, e2⟩ := I.lstM hB
  refine PySem.P.add_list e1 e2 ?_ (by simp only [List.size_toArray]; omega)
  rw [show i1.toArray ++ i2.toArray = (i1 ++ i2).toArray by simp]
  exact ⟨.ref _, _, I.lnew (t' := s.toks) (r1.append r2) (by rw [List.length_append]; omega), rfl, q _ I.fresh (Nat.ne_of_gt I.big)⟩
end
end XB
set_option Elab.async false
set_option linter.all false
set_option maxRecDepth 100000
set_option maxHeartbeats 4000000
/-! closers for readings of lists and tuples -/
namespace XB
open PySem PySem.Spec PyProof.Rows L2
theorem one_sz : 1 ≤ sizeLine := by decide
theorem two_sz : 2 ≤ sizeLine := by decide
theorem three_sz : 3 ≤ sizeLine := by decide
theorem slL {K : PySem.W.Frag} {H : Hp} {D : Addr} {ys : List V} {lo hi : Option Int} {Q : VK} (h : H D = some (.lst ys)) (q : ∀ H' p, Same H H' → H p = none → H' p = some (.lst (cutV ys lo hi)) → Q (.ref p) H') : rSlL K (.ref D) lo hi H Q :=
  ⟨D, ys, rfl, SqL.of h, fun p hp => q _ p (same_upd hp) hp upd_same⟩
theorem catL {H : Hp} {a b : Addr} {xs ys : List V} {Q : VK} (h1 : H a = some (.lst xs)) (h2 : H b = some (.lst ys)) (hl : xs.length + ys.length ≤ sizeLine) (q : ∀ H' p, Same H H' → H p = none → H' p = some (.lst (xs ++ ys)) → Q (.ref p) H') : rCat (.ref a) (.ref b) H Q :=
  ⟨a, b, xs, ys, rfl, rfl, h1, h2, hl, fun p hp => q _ p (same_upd hp) hp upd_same⟩
/-- a new object's heap as any heap that keeps what stood -/
@[elab_as_elim] theorem upd_gen {H : Hp} {p : Addr} {o : HO} {motive : Hp → Prop} (hp : H p = none) (q : ∀ H', Same H H' → H' p = some o → motive H') : motive (upd H p o) := q _ (same_upd hp) upd_same
theorem at_nil {α : Type} {x : α} {xs : List α} : atI (x :: xs) 0 = some x := atI_nat (j := 0) rfl
theorem ix0 {K : PySem.W.Frag} {σ : L2.St} {H : Hp} {b : Addr} {x : V} {xs : List V} {Q : VK} (h : SqT K H b (x :: xs)) (q : Q x H) : tC (.int 0) σ H (fun y H2 => rIxT K (.ref b) y H2 Q) := ⟨b, _, 0, x, rfl, rfl, h, at_nil, q⟩
theorem at_one {α : Type} {x y : α} {xs : List α} : atI (x :: y :: xs) 1 = some y := atI_nat (j := 1) rfl
theorem ix1 {K : PySem.W.Frag} {σ : L2.St} {H : Hp} {b : Addr} {x y : V} {xs : List V} {Q : VK} (h : SqT K H b (x :: y :: xs)) (q : Q y H) : tC (.int 1) σ H (fun z H2 => rIxT K (.ref b) z H2 Q) := ⟨b, _, 1, y, rfl, rfl, h, at_one, q⟩
theorem op_catAk {X : Cx} {K : PySem.W.Frag} (hk : X.K = K) : OpR X (binaryOp .Add) (rCatA K) := by
  subst hk
  exact op_catA
theorem catA {K : PySem.W.Frag} {H : Hp} {a b : Addr} {xs ys : List V} {Q : VK} (ha : SqT K H a xs) (hb : SqT K H b ys) (hl : xs.length + ys.length ≤ sizeLine) (q : ∀ H' p, Same H H' → SqT K H' p (xs ++ ys) → Q (.ref p) H') : rCatA K (.ref a) (.ref b) H Q :=
  ⟨a, b, xs, ys, rfl, rfl, ha, hb, hl, fun e => q H b (Same.refl _) (by rw [e]; exact hb), fun _ e => q H a (Same.refl _) (by rw [e, List.append_nil]; exact ha), fun _ _ p hp => q _ p (same_upd hp) (SqT.of upd_same)⟩
/-- an if whose else is shown once -/
theorem ifS_by {c : TT} {t u : TS} {D : Ends} {σ : L2.St} {H : Hp} (he : ∀ H', Same H H' → u D σ H') (hc : (∀ H', Same H H' → u D σ H') → c σ H (fun b H1 => if b = true then t D σ H1 else u D σ H1)) : tIfS c t u D σ H := hc he
theorem ix0L {K : PySem.W.Frag} {σ : L2.St} {H : Hp} {b : Addr} {x : V} {xs : List V} {Q : VK} (h : H b = some (.lst (x :: xs))) (q : Q x H) : tC (.int 0) σ H (fun y H2 => rIxL K (.ref b) y H2 Q) := ⟨b, _, 0, x, rfl, rfl, SqL.of h, at_nil, q⟩
theorem four_sz : 4 ≤ sizeLine := by decide
theorem by_q {t : TE} {σ : L2.St} {H : Hp} {Q : VK} (C : V → Hp → Prop) (h : ∀ Qx : VK, (∀ v H', C v H' → Qx v H') → t σ H Qx) (hq : ∀ v H', C v H' → Q v H') : t σ H Q := h Q hq
theorem Paired.get {α β : Type} {R : α → β → Prop} : ∀ {l : List α} {l' : List β} {i : Nat} {x : α}, Paired R l l' → l[i]? = some x → ∃ y, l'[i]? = some y ∧ R x y
  | _, _, _, _, .nil, e => by simp at e
  | _, _, 0, _, .cons h _, e => by
    cases e
    exact ⟨_, rfl, h⟩
  | _, _, i + 1, _, .cons _ t, e => Paired.get (i := i) t (by simpa using e)
end XB
set_option Elab.async false
set_option linter.all false
set_option maxRecDepth 100000
set_option maxHeartbeats 8000000
namespace XB
open PySem PySem.Spec PyProof.Rows L2
/-- a refusal as it is raised: its word, and its one field -/
def RefC (K : PySem.W.Frag) (mg : Str → Option Value) (cls : Value) (d : Option Addr) (H : Hp) (word : Str) (y : V) : Prop :=
  ∃ (x f : Str) (C dx : Addr), ((x, f, word) : Str × Str × Str) ∈ ([("BadField", "part", "field"), ("BadScript", "place", "script"), ("BadYard", "part", "yard"), ("BadSpot", "value", "spot")] : List (Str × Str × Str)) ∧ mg x = some (.ref C) ∧ ExcC K C ∧ cls = .ref C ∧ d = some dx ∧ H dx = some (.xd [(f, y)])
/-- what is made of what a call tells -/
def TTheard (K : PySem.W.Frag) (mg : Str → Option Value) : (XK → Hp → VK → Prop) → Hp → VK → Prop := fun tl H Q => ∃ E : XK,
  (∀ H0 (Qx : VK), Same H H0 → (∀ v H1, (∀ H' r, Same H1 H' → H1 r = none → H' r = some (.lst [v]) → Q (.ref r) H') → Qx v H1) → tl E H0 Qx) ∧
  ∀ cls d H1, E cls d H1 → ∃ word y, RefC K mg cls d H1 word y ∧ ∀ H' r, Same H1 H' → SqT K H' r [.str word, y] → Q (.ref r) H'
/-- what is known of the classes, by the number of the word -/
theorem ref_kits {K : PySem.W.Frag} {mg : Str → Option Value} (T : Tx K mg) {x f word : Str} (h : ((x, f, word) : Str × Str × Str) ∈ ([("BadField", "part", "field"), ("BadScript", "place", "script"), ("BadYard", "part", "yard"), ("BadSpot", "value", "spot")] : List (Str × Str × Str))) :
    ∃ k : Nat, ((k = 0 ∧ f = "part" ∧ word = "field") ∨ (k = 1 ∧ f = "place" ∧ word = "script") ∨ (k = 3 ∧ f = "part" ∧ word = "yard") ∨ (k = 4 ∧ f = "value" ∧ word = "spot")) ∧ NoF K mg x f ∧ Exm K mg x "PileError" true ∧
      Kit K mg x "BadField" (k == 0) ∧ Kit K mg x "BadScript" (k == 1) ∧ Kit K mg x "BadMoves" (k == 2) ∧ Kit K mg x "BadYard" (k == 3) ∧ Kit K mg x "BadSpot" (k == 4) ∧ Kit K mg x "BadPaper" (k == 5) ∧ KitB K mg x "ValueError" true := by
  simp only [List.mem_cons, List.not_mem_nil, or_false, Prod.mk.injEq] at h
  rcases h with ⟨rfl, rfl, rfl⟩ | ⟨rfl, rfl, rfl⟩ | ⟨rfl, rfl, rfl⟩ | ⟨rfl, rfl, rfl⟩
  · exact ⟨0, .inl ⟨rfl, rfl, rfl⟩, T.n_BadField_part, T.x_BadField_PileError, T.i_BadField_BadField, T.i_BadField_BadScript, T.i_BadField_BadMoves, T.i_BadField_BadYard, T.i_BadField_BadSpot, T.i_BadField_BadPaper, T.i_BadField_ValueError⟩
  · exact ⟨1, .inr (.inl ⟨rfl, rfl, rfl⟩), T.n_BadScript_place, T.x_BadScript_PileError, T.i_BadScript_BadField, T.i_BadScript_BadScript, T.i_BadScript_BadMoves, T.i_BadScript_BadYard, T.i_BadScript_BadSpot, T.i_BadScript_BadPaper, T.i_BadScript_ValueError⟩
  · exact ⟨3, .inr (.inr (.inl ⟨rfl, rfl, rfl⟩)), T.n_BadYard_part, T.x_BadYard_PileError, T.i_BadYard_BadField, T.i_BadYard_BadScript, T.i_BadYard_BadMoves, T.i_BadYard_BadYard, T.i_BadYard_BadSpot, T.i_BadYard_BadPaper, T.i_BadYard_ValueError⟩
  · exact ⟨4, .inr (.inr (.inr ⟨rfl, rfl, rfl⟩)), T.n_BadSpot_value, T.x_BadSpot_PileError, T.i_BadSpot_BadField, T.i_BadSpot_BadScript, T.i_BadSpot_BadMoves, T.i_BadSpot_BadYard, T.i_BadSpot_BadSpot, T.i_BadSpot_BadPaper, T.i_BadSpot_ValueError⟩
def wordsH : List Str := ["field", "script", "moves", "yard", "spot", "paper"]
theorem nine {σ : L2.St} (h : σ.length = 9) : ∃ a b c d e f g i j, σ = [a, b, c, d, e, f, g, i, j] := by
  match σ, h with
  | [a, b, c, d, e, f, g, i, j], _ => exact ⟨a, b, c, d, e, f, g, i, j, rfl⟩
theorem heard_gives {X : Cx} (T : Tx X.K X.mg) {g : Addr} {cdg : Value} {q : Str} : LamX.GivesTo X ["call", "heard", "error", "e", "kinds_so", "words", "found", "one", "is_so"] "_law_heard" (defScope s__law_heard) g cdg (defBody s__law_heard) "call" q (TTheard X.K X.mg) := by
  obtain ⟨xP, xw, K, mg, xb, xA, xN, xs, xH, xenv, xo, xst, xex, xfn, xcalm, xpn, xxe⟩ := X
  have T : Tx K mg := T
  intro f c' s H Q tl act hc h
  refine id ?_
  · obtain ⟨E, h1, h2⟩ := h
    have nd := sc__law_heard.nd
    obtain ⟨cPE, h_PileError⟩ := T.c_PileError
    obtain ⟨c5, h_BadField⟩ := T.c_BadField
    obtain ⟨c6, h_BadScript⟩ := T.c_BadScript
    obtain ⟨c7, h_BadMoves⟩ := T.c_BadMoves
    obtain ⟨c8, h_BadYard⟩ := T.c_BadYard
    obtain ⟨c9, h_BadSpot⟩ := T.c_BadSpot
    obtain ⟨c10, h_BadPaper⟩ := T.c_BadPaper
    refine ⟨_, (pss_cons (ps_par (i := 1) (j := 2) rfl nd rfl rfl (by decide) rfl rfl (pa_cons (pe_lst pa_nil) (pa_cons pe_non pa_nil)) rfl)
    (pss_cons (ps_keepN (i := 3) (tb := fun W D σ H => ∃ Ech : XK, (∀ cls d σ' H', Ech cls d H' → W cls d σ' H') ∧ σ[0]? = some (some (V.ref f)) ∧ H c' = some (LamX.CodeO c' q) ∧ tl Ech H (fun v H1 => 1 ≤ sizeLine ∧ ∀ p, H1 p = none → D.nx (σ.set 1 (some (.ref p))) (upd H1 p (.lst [v])))) rfl rfl rfl nd rfl rfl ⟨by rfl, by decide, .inl h_PileError⟩ takes0 (fun W pn xe tk _ => by
        refine ⟨fun pins s2 σ2 H2 D2 I2 hh => ?_⟩
        obtain ⟨Ech, hW, k1, k2, k3⟩ := hh
        exact PSs.run (pss_one (ps_set (i := 1) nd rfl (.inl rfl) (pe_lst (pa_cons (act W pn xe Ech _ _ tk hW) pa_nil)))) pins s2 σ2 H2 D2 I2 ⟨k1, k2, k3⟩)
    (fun a oe cls d pn hz hf => by exact (pss_one (ps_set (i := 2) nd rfl (.inl rfl) (pv 3)))))
    (pss_cons (ps_if (pt_cmpR op_isN (pv 2) pe_non (nomark _)) (pss_one (ps_ret (pv 1))) pss_nil)
    (pss_cons (ps_set (i := 4) nd rfl (.inl rfl) (pe_lst (pa_cons (pe_callB (call_isX (K := K) rfl) (by rfl) T.b_isinstance (by decide +kernel) (pa_cons (pv 2) (pa_cons (pe_glob (v := .ref _) (by rfl) h_BadField rfl) pa_nil))) (pa_cons (pe_callB (call_isX (K := K) rfl) (by rfl) T.b_isinstance (by decide +kernel) (pa_cons (pv 2) (pa_cons (pe_glob (v := .ref _) (by rfl) h_BadScript rfl) pa_nil))) (pa_cons (pe_callB (call_isX (K := K) rfl) (by rfl) T.b_isinstance (by decide +kernel) (pa_cons (pv 2) (pa_cons (pe_glob (v := .ref _) (by rfl) h_BadMoves rfl) pa_nil))) pa_nil)))))
    (pss_cons (ps_set (i := 4) nd rfl (.inl rfl) (pe_op op_cat (pv 4) (pe_lst (pa_cons (pe_callB (call_isX (K := K) rfl) (by rfl) T.b_isinstance (by decide +kernel) (pa_cons (pv 2) (pa_cons (pe_glob (v := .ref _) (by rfl) h_BadYard rfl) pa_nil))) (pa_cons (pe_callB (call_isX (K := K) rfl) (by rfl) T.b_isinstance (by decide +kernel) (pa_cons (pv 2) (pa_cons (pe_glob (v := .ref _) (by rfl) h_BadSpot rfl) pa_nil))) (pa_cons (pe_callB (call_isX (K := K) rfl) (by rfl) T.b_isinstance (by decide +kernel) (pa_cons (pv 2) (pa_cons (pe_glob (v := .ref _) (by rfl) h_BadPaper rfl) pa_nil))) pa_nil))))))
    (pss_cons (ps_set (i := 5) nd rfl (.inl rfl) (pe_lst (pa_cons pe_str (pa_cons pe_str (pa_cons pe_str (pa_cons pe_str (pa_cons pe_str (pa_cons pe_str pa_nil))))))))
    (pss_cons (ps_setLc (i := 6) (own := [("one", 7), ("is_so", 8)]) (g := (gTup K 2 (gCons (gName 7) (gCons (gName 8) gNil)))) (tt := _) rfl nd rfl rfl (sw_true rfl rfl rfl (by decide +kernel)) (RZ.pi_zipA (by rfl) T.b_zip (pa_cons (pv 5) (pa_cons (pv 4) pa_nil))) (blkOk_by (own := [("one", 7), ("is_so", 8)]) (N := ["call", "heard", "error", "e", "kinds_so", "words", "found", "one", "is_so"]) (sc := defScope s__law_heard) (by decide +kernel)) (fun _ _ _ _ _ => (pg_tup rfl (pgs_cons (pg_name (i := 7) nd rfl (by first | exact Or.inl rfl | exact Or.inr rfl)) (pgs_cons (pg_name (i := 8) nd rfl (by first | exact Or.inl rfl | exact Or.inr rfl)) pgs_nil)))) (fun _ _ _ _ _ => pts_one (pt_val (pv 8))) (fun _ _ _ _ _ => (pv 7)))
    (pss_cons (ps_if (PW.pt (pw_or (pt_cmpR op_ne (pe_lenS (by rfl) T.b_len (pv 6)) pe_int (nomark _)) (pw_or1 (pt_not (pt_val (pe_callB (call_isX (K := K) rfl) (by rfl) T.b_isinstance (by decide +kernel) (pa_cons (pv 2) (pa_cons (pe_bltn (v := .ty "ValueError") (by rfl) T.b_ValueError (by rfl) rfl) pa_nil)))))))) (pss_one (ps_ret pe_str)) pss_nil)
    (pss_cons (ps_if (pt_cmpR (opk_in_seq (K := K) rfl) (pe_ix (ixk_list (K := K) rfl) (pv 6) pe_int (fun _ _ => rfl)) (pe_tup (pa_cons pe_str (pa_cons pe_str pa_nil))) (by rfl)) (pss_one (ps_ret (pe_tup (pa_cons (pe_ix (ixk_list (K := K) rfl) (pv 6) pe_int (fun _ _ => rfl)) (pa_cons (pe_xo (K := K) rfl (pv 2)) pa_nil))))) pss_nil)
    (pss_cons (ps_if (pt_cmpR (opk_in_seq (K := K) rfl) (pe_ix (ixk_list (K := K) rfl) (pv 6) pe_int (fun _ _ => rfl)) (pe_tup (pa_cons pe_str (pa_cons pe_str pa_nil))) (by rfl)) (pss_one (ps_ret (pe_tup (pa_cons (pe_ix (ixk_list (K := K) rfl) (pv 6) pe_int (fun _ _ => rfl)) (pa_cons (pe_xo (K := K) rfl (pv 2)) pa_nil))))) pss_nil)
    (pss_one (ps_ret (pe_tup (pa_cons (pe_ix (ixk_list (K := K) rfl) (pv 6) pe_int (fun _ _ => rfl)) (pa_cons (pe_ifExp (pt_cmpR op_eq (pe_ix (ixk_list (K := K) rfl) (pv 6) pe_int (fun _ _ => rfl)) pe_str (nomark _)) (pe_xo (K := K) rfl (pv 2)) (pe_xo (K := K) rfl (pv 2))) pa_nil))))))))))))))), ?_⟩
    refine ⟨Nat.zero_le _, fun L nL => upd_gen nL fun H1 s1 e1 => ⟨_, _, rfl, ?_⟩⟩
    refine ⟨E, fun cls d σ' H2 hE hlen => ?_, rfl, s1 _ _ hc, ?_⟩
    · obtain ⟨word, y, ⟨x, fn, C, dx, hm, hC, hT, rfl, rfl, ed⟩, hq⟩ := h2 cls d H2 hE
      obtain ⟨k, hk, nf, xm, k0, k1, k2, k3, k4, k5, kV⟩ := ref_kits T hm
      refine ⟨true, xm C cPE hC h_PileError, fun _ a na => ?_, fun z => (nomatch z)⟩
      obtain ⟨x0, x1, x2, x3, x4, x5, x6, x7, x8, rfl⟩ := nine hlen
      refine ⟨_, rfl, ?_⟩
      have hEx : Ex1 K mg x (upd H2 a (exg a (.ref C) (some dx))) a [(fn, y)] := ⟨C, hC, hT, dx, .inr upd_same, .inr (by
        rw [upd_ne (ne_of_none ed na)]
        exact ed)⟩
      have sx : Same H2 (upd H2 a (exg a (.ref C) (some dx))) := same_upd na
      refine ⟨_, rfl, rfl, _, rfl, iteF ?_⟩
      refine ⟨_, rfl, is_at hEx k0 h_BadField ⟨_, rfl, is_at hEx k1 h_BadScript ⟨_, rfl, is_at hEx k2 h_BadMoves ⟨three_sz, fun p1 n1 => upd_gen n1 fun J1 j1 f1 => ?_⟩⟩⟩⟩
      have E1 := hEx.same j1
      refine ⟨_, rfl, _, rfl, is_at E1 k3 h_BadYard ⟨_, rfl, is_at E1 k4 h_BadSpot ⟨_, rfl, is_at E1 k5 h_BadPaper ⟨three_sz, fun p2 n2 => upd_gen n2 fun J2 j2 f2 => ?_⟩⟩⟩⟩
      refine catL (j2 _ _ f1) f2 (show 3 + 3 ≤ sizeLine by decide) fun J3 p3 j3 n3 f3 => ?_
      have E3 := (E1.same j2).same j3
      refine ⟨(show 6 ≤ sizeLine by decide), fun p4 n4 => upd_gen n4 fun J4 j4 f4 => ?_⟩
      have E4 := E3.same j4
      have f3' := j4 _ _ f3
      refine ⟨_, rfl, _, rfl, p4, p3, wordsH.map V.str, [k == 0, k == 1, k == 2, k == 3, k == 4, k == 5].map V.bl, rfl, .inl ⟨SqL.of f4, SqL.of f3', fun D nD => ?_⟩⟩
      refine lc_it (walk_zip (xs := wordsH.map V.str) (ys := [k == 0, k == 1, k == 2, k == 3, k == 4, k == 5].map V.bl) rfl) (fun i H' => H' D = some (.lst ((if k < i then [word] else []).map V.str)) ∧ Same J4 H') ⟨upd_same, same_upd nD⟩ (fun i H' _ ⟨_, s'⟩ => ⟨s'.seq (SqL.of f4), s'.seq (SqL.of f3')⟩) (fun i v H8 H9 hi ⟨eD, s'⟩ hy => ?_) (fun H8 ⟨eD, s'⟩ => ?_)
      · obtain ⟨Tt, v1, v2, rfl, nT, rfl, g1, g2⟩ := hy
        have hi : i < 6 := hi
        obtain ⟨w1, g3, rfl⟩ := str_at g1
        have g4 : v2 = V.bl (k == i) := by
          rcases (show i = 0 ∨ i = 1 ∨ i = 2 ∨ i = 3 ∨ i = 4 ∨ i = 5 by omega) with h | h | h | h | h | h <;> subst h <;> exact (Option.some.inj g2).symm
        subst g4
        have nDT : D ≠ Tt := ne_of_none eD nT
        refine ⟨Tt, _, rfl, SqT.of upd_same, rfl, _, _, rfl, _, _, rfl, rfl, rfl, _, rfl, _, rfl, ite2 (fun hb => ?_) (fun hb => ?_)⟩
        · have hb : k = i := by simpa using hb
          subst hb
          rw [if_neg (by omega)] at eD
          refine ⟨_, rfl, [], by rw [upd_ne nDT]; exact eD, by decide, ?_, same_put (same_new s' nT) nD⟩
          rw [upd_same, if_pos (by omega)]
          have : w1 = word := by
            rcases hk with ⟨h, _, h'⟩ | ⟨h, _, h'⟩ | ⟨h, _, h'⟩ | ⟨h, _, h'⟩ <;> subst h <;> subst h' <;> exact (Option.some.inj g3).symm
          rw [this]
          rfl
        · have hb : k ≠ i := fun z => hb (by simp [z])
          refine ⟨?_, same_new s' nT⟩
          rw [upd_ne nDT, eD]
          by_cases q : k < i
          · rw [if_pos q, if_pos (by omega)]
          · rw [if_neg q, if_neg (by omega)]
      · rw [if_pos (by
          show k < 6
          rcases hk with ⟨h, _⟩ | ⟨h, _⟩ | ⟨h, _⟩ | ⟨h, _⟩ <;> omega)] at eD
        have eD : H8 D = some (.lst [.str word]) := eD
        have E8 := E4.same s'
        refine ⟨_, rfl, D, _, rfl, .inl (SqL.of eD), rfl, _, rfl, ?_⟩
        refine ite2 (fun h => absurd h (by simp)) (fun _ => ?_)
        refine ⟨_, rfl, is_atB E8 kV ⟨_, rfl, iteF ?_⟩⟩
        have s2J : Same H2 J4 := sx.trans (j1.trans (j2.trans (j3.trans j4)))
        have s28 := s2J.trans s'
        refine ⟨_, rfl, ix0L eD ⟨two_sz, fun p9 n9 => upd_gen n9 fun H9 s9 e9 => ⟨p9, _, rfl, .inr (SqT.of e9), rfl, rfl, _, rfl, ?_⟩⟩⟩
        have one : ∀ {P1 : Prop}, P1 → P1 := fun p => p
        rcases hk with ⟨rfl, rfl, rfl⟩ | ⟨rfl, rfl, rfl⟩ | ⟨rfl, rfl, rfl⟩ | ⟨rfl, rfl, rfl⟩
        · exact iteT ⟨_, rfl, ix0L (s9 _ _ eD) ⟨_, rfl, xo_at (E8.same s9) nf rfl ⟨two_sz, fun r nr => upd_gen nr fun H10 s10 e10 => hq H10 r (s28.trans (s9.trans s10)) (SqT.of e10)⟩⟩⟩
        · refine iteF ⟨_, rfl, ix0L (s9 _ _ eD) ⟨two_sz, fun p10 n10 => upd_gen n10 fun H10 s10 e10 => ⟨p10, _, rfl, .inr (SqT.of e10), rfl, rfl, _, rfl, ?_⟩⟩⟩
          have s910 := s9.trans s10
          exact iteT ⟨_, rfl, ix0L (s910 _ _ eD) ⟨_, rfl, xo_at (E8.same s910) nf rfl ⟨two_sz, fun r nr => upd_gen nr fun H11 s11 e11 => hq H11 r (s28.trans (s910.trans s11)) (SqT.of e11)⟩⟩⟩
        · exact iteT ⟨_, rfl, ix0L (s9 _ _ eD) ⟨_, rfl, xo_at (E8.same s9) nf rfl ⟨two_sz, fun r nr => upd_gen nr fun H10 s10 e10 => hq H10 r (s28.trans (s9.trans s10)) (SqT.of e10)⟩⟩⟩
        · refine iteF ⟨_, rfl, ix0L (s9 _ _ eD) ⟨two_sz, fun p10 n10 => upd_gen n10 fun H10 s10 e10 => ⟨p10, _, rfl, .inr (SqT.of e10), rfl, rfl, _, rfl, ?_⟩⟩⟩
          have s910 := s9.trans s10
          refine iteF ⟨_, rfl, ix0L (s910 _ _ eD) ⟨_, rfl, ix0L (s910 _ _ eD) ⟨rfl, _, rfl, iteT ⟨_, rfl, xo_at (E8.same s910) nf rfl ⟨two_sz, fun r nr => upd_gen nr fun H11 s11 e11 => hq H11 r (s28.trans (s910.trans s11)) (SqT.of e11)⟩⟩⟩⟩⟩
    · refine h1 H1 _ s1 fun v H2 hv => ⟨one_sz, fun p np => ?_⟩
      refine upd_gen np fun H3 s3 e3 => ?_
      exact ⟨_, rfl, rfl, _, rfl, iteT ⟨_, rfl, hv H3 p s3 np e3⟩⟩
end XB
set_option Elab.async false
set_option linter.all false
set_option maxRecDepth 100000
set_option maxHeartbeats 4000000
/-! of which kind a value is, by its data -/
namespace XB
open PySem PySem.Spec PyProof.Rows L2
def tyD : PyData → String
  | .none => "NoneType"
  | .bool _ => "bool"
  | .int _ => "int"
  | .str _ => "str"
  | .list _ => "list"
  | .tuple _ => "tuple"
  | .dict _ => "dict"
theorem tyx_lst {K : PySem.W.Frag} {H : Hp} {a : Addr} {xs : List V} (h : SqL K H a xs) : TyX K H (.ref a) (.type "list") := by
  rcases h with (h | ⟨o, h⟩) | ⟨o, its, n, hk, hc, _⟩
  · exact .base (.lst h)
  · exact .base (.frz h)
  · exact .kList hk hc
theorem tyx_data {K : PySem.W.Frag} {H : Hp} {v : V} {d : PyData} (h : Dp K H v d) : TyX K H v (.type (tyD d)) := by
  cases h with
  | non => exact .base .non
  | bl b => exact .base (.bl b)
  | int i => exact .base (.int i)
  | str s => exact .base (.str s)
  | lst h1 _ => exact tyx_lst h1
  | tup h1 _ => exact tyx_tup h1
/-- isinstance by data -/
def isD (T : String) : PyData → Bool
  | .bool _ => T == "bool" || T == "int"
  | d => T == tyD d
theorem kit_data {K : PySem.W.Frag} {H : Hp} {v : V} {d : PyData} {T : String} (hT : T = "tuple" ∨ T = "list" ∨ T = "str" ∨ T = "int" ∨ T = "bool") (h : Dp K H v d) : PySem.W.kitOne K (.type (tyD d)) (.type T) = some (isD T d) := by
  refine kit_ty ?_
  rcases hT with rfl | rfl | rfl | rfl | rfl <;> cases h <;> first | decide +kernel | rfl
end XB
set_option Elab.async false
set_option linter.all false
set_option maxRecDepth 100000
set_option maxHeartbeats 4000000
namespace XB
open PySem PySem.Spec PyProof.Rows L2
/-! what the program takes for a whole number, a pair, a step: of any data -/
def wholeD : PyData → Bool
  | .int _ => true
  | _ => false
section
variable {P : Program} {w : World} {K : PySem.W.Frag} {mg : Str → Option Value} {base : Heap}
def spWholeD (K : PySem.W.Frag) : Sp := fun vs H Q _ => ∃ (v : V) (d : PyData), vs = [v] ∧ Dp K H v d ∧ Q (.bl (wholeD d)) H
theorem c_is_wholeD (T : Tx K mg) : Cl P w K mg base CX0 1 "is_whole" (spWholeD K) := by
  refine cl0 T.d_is_whole (ps := ["value"]) (fun _ _ _ _ _ _ us hl => match us, hl with | [_], _ => rfl) sc_is_whole (fun vs H Q E h => ?_) (fun f cdv A outer st H vs Q E hr h => ?_)
  · obtain ⟨v, d, rfl, _⟩ := h
    rfl
  · obtain ⟨v, d, rfl, hd, q⟩ := h
    have nd := sc_is_whole.nd
    refine ⟨_, (pss_one (ps_ret (pe_and (pe_isT "int" (by rfl) T.b_isinstance (by rfl) T.b_int (by decide +kernel) (pv 0)) (pe_one (pe_not (pe_isT "bool" (by rfl) T.b_isinstance (by rfl) T.b_bool (by decide +kernel) (pv 0))))))), ?_⟩
    refine ⟨_, rfl, v, .ty "int", _, _, _, rfl, .ty _, tyx_data hd, kit_data (.inr (.inr (.inr (.inl rfl)))) hd, _, rfl, ?_⟩
    by_cases h1 : isD "int" d = true
    · rw [if_pos h1]
      refine ⟨_, rfl, v, .ty "bool", _, _, _, rfl, .ty _, tyx_data hd, kit_data (.inr (.inr (.inr (.inr rfl)))) hd, _, rfl, ?_⟩
      have e : (!isD "bool" d) = wholeD d := by
        cases d <;> first | rfl | (exfalso; simp [isD, tyD] at h1)
      rw [e]
      exact q
    · rw [if_neg h1]
      have e : wholeD d = false := by
        cases d <;> first | rfl | exact absurd rfl h1
      rw [e] at q
      exact q
end
end XB
set_option Elab.async false
set_option linter.all false
set_option maxRecDepth 100000
set_option maxHeartbeats 4000000
/-! sorted(xs): alike data, in a list or a tuple, of any length; tuples of which the first is empty, too -/
namespace XSo
open PySem PySem.Spec PySem.W PySem.SeqAt PySem.Calls PyProof.Rows
section
variable {prog : Program} {w : World} {A : Around} {s : Shared} {E : Value → Shared → Prop}
theorem call_tuple_lt {Q : Value → Shared → Prop} {l b : Addr} {items items2 : Array Value} {e r : Nat → Bool} (hl : s.heap.IsTuple l items) (hb : s.heap.IsTuple b items2)
    (he : ∀ j (h1 : j < items.size) (h2 : j < items2.size), EqAt A.in1 s items[j] items2[j] (e j)) (hr : ∀ j (h1 : j < items.size) (h2 : j < items2.size), e j = false → RcLt A.in1 s items[j] items2[j] (r j))
    (h : Q (.bool (firstLt e r (decide (items.size < items2.size)) (List.range (min items.size items2.size)))) s) : wpAny (model prog w) A (call (.builtin "tuple.__lt__") [.ref l, .ref b]) Q E s := by
  obtain ⟨⟨cls, dd, data, sl⟩, ho, hc, n, hd⟩ := id hl
  obtain ⟨⟨cls2, dd2, data2, sl2⟩, ho2, hc2, n2, hd2⟩ := id hb
  simp only at hc hd hc2 hd2
  subst hc hd hc2 hd2
  exact call_meets F.slot_tuple_lt ⟨_, ho, rfl⟩ F.entry_tuple_lt (F.args_tuple_lt_2 _ _) (tuple_ltAt l b items items2 n n2 dd dd2 sl sl2 e r) ⟨ho, ho2, he, hr, h⟩
theorem oneLt_tuple {xs ys : List PyData} {a b : Value} {as bs : List Addr} {Q : Bool → Shared → Prop} (ra : Reads s.heap a (.tuple xs) as) (rb : Reads s.heap b (.tuple ys) bs) (hal : alikeAll xs ys = true)
    (hu : A.units + min (PyData.tuple xs).depth (PyData.tuple ys).depth < cLine) (hq : Q (dataLt (.tuple xs) (.tuple ys)) s) : wpAny (model prog w) A (oneLt' true a b) Q E s := by
  cases ra with
  | @tuple l o vs n _ as₁ h1 h2 h3 h4 =>
    cases rb with
    | @tuple l' o' vs' n' _ bs₁ k1 k2 k3 k4 =>
      have n1 : vs.size = xs.length := by simpa using ReadsAll.length _ _ _ h4
      have n2 : vs'.size = ys.length := by simpa using ReadsAll.length _ _ _ k4
      rw [dataLt_tuple, ← firstLt_toks xs ys hal, ← n1, ← n2] at hq
      rw [oneLt'_eq]
      simp only [if_true]
      refine wpAny_bind (wpAny_cRoomFor (room_here hu) ?_)
      refine wpAny_bind (wpAny_callSpecialIfBound?_slot (T := "tuple") ⟨_, h1, h2⟩ F.slot_tuple_lt (call_tuple_lt (e := pairEq xs ys) (r := fun j => dataLt (xs.getD j .none) (ys.getD j .none)) ⟨_, h1, h2, _, h3⟩ ⟨_, k1, k2, _, k3⟩ (fun j j1 j2 => ?_) (fun j j1 j2 hj => ?_) ?_))
      · have := eqAt_alikeAll xs ys A.in1 s vs.toList vs'.toList _ _ h4 k4 hal (room_in hu) j (by simpa using j1) (by simpa using j2)
        simpa using this
      · have := rcLt_alikeAll xs ys A.in1 s vs.toList vs'.toList _ _ h4 k4 hal (room_in hu) j (by simpa using j1) (by simpa using j2) hj
        simpa using this
      · exact wpAny_truthy_bool hq
/-- what sorting asks of a value first -/
def gFirst (h : Heap) : Value → Option Value
  | .ref a => match h.get? a with
    | some o => match o.data with
      | .seq xs _ => xs[0]?
      | _ => none
    | none => none
  | _ => none
theorem first_at {xs : List PyData} {a : Value} {as : List Addr} {Q : Option Value → Shared → Prop} (r : Reads s.heap a (.tuple xs) as) (h : Q (gFirst s.heap a) s) : wpAny (model prog w) A (firstOfTuple' a) Q E s := by
  cases r with
  | @tuple l o vs n _ as₁ h1 h2 h3 h4 =>
    have e : gFirst s.heap (.ref l) = vs[0]? := by
      simp only [gFirst, h1, h3]
    rw [e] at h
    rw [kas_first_eq]
    refine wpAny_bind (wpAny_typeOf (T := "tuple") ⟨o, h1, h2⟩ ?_)
    rw [if_neg (by decide)]
    exact wpAny_bind (listItems_at h1 h3 (wpAny_pure h))
theorem first_nil {a : Value} {as : List Addr} (r : Reads s.heap a (.tuple []) as) : gFirst s.heap a = none := by
  cases r with
  | @tuple l o vs n _ as₁ h1 h2 h3 h4 =>
    have n1 : vs.size = 0 := by simpa using ReadsAll.length _ _ _ h4
    simp only [gFirst, h1, h3]
    exact Array.getElem?_eq_none (by omega)
theorem mapM_firsts : ∀ (l : List Value) {Q : List (Option Value) → Shared → Prop}, (∀ v ∈ l, ∀ (Q' : Option Value → Shared → Prop), Q' (gFirst s.heap v) s → wpAny (model prog w) A (firstOfTuple' v) Q' E s) → Q (l.map (gFirst s.heap)) s → wpAny (model prog w) A (l.mapM firstOfTuple') Q E s
  | [], _, _, h => by rw [List.mapM_nil]; exact wpAny_pure h
  | x :: l, Q, hf, h => by
    rw [List.mapM_cons]
    exact wpAny_bind (hf x (.head _) _ (wpAny_bind (mapM_firsts l (Q := fun bs s' => wpAny (model prog w) A (pure (gFirst s.heap x :: bs)) Q E s') (fun v hv => hf v (.tail _ hv)) (wpAny_pure h))))
theorem kind_mixed {v : Value} {vs : List Value} {Q : SortKind → Shared → Prop} (hT : ∀ u ∈ v :: vs, ∃ xs as, Reads s.heap u (.tuple xs) as) (h0 : gFirst s.heap v = none) (h : Q oneType' s) : wpAny (model prog w) A (keyKind' (v :: vs).toArray) Q E s := by
  rw [keyKind'_eq, List.mapM_toArray, map_eq_pure_bind]
  refine wpAny_bind (wpAny_bind (mapM_firsts _ (fun u hu Q' hq => ?_) (wpAny_pure ?_)))
  · obtain ⟨xs, as, r⟩ := hT u hu
    exact first_at r hq
  · rw [if_neg (by simp [h0]), if_neg (by simp [h0])]
    rw [oneTypeOnly'_eq, List.mapM_toArray, map_eq_pure_bind]
    refine wpAny_bind (wpAny_bind (wpAny_bind (kas_mapM (r := Value.type "tuple") _ (fun u hu Q' hq => ?_) (wpAny_pure ?_))))
    · obtain ⟨xs, as, r⟩ := hT u hu
      exact (looks_reads r).here hq
    · have hall : ((List.map (fun _ => Value.type "tuple") (v :: vs)).toArray.all fun x => x == Value.type "tuple") = true := by
        simp only [List.all_toArray, List.all_map, List.all_eq_true]
        intro _ _
        exact beq_self_eq_true _
      have h0 : (List.map (fun _ => Value.type "tuple") (v :: vs)).toArray[0]? = some (Value.type "tuple") := by simp
      rw [h0]
      simp only [hall, if_true]
      exact wpAny_pure (wpAny_pure h)
/-- tuples of which the first is empty can be sorted -/
theorem sorts_mixed {vs : List Value} {ds : List PyData} (e : EachIs (fun v d => ∃ as, Reads s.heap v d as) vs (.tuple [] :: ds)) (ht : ∀ d ∈ ds, ∃ xs, d = .tuple xs) (hal : AllAlike (.tuple [] :: ds)) (hu : ∀ d, d ∈ PyData.tuple [] :: ds → A.units + d.depth < cLine) :
    SortsAt prog w A s (dataKind s.heap (.tuple [] :: ds)) vs := by
  have ht' : ∀ d ∈ PyData.tuple [] :: ds, ∃ xs, d = .tuple xs := fun d hd => by
    rcases List.mem_cons.mp hd with h | h
    · exact ⟨[], h⟩
    · exact ht d h
  have room : ∀ {d d' : PyData}, d ∈ PyData.tuple [] :: ds → A.units + min d.depth d'.depth < cLine := fun {d d'} hd => Nat.lt_of_le_of_lt (Nat.add_le_add_left (Nat.min_le_left _ _) _) (hu d hd)
  refine ⟨fun v hv => ?_, oneType', ?_, fun h2 E Q hq => ?_⟩
  · obtain ⟨d, hd, as, r⟩ := e.left v hv
    exact ⟨_, dataKind_some hal hd r⟩
  · intro E x y a b Q ha hb hq
    obtain ⟨d, as, hd, ra, rfl⟩ := dataKind_inv ha
    obtain ⟨d', as', hd', rb, rfl⟩ := dataKind_inv hb
    have hdd := hal d hd d' hd'
    have hr := room (d' := d') hd
    obtain ⟨xs, rfl⟩ := ht' d hd
    obtain ⟨ys, rfl⟩ := ht' d' hd'
    rw [keyLt'_oneType]
    exact oneLt_tuple ra rb (by simpa [alike] using hdd) hr hq
  · cases e with
    | cons h t =>
      obtain ⟨as, r⟩ := h
      refine kind_mixed (fun u hu => ?_) (first_nil r) hq
      rcases List.mem_cons.mp hu with q | q
      · rw [q]
        exact ⟨_, _, r⟩
      · obtain ⟨d, hd, as, r⟩ := t.left u q
        obtain ⟨xs, rfl⟩ := ht d hd
        exact ⟨_, _, r⟩
theorem collect_tuple {l : Addr} {vs : List Value} {Q : List Value → Shared → Prop} (hl : s.heap.IsTuple l vs.toArray)
    (h : Q vs { s with heap := (s.heap.push (seqObj "list" #[] 0)).update s.heap.objs.size (Obj.mapSeq (· ++ vs.toArray)) }) (hsz : vs.length ≤ sizeLine) :
    wpAny (model prog w) A (collect (.ref l)) Q E s := by
  obtain ⟨o, ho, hc, n, hd⟩ := id hl
  unfold collect
  refine wpAny_bind (wpAny_runValue (codeAny_builtin entry_proto_collect' ?_))
  show wpAny _ _ (do again (.builtin "list.__iadd__" ⟨[← newList [], .ref l], []⟩)) _ _ s
  refine wpAny_bind (wpAny_newList (wpAny_pure ⟨Code.quiet_builtin _ (by decide +kernel), codeAny_builtin entry_list_iadd' ?_⟩))
  show wpAny _ _ (Builtin.List.listExtendWith (.ref s.heap.objs.size) (.ref l) (.ref s.heap.objs.size)) _ _ { s with heap := s.heap.push (seqObj "list" #[] 0) }
  unfold Builtin.List.listExtendWith
  have ho' : (s.heap.push (seqObj "list" #[] 0)).get? l = some o := Heap.get?_push_of_some _ ho
  refine wpAny_bind (wpAny_typeOf (T := "tuple") ⟨o, ho', hc⟩ ?_)
  have ht : (Value.type "tuple" == Value.type "tuple") = true := by rfl
  rw [if_pos (by rw [ht]; simp)]
  refine wpAny_bind (listItems_at ho' hd ?_)
  refine wpAny_bind (listItems_at (xs := #[]) (n := 0) (Heap.get?_push_size _ rfl) rfl ?_)
  rw [if_neg (by simp)]
  refine wpAny_bind (listUpdate_at (xs := #[]) (n := 0) (Heap.get?_push_size _ rfl) rfl ?_ (Nat.zero_le _) (by show (#[] ++ vs.toArray).size ≤ sizeLine + 1; simp only [Array.size_append, List.size_toArray, List.length_nil]; omega))
  refine wpAny_pure ?_
  show wpAny (model prog w) A (do
      let o ← load s.heap.objs.size
      match o.data with
      | .seq xs _ => pure xs.toList
      | _ => unsupported "internal:collect") Q E { s with heap := (s.heap.push (seqObj "list" #[] 0)).update s.heap.objs.size (Obj.mapSeq (· ++ vs.toArray)) }
  refine wpAny_bind (wpAny_load (get?_update_seq (Heap.get?_push_size _ rfl) _) ?_)
  show wpAny _ _ (pure ((#[] : Array Value) ++ vs.toArray).toList) Q E _
  rw [show ((#[] : Array Value) ++ vs.toArray).toList = vs by simp]
  exact wpAny_pure h
theorem sorted_valsT {κ : PyProof.Rows.KeyKind} {l : Addr} {vs : List Value} {Q : Value → Shared → Prop} (hl : s.heap.IsTuple l vs.toArray) (S : SortsAt prog w A.in1.in1 { s with heap := sortingHeap (copyHeap s.heap vs) (s.heap.objs.size + 1) vs } κ vs) (hL : vs.length ≤ sizeLine)
    (h : Q (.ref (s.heap.objs.size + 1)) { s with heap := sortedAll s.heap vs (sortVals κ false vs vs).toArray }) : wpAny (model prog w) A (call (.builtin "sorted") [.ref l]) Q E s := by
  refine call_function_entry_kw kind_sorted plain_sorted entry_sorted (args_sorted1 _) ?_
  unfold Builtin.«sorted»
  refine wpAny_bind (m := checkCount "sorted" 1 1 _) (wpAny_pure ?_)
  refine wpAny_bind (collect_tuple hl ?_ hL)
  refine wpAny_bind (wpAny_newList ?_ hL)
  have hsz : ((s.heap.push (seqObj "list" #[] 0)).update s.heap.objs.size (Obj.mapSeq (· ++ vs.toArray))).objs.size = s.heap.objs.size + 1 := by
    rw [Heap.size_update, size_push']
  show wpAny _ _ _ _ _ { s with heap := copyHeap s.heap vs }
  rw [hsz]
  refine wpAny_bind (wpAny_holding (wpAny_call_entry_kw slot_list_sort ⟨_, copyHeap_at s.heap vs, rfl⟩ entry_list_sort ?body (args_list_sort _)))
  case body =>
    show wpAny (model prog w) A.in1.in1 (Builtin.«list.sort» ⟨[.ref (s.heap.objs.size + 1)], []⟩) _ _ _
    refine wpAny_mono (list_sort_vals (P := fun f s' => f = .done (.ret .none) ∧ Q (.ref (s.heap.objs.size + 1)) s') (s := { s with heap := copyHeap s.heap vs }) (copyHeap_at s.heap vs) S hL ⟨rfl, h⟩) (fun f s' hf => ?_) fun _ _ e => e
    obtain ⟨rfl, hq⟩ := hf
    exact ⟨_, rfl, wpAny_pure ⟨_, rfl, hq⟩⟩
end
end XSo
namespace XB
open PySem PySem.Spec PyProof.Rows L2
/-- alike data that can be sorted -/
structure SortOkD (ds : List PyData) : Prop where
  al : PySem.W.AllAlike ds
  so : PySem.W.Sortable ds ∨ ∃ ds', ds = .tuple [] :: ds' ∧ ∀ d ∈ ds', ∃ xs, d = .tuple xs
  dp : ∀ d ∈ ds, d.depth ≤ 60
/-- the data in their order -/
def sortD (ds : List PyData) : List PyData := ds.mergeSort (PySem.W.dataLe false id)
def rSortedD (K : PySem.W.Frag) : List V → Hp → VK → Prop := fun vs H Q => ∃ (a : Addr) (ys : List V) (ds : List PyData), vs = [.ref a] ∧ (SqL K H a ys ∨ SqT K H a ys) ∧ DpAll K H ys ds ∧ SortOkD ds ∧
  ∀ p zs, H p = none → DpAll K H zs (sortD ds) → Q (.ref p) (upd H p (.lst zs))
theorem each_zip {K : PySem.W.Frag} {H : Hp} : ∀ {its : List Value} {ys : List V} {ds : List PyData}, Vals ys its → DpAll K H ys ds → PySem.W.EachIs (fun v (b : V × PyData) => RelV b.1 v ∧ Dp K H b.1 b.2) its (ys.zip ds)
  | _, _, _, .nil, .nil => .nil
  | _, _, _, .cons r rs, .cons d dd => .cons ⟨r, d⟩ (each_zip rs dd)
theorem zip_snd {K : PySem.W.Frag} {H : Hp} : ∀ {ys : List V} {ds : List PyData}, DpAll K H ys ds → (ys.zip ds).map Prod.snd = ds
  | _, _, .nil => rfl
  | _, _, .cons d dd => by
    rw [List.zip_cons_cons, List.map_cons, zip_snd dd]
theorem each_back {K : PySem.W.Frag} {H : Hp} : ∀ {out : List Value} {bs : List (V × PyData)}, PySem.W.EachIs (fun v (b : V × PyData) => RelV b.1 v ∧ Dp K H b.1 b.2) out bs → Vals (bs.map Prod.fst) out ∧ DpAll K H (bs.map Prod.fst) (bs.map Prod.snd)
  | _, _, .nil => ⟨.nil, .nil⟩
  | _, _, .cons ⟨r, d⟩ t => ⟨.cons r (each_back t).1, .cons d (each_back t).2⟩
theorem each_zipR {K : PySem.W.Frag} {H : Hp} {R : Value → PyData → Prop} : ∀ {its : List Value} {ys : List V} {ds : List PyData}, DpAll K H ys ds → PySem.W.EachIs R its ds → PySem.W.EachIs (fun v (b : V × PyData) => R v b.2) its (ys.zip ds)
  | _, _, _, .nil, .nil => .nil
  | _, _, _, .cons _ dd, .cons r rs => .cons r (each_zipR dd rs)
theorem cr_sortedD {X : Cx} {K : PySem.W.Frag} (hk : X.K = K) (hu : X.A.units + 65 < cLine) : CallR X (.builtin "sorted") (rSortedD K) := by
  subst hk
  intro pins s σ H vs us Q I r h
  obtain ⟨a, ys, ds, rfl, hs, hD, hok, q⟩ := h
  rw [Vals.ref1 r]
  have main : ∀ its : List Value, Vals ys its → its.length ≤ sizeLine → (∀ {κ : PyProof.Rows.KeyKind} {Q' : Value → Shared → Prop}, PySem.W.SortsAt X.prog X.w X.A.in1.in1 { s with heap := PySem.W.sortingHeap (PySem.W.copyHeap s.heap its) (s.heap.objs.size + 1) its } κ its →
      Q' (.ref (s.heap.objs.size + 1)) { s with heap := PyProof.Rows.sortedAll s.heap its (PySem.W.sortVals κ false its its).toArray } → wpAny (model X.prog X.w) X.A (call (.builtin "sorted") [.ref a]) Q' X.xe s) →
      wpAny (model X.prog X.w) X.A (call (.builtin "sorted") [.ref a]) (EP X pins σ Q) X.xe s := fun its rv hz run => by
    obtain ⟨as, ra⟩ := Dp.readsAll I ds ys its hD rv
    have e0 : PySem.W.EachIs (fun v d => ∃ as, Reads s.heap v d as) its ds := by
      have := PySem.W.readsAll_each (h := s.heap) id (bs := ds) (vs := its) (as := as) (by rw [List.map_id]; exact ra)
      exact this
    have e1 : PySem.W.EachIs (fun v d => ∃ as, Reads (PySem.W.sortingHeap (PySem.W.copyHeap s.heap its) (s.heap.objs.size + 1) its) v d as) its ds := e0.mono fun _ _ ⟨as, r⟩ => ⟨as, PyProof.Rows.Reads.keeps (fun _ _ => PySem.W.sorting_copy_old) r⟩
    have hz1 := zip_snd hD
    have er := each_zipR hD e1
    have hal := hok.al
    rw [← hz1] at hal
    have eo := PySem.W.sortVals_data (enc := Prod.snd) false (each_zip rv hD) er hal
    rw [hz1] at eo
    obtain ⟨hv, hd⟩ := each_back eo
    have hs : ((ys.zip ds).mergeSort (PySem.W.dataLe false Prod.snd)).map Prod.snd = sortD ds := by
      have h := List.map_mergeSort (r := PySem.W.dataLe false Prod.snd) (s := PySem.W.dataLe false id) (f := Prod.snd) (l := ys.zip ds) (fun _ _ _ _ => rfl)
      rw [hz1] at h
      exact h
    rw [hs] at hd
    generalize ((ys.zip ds).mergeSort (PySem.W.dataLe false Prod.snd)).map Prod.fst = zs at hv hd
    have S : PySem.W.SortsAt X.prog X.w X.A.in1.in1 { s with heap := PySem.W.sortingHeap (PySem.W.copyHeap s.heap its) (s.heap.objs.size + 1) its } (PySem.W.dataKind (PySem.W.sortingHeap (PySem.W.copyHeap s.heap its) (s.heap.objs.size + 1) its) ds) its := by
      have hb : ∀ d ∈ ds, X.A.in1.in1.units + d.depth < cLine := fun d hd => by
        have := hok.dp d hd
        show X.A.units + 2 + d.depth < cLine
        omega
      rcases hok.so with q | ⟨ds', rfl, ht⟩
      · exact PySem.W.SortsAt.data (s := { s with heap := PySem.W.sortingHeap (PySem.W.copyHeap s.heap its) (s.heap.objs.size + 1) its }) e1 hok.al q hb
      · exact XSo.sorts_mixed (s := { s with heap := PySem.W.sortingHeap (PySem.W.copyHeap s.heap its) (s.heap.objs.size + 1) its }) e1 ht hok.al hb
    refine run S ?_
    generalize PySem.W.sortVals _ false its its = out at hv ⊢
    obtain ⟨ep, he'⟩ := PyProof.Rows.sortedAll_at s.heap its out.toArray
    have hlen : zs.length ≤ sizeLine := by
      have l1 := hd.len
      have l2 := hD.len
      have l3 := rv.length
      unfold sortD at l1
      rw [List.length_mergeSort] at l1
      omega
    exact ⟨.ref _, upd H (s.heap.objs.size + 1) (.lst zs), I.laid (t' := s.toks) (fun _ _ => PyProof.Rows.sortedAll_old) (Nat.le_succ _) ⟨hlen, out, ep, hv, he'⟩, rfl, q _ zs (I.hok.fresh (Nat.le_succ _)) hd⟩
  rcases hs with hs | hs
  · obtain ⟨its, rv, hl, hz⟩ := I.list hs
    exact main its rv (by rw [← rv.length]; exact hz) fun S h => PySem.W.sorted_vals hl.isList S (by rw [← rv.length]; exact hz) h
  · obtain ⟨its, rv, hl, hz⟩ := I.tuple hs
    exact main its rv (by rw [← rv.length]; exact hz) fun S h => XSo.sorted_valsT hl S (by rw [← rv.length]; exact hz) h
end XB
set_option Elab.async false
set_option linter.all false
set_option maxRecDepth 100000
set_option maxHeartbeats 4000000
/-! comprehensions with two fors; data that stand where all stands -/
namespace XB
open PySem PySem.Spec PyProof.Rows L2
theorem pi_tupk {X : Cx} {tg e : Expr} {te : TE} {K : PySem.W.Frag} (hk : X.K = K) (he : PE X e te) : PI X tg e (iTup K te) := by
  subst hk
  exact pi_tup he
theorem pi_listk {X : Cx} {tg e : Expr} {te : TE} {K : PySem.W.Frag} (hk : X.K = K) (he : PE X e te) : PI X tg e (iList K te) := by
  subst hk
  exact pi_list he
theorem cr_allk {X : Cx} {K : PySem.W.Frag} (hk : X.K = K) (hc : X.calm = true) : CallR X (.builtin "all") (rAll K) := by
  subst hk
  exact cr_all hc
theorem pi_enumk {X : Cx} {K : PySem.W.Frag} (hk : X.K = K) {e : Expr} {ta : TA} {p pos tpos : Pos} {elts : List Expr} {kk : Nat} (hg : Gl X "enumerate") (hm : X.mg "enumerate" = none) (ha : PA X [e] ta) (hs : starEach [e] X.env = [(false, eval e X.env)] := by rfl) :
    PI X (.Tuple elts kk tpos) (.Call (.Name "enumerate" p) [e] [] pos) (iEnum K ta) := by
  subst hk
  exact pi_enum hg hm ha hs
theorem pt_truthk {X : Cx} {K : PySem.W.Frag} (hk : X.K = K) {a : Expr} {ta : TE} (ha : PE X a ta) (he : ∀ whole, isTrue a X.env whole = (do let v ← whole; standAt a.pos; holding [v] (truthy v)) := by intro _; rfl) : PT X a (fun σ H Q => ta σ H fun x H' => ∃ k, TruV K x H' k ∧ Q k H') := by
  subst hk
  exact pt_truth ha he
/-- the inner for -/
def Lc2In (J1 : It) (g1 : TG) (tt1 : TT) (te : TE) (vs1 : List Nat) (σ2 : L2.St) (D : Addr) (Nx : Hp → Prop) (H4 : Hp) : Prop :=
  ∃ W1 : Nat → Nat → Hp → Prop, (∃ m, W1 0 m H4) ∧ ∀ j k H, W1 j k H →
      (J1.stop j H ∧ Nx H) ∨ (J1.go j H ∧ ∃ Nx1 : Hp → Prop, (∀ H', Nx1 H' → ∃ k', k' < k ∧ W1 (j + 1) k' H') ∧ ∀ x H', J1.yld j H x H' → g1 x (wipe σ2 vs1) H' fun σ3 H5 => wipe σ3 vs1 = wipe σ2 vs1 ∧ tt1 σ3 H5 fun b H6 =>
        if b = true then te σ3 H6 fun y H7 => ∃ acc, H7 D = some (.lst acc) ∧ acc.length < sizeLine ∧ Nx1 (upd H7 D (.lst (acc ++ [y]))) else Nx1 H6)
theorem lc2_in {J1 : It} {n1 : Nat} {G1 : Hp → Prop} {Y1 : Nat → Hp → V → Hp → Prop} (w : Walk J1 n1 G1 Y1) {g1 : TG} {tt1 : TT} {te : TE} {vs1 : List Nat} {σ2 : L2.St} {D : Addr} {Nx : Hp → Prop} {H4 : Hp} (Pv : Nat → Hp → Prop) (h0 : Pv 0 H4) (hG : ∀ i H, i ≤ n1 → Pv i H → G1 H)
    (hs : ∀ i x H H', i < n1 → Pv i H → Y1 i H x H' → g1 x (wipe σ2 vs1) H' fun σ3 H5 => wipe σ3 vs1 = wipe σ2 vs1 ∧ tt1 σ3 H5 fun b H6 =>
      if b = true then te σ3 H6 fun y H7 => ∃ acc, H7 D = some (.lst acc) ∧ acc.length < sizeLine ∧ Pv (i + 1) (upd H7 D (.lst (acc ++ [y]))) else Pv (i + 1) H6) (hd : ∀ H, Pv n1 H → Nx H) : Lc2In J1 g1 tt1 te vs1 σ2 D Nx H4 := by
  refine ⟨fun i m H => m = n1 - i ∧ i ≤ n1 ∧ Pv i H, ⟨n1, by simp, Nat.zero_le _, h0⟩, ?_⟩
  rintro i m H ⟨rfl, hi, p⟩
  have q := hG i H hi p
  by_cases hlt : i < n1
  · refine .inr ⟨w.goes i H hlt q, Pv (i + 1), fun H' p' => ⟨n1 - (i + 1), by omega, rfl, hlt, p'⟩, fun x H' y => hs i x H H' hlt p (w.yields i H x H' hlt q y)⟩
  · have e : i = n1 := by omega
    subst e
    exact .inl ⟨w.stops H q, hd H p⟩
theorem lc2_out {J : It} {n : Nat} {G : Hp → Prop} {Y : Nat → Hp → V → Hp → Prop} (w : Walk J n G Y) {wi1 : TI} {g g1 : TG} {tt tt1 : TT} {te : TE} {vs vs1 : List Nat} {σ : L2.St} {H1 : Hp} {D : Addr} {Qd : Hp → Prop} (Pv : Nat → Hp → Prop) (h0 : Pv 0 (upd H1 D (.lst []))) (hG : ∀ i H, i ≤ n → Pv i H → G H)
    (hs : ∀ i x H H', i < n → Pv i H → Y i H x H' → g x (wipe σ vs) H' fun σ2 H2 => wipe σ2 vs = wipe σ vs ∧ tt σ2 H2 fun b H3 =>
      if b = true then wi1 σ2 H3 fun J1 H4 => Lc2In J1 g1 tt1 te vs1 σ2 D (Pv (i + 1)) H4 else Pv (i + 1) H3) (hd : ∀ H, Pv n H → Qd H) :
    ∃ W : Nat → Nat → Hp → Prop, (∃ m, W 0 m (upd H1 D (.lst []))) ∧ ∀ i m H, W i m H →
      (J.stop i H ∧ Qd H) ∨ (J.go i H ∧ ∃ Nx : Hp → Prop, (∀ H', Nx H' → ∃ m', m' < m ∧ W (i + 1) m' H') ∧ ∀ x H', J.yld i H x H' → g x (wipe σ vs) H' fun σ2 H2 => wipe σ2 vs = wipe σ vs ∧ tt σ2 H2 fun b H3 =>
        if b = true then wi1 σ2 H3 fun J1 H4 => Lc2In J1 g1 tt1 te vs1 σ2 D Nx H4 else Nx H3) := by
  refine ⟨fun i m H => m = n - i ∧ i ≤ n ∧ Pv i H, ⟨n, by simp, Nat.zero_le _, h0⟩, ?_⟩
  rintro i m H ⟨rfl, hi, p⟩
  have q := hG i H hi p
  by_cases hlt : i < n
  · refine .inr ⟨w.goes i H hlt q, Pv (i + 1), fun H' p' => ⟨n - (i + 1), by omega, rfl, hlt, p'⟩, fun x H' y => hs i x H H' hlt p (w.yields i H x H' hlt q y)⟩
  · have e : i = n := by omega
    subst e
    exact .inl ⟨w.stops H q, hd H p⟩
theorem sqL_same {K : PySem.W.Frag} {H H' : Hp} {a : Addr} {xs : List V} (s : Same H H') (h : SqL K H a xs) : SqL K H' a xs := s.seq h
mutual
theorem Dp.sm {K : PySem.W.Frag} {H H' : Hp} (s : Same H H') : ∀ (d : PyData) {v : V}, Dp K H v d → Dp K H' v d
  | .none, _, h => by cases h; exact .non
  | .bool b, _, h => by cases h; exact .bl b
  | .int i, _, h => by cases h; exact .int i
  | .str x, _, h => by cases h; exact .str x
  | .list ds, _, h => by
    cases h with
    | lst h1 h2 => exact .lst (s.seq h1) (DpAll.sm s ds h2)
  | .tuple ds, _, h => by
    cases h with
    | tup h1 h2 => exact .tup ((Tk.of s).sqT h1) (DpAll.sm s ds h2)
  | .dict _, _, h => by cases h
theorem DpAll.sm {K : PySem.W.Frag} {H H' : Hp} (s : Same H H') : ∀ (ds : List PyData) {vs : List V}, DpAll K H vs ds → DpAll K H' vs ds
  | [], _, h => by cases h; exact .nil
  | d :: ds, _, h => by
    cases h with
    | cons h1 h2 => exact .cons (Dp.sm s d h1) (DpAll.sm s ds h2)
end
/-- a list of data -/
def RowG (K : PySem.W.Frag) (H : Hp) (D : Addr) (ds : List PyData) : Prop := ∃ xs, H D = some (.lst xs) ∧ DpAll K H xs ds
theorem RowG.same {K : PySem.W.Frag} {H H' : Hp} {D : Addr} {ds : List PyData} (h : RowG K H D ds) (s : Same H H') : RowG K H' D ds := by
  obtain ⟨xs, e, v⟩ := h
  exact ⟨xs, s _ _ e, DpAll.sm s ds v⟩
theorem rowCatG {K : PySem.W.Frag} {H : Hp} {a b : Addr} {l m : List PyData} {Q : VK} (h1 : RowG K H a l) (h2 : RowG K H b m) (hl : l.length + m.length ≤ 9000) (q : ∀ H' p, Same H H' → H p = none → RowG K H' p (l ++ m) → Q (.ref p) H') : rCat (.ref a) (.ref b) H Q := by
  obtain ⟨xs, e1, v1⟩ := h1
  obtain ⟨ys, e2, v2⟩ := h2
  have l1 := v1.len
  have l2 := v2.len
  refine catL e1 e2 (Nat.le_trans (show xs.length + ys.length ≤ 9000 by omega) (by decide)) fun H' p s hp e => q H' p s hp ⟨_, e, ?_⟩
  exact (DpAll.sm s l v1).app (DpAll.sm s m v2)
end XB
set_option Elab.async false
set_option linter.all false
set_option maxRecDepth 100000
set_option maxHeartbeats 4000000
/-! closers for readings of lists, and the mathematics of stirring -/
namespace XB
open PySem PySem.Spec PyProof.Rows L2
theorem Row1.same {K : PySem.W.Frag} {H H' : Hp} {D : Addr} {l : List (Str × Int)} (h : Row1 K H D l) (s : Same H H') : Row1 K H' D l := by
  obtain ⟨xs, e, d⟩ := h
  exact ⟨xs, s _ _ e, DpAll.tk (Tk.of s) _ (flat_all_steps l) d⟩
theorem Row1.kp {K : PySem.W.Frag} {H H' : Hp} {D m c g : Addr} {s : Int} {l : List (Str × Int)} (h : Row1 K H D l) (R : Dr H m c g s) (k : Kp m g H H') (n1 : D ≠ m) (n2 : D ≠ g) : Row1 K H' D l := by
  obtain ⟨xs, e, d⟩ := h
  exact ⟨xs, k _ _ n1 n2 e, DpAll.tk (R.tk k) _ (flat_all_steps l) d⟩
theorem Row1.len {K : PySem.W.Frag} {H : Hp} {D : Addr} {l : List (Str × Int)} (h : Row1 K H D l) : ∃ xs, H D = some (.lst xs) ∧ xs.length = l.length ∧ DpAll K H xs (l.map dStep) := by
  obtain ⟨xs, e, d⟩ := h
  have := d.len
  rw [List.length_map] at this
  exact ⟨xs, e, this, d⟩
theorem slRowTo {K : PySem.W.Frag} {H : Hp} {D : Addr} {l : List (Str × Int)} {k : Nat} {Q : VK} (h : Row1 K H D l) (q : ∀ H' p, Same H H' → H p = none → Row1 K H' p (l.take k) → Q (.ref p) H') : rSlL K (.ref D) none (some (k : Int)) H Q := by
  obtain ⟨xs, e, d⟩ := h
  refine slL e fun H' p s n e' => q H' p s n ⟨_, e', ?_⟩
  rw [cut_init, List.map_take]
  exact (DpAll.tk (Tk.of s) _ (flat_all_steps l) d).take k
theorem slRowFrom {K : PySem.W.Frag} {H : Hp} {D : Addr} {l : List (Str × Int)} {k : Nat} {Q : VK} (h : Row1 K H D l) (q : ∀ H' p, Same H H' → H p = none → Row1 K H' p (l.drop k) → Q (.ref p) H') : rSlL K (.ref D) (some (k : Int)) none H Q := by
  obtain ⟨xs, e, d⟩ := h
  refine slL e fun H' p s n e' => q H' p s n ⟨_, e', ?_⟩
  rw [cut_from, List.map_drop]
  exact (DpAll.tk (Tk.of s) _ (flat_all_steps l) d).drop k
theorem catRow {K : PySem.W.Frag} {H : Hp} {a b : Addr} {l1 l2 : List (Str × Int)} {Q : VK} (h1 : Row1 K H a l1) (h2 : Row1 K H b l2) (hl : l1.length + l2.length ≤ 1000) (q : ∀ H' p, Same H H' → H p = none → Row1 K H' p (l1 ++ l2) → Q (.ref p) H') : rCat (.ref a) (.ref b) H Q := by
  obtain ⟨xs, e, hx, d⟩ := h1.len
  obtain ⟨ys, f, hy, d'⟩ := h2.len
  refine catL e f (Nat.le_of_lt (small1000 (by omega))) fun H' p s n e' => q H' p s n ⟨_, e', ?_⟩
  rw [List.map_append]
  exact (DpAll.tk (Tk.of s) _ (flat_all_steps l1) d).app (DpAll.tk (Tk.of s) _ (flat_all_steps l2) d')
theorem ixRow {K : PySem.W.Frag} {H : Hp} {D : Addr} {l : List (Str × Int)} {i : Nat} {z : Int} {s : Str × Int} {Q : VK} (h : Row1 K H D l) (hs : l[i]? = some s) (hz : z = (i : Int)) (q : ∀ b, SqT K H b [.str s.1, .int s.2] → Dp K H (.ref b) (dStep s) → Q (.ref b) H) : rIxL K (.ref D) (.int z) H Q := by
  obtain ⟨xs, e, d⟩ := h
  obtain ⟨b, hb, cb⟩ := d.step hs
  exact ⟨D, xs, z, .ref b, rfl, rfl, SqL.of e, at_of hz hb, q b cb (Dp.of_step cb)⟩
theorem split2 {α : Type} {l : List α} {k : Nat} {x y : α} (h1 : l[k]? = some x) (h2 : l[k + 1]? = some y) : l = l.take k ++ x :: y :: l.drop (k + 2) := by
  have e1 := drop_at h1
  have e2 := drop_at h2
  rw [← e2, ← e1, List.take_append_drop]
theorem split1 {α : Type} {l : List α} {k : Nat} {x : α} (h1 : l[k]? = some x) : l = l.take k ++ x :: l.drop (k + 1) := by
  rw [← drop_at h1, List.take_append_drop]
end XB
namespace XM
variable {α : Type} [DecidableEq α] {O : Ord α}
theorem act_joined {u v q : Row α} {a : α} {s t : Int} (hs : s ≠ 0) (ht : t ≠ 0) (zu : NZ u) (hN : NF O q) : act O (u ++ (a, s) :: (a, t) :: v) q = act O (u ++ ((if s + t = 0 then [] else [(a, s + t)]) ++ v)) q := by
  rw [act_app, act_app, act_cons, act_cons, ins_join hs ht (nf_act zu hN)]
  by_cases h : s + t = 0
  · rw [if_pos h, if_pos h]
    rfl
  · rw [if_neg h, if_neg h]
    rfl
end XM
set_option Elab.async false
set_option linter.all false
set_option maxRecDepth 100000
set_option maxHeartbeats 4000000
namespace XB
open PySem PySem.Spec PyProof.Rows L2
def GoodAll (F : Fld) (l : List (Str × Int)) : Prop := ∀ x ∈ l, x.1 ∈ F.names ∧ GoodTimes x.2
theorem GoodAll.nz {F : Fld} {l : List (Str × Int)} (h : GoodAll F l) : XM.NZ l := fun x hx => (h x hx).2.1
theorem GoodAll.names {F : Fld} {l : List (Str × Int)} (h : GoodAll F l) : Names F l := fun x hx => (h x hx).1
theorem GoodAll.app {F : Fld} {l m : List (Str × Int)} (h : GoodAll F l) (g : GoodAll F m) : GoodAll F (l ++ m) := fun x hx => (List.mem_append.mp hx).elim (h x) (g x)
theorem GoodAll.take {F : Fld} {l : List (Str × Int)} (h : GoodAll F l) (k : Nat) : GoodAll F (l.take k) := fun x hx => h x (List.mem_of_mem_take hx)
theorem GoodAll.drop {F : Fld} {l : List (Str × Int)} (h : GoodAll F l) (k : Nat) : GoodAll F (l.drop k) := fun x hx => h x (List.mem_of_mem_drop hx)
theorem GoodAll.one {F : Fld} {x : Str × Int} (h : x.1 ∈ F.names ∧ GoodTimes x.2) : GoodAll F [x] := fun y hy => by
  rw [List.mem_singleton.mp hy]
  exact h
/-- the same to every pile -/
def Ali (F : Fld) (l m : List (Str × Int)) : Prop := ∀ q, XM.NF (OF F) q → XM.act (OF F) l q = XM.act (OF F) m q
theorem Ali.refl {F : Fld} {l : List (Str × Int)} : Ali F l l := fun _ _ => rfl
theorem Ali.trans {F : Fld} {l m n : List (Str × Int)} (h : Ali F l m) (g : Ali F m n) : Ali F l n := fun q hq => (h q hq).trans (g q hq)
theorem inV2 (t a b : Int) : inV (.int t) [.int a, .int b] = (decide (t = a) || decide (t = b)) := by
  unfold inV
  simp only [List.any_cons, List.any_nil, eqV, Bool.or_false]
  congr 1
  · exact Bool.eq_iff_iff.mpr ⟨fun h => decide_eq_true (eq_of_beq h).symm, fun h => by rw [of_decide_eq_true h]; exact beq_self_eq_true _⟩
  · exact Bool.eq_iff_iff.mpr ⟨fun h => decide_eq_true (eq_of_beq h).symm, fun h => by rw [of_decide_eq_true h]; exact beq_self_eq_true _⟩
def TL : List Int := [1, -1, 2]
theorem tl_good {i : Nat} {z : Int} (h : TL[i]? = some z) : GoodTimes z ∧ GoodTimes (0 - z) := by
  have : ∀ z ∈ TL, (z ≠ 0 ∧ -(10 ^ 30) ≤ z ∧ z ≤ 10 ^ 30) ∧ (0 - z ≠ 0 ∧ -(10 ^ 30) ≤ 0 - z ∧ 0 - z ≤ 10 ^ 30) := by decide +kernel
  exact this z (List.mem_of_getElem? h)
section
variable {P : Program} {w : World} {K : PySem.W.Frag} {mg : Str → Option Value} {base : Heap}
def spStirred (K : PySem.W.Frag) : Sp := fun vs H Q _ => ∃ (m c g f p : Addr) (s : Int) (n : Nat) (F : Fld) (l : List (Str × Int)), vs = [.ref m, .ref f, .ref p, .int (n : Int)] ∧ Dr H m c g s ∧ Dp K H (.ref f) (dField F) ∧ F.Ok ∧ Dp K H (.ref p) (dSteps l) ∧ GoodAll F l ∧ l.length ≤ 40 ∧ n ≤ 20 ∧ s < 1000000000 ∧
  ∀ H' r l' s', Dr H' m c g s' → s' ≤ s + 4 * n → Kp m g H H' → Dp K H' (.ref r) (dSteps l') → GoodAll F l' → l'.length ≤ 41 → Ali F l' l → Q (.ref r) H'
def StirInv (K : PySem.W.Frag) (F : Fld) (H : Hp) (m c g f p : Addr) (n : Nat) (l0 : List (Str × Int)) (s : Int) (i : Nat) : L2.St → Hp → Prop := fun σ H2 => ∃ (D : Addr) (y5 y6 y7 y8 y9 : Option V) (s2 : Int) (l : List (Str × Int)), σ = [some (.ref m), some (.ref f), some (.ref p), some (.int (n : Int)), some (.ref D), y5, y6, y7, y8, y9] ∧
  Kp m g H H2 ∧ Dr H2 m c g s2 ∧ s2 ≤ s + 4 * (i : Int) ∧ Dp K H2 (.ref f) (dField F) ∧ Row1 K H2 D l ∧ D ≠ m ∧ D ≠ g ∧ GoodAll F l ∧ l.length ≤ 41 ∧ Ali F l l0
theorem c__law_stirred (T : Tx K mg) : Cl P w K mg base CX0 3 "_law_stirred" (spStirred K) := by
  refine cl0 T.d__law_stirred (ps := ["m", "field", "steps", "many"]) (fun _ _ _ _ _ _ us hl => match us, hl with | [_, _, _, _], _ => rfl) sc__law_stirred (fun vs H Q E h => ?_) (fun fa cdv A outer st H vs Q E hr h => ?_)
  · obtain ⟨m, c, g, f, p, s, n, F, l, rfl, _⟩ := h
    rfl
  · obtain ⟨m, c, g, f, p, s, n, F, l0, rfl, R, hF, ok, hL, hg0, l40, n20, hs9, q⟩ := h
    have nd := sc__law_stirred.nd
    refine ⟨_, (pss_cons (ps_set (i := 4) nd rfl (.inl rfl) (pe_callTy call_list_of (by rfl) T.b_list (by decide +kernel) (pa_cons (pv 2) pa_nil)))
    (pss_cons (ps_for PassesOwn.never rfl (pi_range1 (by rfl) T.b_range (pa_cons (pv 3) pa_nil)) (pg_name (i := 5) nd rfl (.inl rfl))
    (pss_cons (ps_par (i := 6) (j := 7) rfl nd rfl rfl (by decide) rfl rfl (pa_cons (pe_k (c_draw T) hr (by decide) (by rfl) (pa_cons (pv 0) (pa_cons (pe_op op_add (pe_lenS (by rfl) T.b_len (pv 4)) pe_int) pa_nil))) (pa_cons (pe_k (c_draw T) hr (by decide) (by rfl) (pa_cons (pv 0) (pa_cons pe_int pa_nil))) pa_nil)) rfl)
    (pss_one (ps_if (PW.pt (pw_and (pt_cmpR op_lt (pv 7) pe_int (nomark _)) (pw_and (pt_cmpR op_lt (pe_op op_add (pv 6) pe_int) (pe_lenS (by rfl) T.b_len (pv 4)) (nomark _)) (pw_and1 (pt_val (pe_k (c__law_apart T) hr (by decide) (by rfl) (pa_cons (pv 1) (pa_cons (pe_ix (ixk_tup (K := K) rfl) (pe_ix (ixk_list (K := K) rfl) (pv 4) (pv 6) (fun _ _ => rfl)) pe_int (fun _ _ => rfl)) (pa_cons (pe_ix (ixk_tup (K := K) rfl) (pe_ix (ixk_list (K := K) rfl) (pv 4) (pe_op op_add (pv 6) pe_int) (fun _ _ => rfl)) pe_int (fun _ _ => rfl)) pa_nil))))))))) (pss_one (ps_set (i := 4) nd rfl (.inl rfl) (pe_op op_cat (pe_op op_cat (pe_slice sl_list (pv 4) po_none (po_some (pv 6))) (pe_lst (pa_cons (pe_ix (ixk_list (K := K) rfl) (pv 4) (pe_op op_add (pv 6) pe_int) (fun _ _ => rfl)) (pa_cons (pe_ix (ixk_list (K := K) rfl) (pv 4) (pv 6) (fun _ _ => rfl)) pa_nil)))) (pe_slice sl_list (pv 4) (po_some (pe_op op_add (pv 6) pe_int)) po_none)))) (pss_one (ps_if (PW.pt (pw_and (pt_cmpR op_eq (pv 7) pe_int (nomark _)) (pw_and (pt_cmpR op_lt (pv 6) (pe_lenS (by rfl) T.b_len (pv 4)) (nomark _)) (pw_and (pt_cmpR op_lt (pe_lenS (by rfl) T.b_len (pv 4)) pe_int (nomark _)) (pw_and1 (pt_cmpR (opk_notIn_seq (K := K) rfl) (pe_ix (ixk_tup (K := K) rfl) (pe_ix (ixk_list (K := K) rfl) (pv 4) (pv 6) (fun _ _ => rfl)) pe_int (fun _ _ => rfl)) (pe_tup (pa_cons pe_int (pa_cons (pe_op op_sub pe_int (pe_op op_pow pe_int pe_int)) pa_nil))) (by rfl))))))) (pss_one (ps_set (i := 4) nd rfl (.inl rfl) (pe_op op_cat (pe_op op_cat (pe_slice sl_list (pv 4) po_none (po_some (pv 6))) (pe_lst (pa_cons (pe_tup (pa_cons (pe_ix (ixk_tup (K := K) rfl) (pe_ix (ixk_list (K := K) rfl) (pv 4) (pv 6) (fun _ _ => rfl)) pe_int (fun _ _ => rfl)) (pa_cons pe_int pa_nil))) (pa_cons (pe_tup (pa_cons (pe_ix (ixk_tup (K := K) rfl) (pe_ix (ixk_list (K := K) rfl) (pv 4) (pv 6) (fun _ _ => rfl)) pe_int (fun _ _ => rfl)) (pa_cons (pe_op op_sub (pe_ix (ixk_tup (K := K) rfl) (pe_ix (ixk_list (K := K) rfl) (pv 4) (pv 6) (fun _ _ => rfl)) pe_int (fun _ _ => rfl)) pe_int) pa_nil))) pa_nil)))) (pe_slice sl_list (pv 4) (po_some (pe_op op_add (pv 6) pe_int)) po_none)))) (pss_one (ps_if (PW.pt (pw_and (pt_cmpR op_eq (pv 7) pe_int (nomark _)) (pw_and1 (pt_cmpR op_lt (pe_lenS (by rfl) T.b_len (pv 4)) pe_int (nomark _))))) (pss_cons (ps_par (i := 8) (j := 9) rfl nd rfl rfl (by decide) rfl rfl (pa_cons (pe_ix (ixk_tup (K := K) rfl) (pe_ix (ixk_tup (K := K) rfl) (pv 1) pe_int (fun _ _ => rfl)) (pe_k (c_draw T) hr (by decide) (by rfl) (pa_cons (pv 0) (pa_cons (pe_lenS (by rfl) T.b_len (pe_ix (ixk_tup (K := K) rfl) (pv 1) pe_int (fun _ _ => rfl))) pa_nil))) (fun _ _ => rfl)) (pa_cons (pe_ix (ixk_list (K := K) rfl) (pe_lst (pa_cons pe_int (pa_cons (pe_un un_neg pe_int) (pa_cons pe_int pa_nil)))) (pe_k (c_draw T) hr (by decide) (by rfl) (pa_cons (pv 0) (pa_cons pe_int pa_nil))) (fun _ _ => rfl)) pa_nil)) rfl)
    (pss_one (ps_set (i := 4) nd rfl (.inl rfl) (pe_op op_cat (pe_op op_cat (pe_slice sl_list (pv 4) po_none (po_some (pv 6))) (pe_lst (pa_cons (pe_tup (pa_cons (pv 8) (pa_cons (pv 9) pa_nil))) (pa_cons (pe_tup (pa_cons (pv 8) (pa_cons (pe_op op_sub pe_int (pv 9)) pa_nil))) pa_nil)))) (pe_slice sl_list (pv 4) (po_some (pv 6)) po_none))))) pss_nil))))))))
    (pss_one (ps_ret (pe_tupleOf (by rfl) T.b_tuple (pv 4)))))), ?_⟩
    obtain ⟨_, vs0, e0, hS, hV⟩ := hL.steps
    cases e0
    refine ⟨_, rfl, p, vs0, rfl, .inr hS, fun D hD => ?_⟩
    have s1 := same_upd (o := .lst vs0) hD
    have nD := R.nm hD
    refine ⟨_, rfl, n, rfl, by omega, by omega, ?_⟩
    refine for_range (lo := 0) (n := n) (fun i σ H2 => StirInv K F H m c g f p n l0 s i σ H2)
      ⟨D, none, none, none, none, none, s, l0, rfl, Kp.of s1, R.same s1, by omega, Dp.tk (Tk.of s1) _ (flat_field F) hF, ⟨vs0, upd_same, DpAll.tk (Tk.of s1) _ (flat_all_steps l0) hV⟩, nD.1, nD.2.2, hg0, by omega, Ali.refl⟩
      (fun i σ H2 hi ⟨D, y5, y6, y7, y8, y9, s2, l, eσ, k2, R2, hs2, hF2, hR, n1, n2, hg, hl, ha⟩ => ?_) (fun σ H2 ⟨D, y5, y6, y7, y8, y9, s2, l, eσ, k2, R2, hs2, hF2, hR, n1, n2, hg, hl, ha⟩ => ?_)
    · subst eσ
      obtain ⟨ys, eD, hly, _⟩ := hR.len
      refine ⟨_, rfl, _, rfl, D, ys, rfl, .inl (SqL.of eD), _, _, rfl, rfl, m, c, g, s2, _, rfl, R2, by omega, by omega, by omega, fun r3 H3 r30 r31 R3 k3 => ?_⟩
      obtain ⟨k, rfl⟩ : ∃ k : Nat, r3 = (k : Int) := ⟨r3.toNat, by omega⟩
      have hR3 := hR.kp R2 k3 n1 n2
      have hF3 := Dp.tk (R2.tk k3) _ (flat_field F) hF2
      refine ⟨_, rfl, m, c, g, s2 + 1, 4, rfl, R3, by omega, by omega, by omega, fun way H4 w0 w1 R4 k4 => ⟨_, _, rfl, ?_⟩⟩
      have hR4 := hR3.kp R3 k4 n1 n2
      have hF4 := Dp.tk (R3.tk k4) _ (flat_field F) hF3
      have kk := (k2.trans k3).trans k4
      clear hR hR3 hF2 hF3 R2 R3
      have next : ∀ (H9 : Hp) (D9 : Addr) (l9 : List (Str × Int)) (s9 : Int) (z8 z9 : Option V), Kp m g H H9 → Dr H9 m c g s9 → s9 ≤ s + 4 * ((i + 1 : Nat) : Int) → Dp K H9 (.ref f) (dField F) → Row1 K H9 D9 l9 → D9 ≠ m → D9 ≠ g → GoodAll F l9 → l9.length ≤ 41 → Ali F l9 l → StirInv K F H m c g f p n l0 s (i + 1) [some (.ref m), some (.ref f), some (.ref p), some (.int (n : Int)), some (.ref D9), some (.int (0 + (i : Int))), some (.int (k : Int)), some (.int way), z8, z9] H9 :=
        fun H9 D9 l9 s9 z8 z9 a1 a2 a3 a4 a5 a6 a7 a8 a9 a10 => ⟨D9, _, _, _, _, _, s9, l9, rfl, a1, a2, a3, a4, a5, a6, a7, a8, a9, a10.trans ha⟩
      have kn : ∀ {H9 : Hp} {p9 : Addr}, Same H4 H9 → H9 p9 = none → p9 ≠ m ∧ p9 ≠ g := fun {H9 p9} s9 h9 => ⟨((R4.same s9).nm h9).1, ((R4.same s9).nm h9).2.2⟩
      have C30 : CPow 10 30 := ⟨by decide, by decide, by decide⟩
      dsimp only
      refine ifS_by (fun H5 s5 => ?_) (fun he => ?_)
      rotate_left
      · refine ⟨_, rfl, _, _, rfl, rfl, _, rfl, ite2 (fun hw => ?_) (fun _ => iteF (he _ (Same.refl _)))⟩
        obtain ⟨ys, eD, hly, _⟩ := hR4.len
        refine ⟨_, rfl, _, _, rfl, rfl, _, rfl, D, ys, rfl, .inl (SqL.of eD), _, _, rfl, rfl, _, rfl, ite2 (fun hk => ?_) (fun _ => iteF (he _ (Same.refl _)))⟩
        have hk : (k : Int) + 1 < (ys.length : Int) := of_decide_eq_true hk
        have hx : l[k]? = some l[k] := List.getElem?_eq_getElem (by omega)
        have hy : l[k + 1]? = some l[k + 1] := List.getElem?_eq_getElem (by omega)
        generalize l[k] = x at hx
        generalize l[k + 1] = y at hy
        have gx := hg x (List.mem_of_getElem? hx)
        have gy := hg y (List.mem_of_getElem? hy)
        refine ⟨_, rfl, _, rfl, _, rfl, ixRow hR4 hx rfl fun b cb db => ix0 cb ⟨_, rfl, _, rfl, _, _, rfl, rfl, ixRow hR4 hy (by omega) fun b2 cb2 db2 => ix0 cb2 ?_⟩⟩
        refine ⟨f, F, x.1, y.1, rfl, hF4, ok, gx.1, gy.1, fun H5 s5 => ⟨_, rfl, ite2 (fun hap => ?_) (fun _ => he _ s5)⟩⟩
        have hR5 := hR4.same s5
        refine ⟨_, rfl, noPart ⟨_, rfl, _, rfl, slRowTo hR5 fun H6 p6 s6 n6 r6 => ?_⟩⟩
        have hR6 := hR5.same s6
        refine ⟨_, rfl, _, rfl, _, _, rfl, rfl, ixRow hR6 hy (by omega) fun b3 cb3 db3 => ⟨_, rfl, _, rfl, ixRow hR6 hx rfl fun b4 cb4 db4 => ⟨two_sz, fun p7 n7 => upd_gen n7 fun H7 s7 e7 => ?_⟩⟩⟩
        have r7 : Row1 K H7 p7 [y, x] := ⟨_, e7, .cons (Dp.tk (Tk.of s7) _ (flat_step y) db3) (.cons (Dp.tk (Tk.of s7) _ (flat_step x) db4) .nil)⟩
        refine catRow (r6.same s7) r7 (by rw [List.length_take]; simp; omega) fun H8 p8 s8 n8 r8 => ?_
        have hR8 := (hR6.same s7).same s8
        refine ⟨_, rfl, _, rfl, _, _, rfl, rfl, ((k + 2 : Nat) : Int), rfl, noPart (slRowFrom hR8 fun H9 p9 s9 n9 r9 => ?_)⟩
        refine catRow (r8.same s9) r9 (by rw [List.length_append, List.length_take, List.length_drop]; simp; omega) fun H10 p10 s10 n10 r10 => ?_
        have ss := ((((s5.trans s6).trans s7).trans s8).trans s9).trans s10
        have nn := kn ((((s5.trans s6).trans s7).trans s8).trans s9) n10
        have el := split2 hx hy
        refine next H10 p10 _ _ _ _ (kk.trans (Kp.of ss)) (R4.same ss) (by omega) (Dp.tk (Tk.of ss) _ (flat_field F) hF4) r10 nn.1 nn.2 (((hg.take k).app ((GoodAll.one gy).app (GoodAll.one gx))).app (hg.drop (k + 2))) ?_ fun q hq => ?_
        · rw [List.length_append, List.length_append, List.length_take, List.length_drop]
          simp
          omega
        · conv => rhs; rw [el]
          rw [List.append_assoc]
          exact (XM.act_swap (by rw [tc_eq ok, hap]; rfl) (hg.take k).nz hq).symm
      have hR5 := hR4.same s5
      have hF5 := Dp.tk (Tk.of s5) _ (flat_field F) hF4
      refine ifS_by (fun H6 s6 => ?_) (fun he => ?_)
      rotate_left
      · refine ⟨_, rfl, rfl, _, rfl, ite2 (fun hw => ?_) (fun _ => iteF (he _ (Same.refl _)))⟩
        obtain ⟨ys, eD, hly, _⟩ := hR5.len
        refine ⟨_, rfl, _, rfl, D, ys, rfl, .inl (SqL.of eD), _, _, rfl, rfl, _, rfl, ite2 (fun hk => ?_) (fun _ => iteF (he _ (Same.refl _)))⟩
        have hk : (k : Int) < (ys.length : Int) := of_decide_eq_true hk
        refine ⟨_, rfl, D, ys, rfl, .inl (SqL.of eD), _, _, rfl, rfl, _, rfl, ite2 (fun h40 => ?_) (fun _ => iteF (he _ (Same.refl _)))⟩
        have h40 : (ys.length : Int) < 40 := of_decide_eq_true h40
        have hx : l[k]? = some l[k] := List.getElem?_eq_getElem (by omega)
        generalize l[k] = x at hx
        have gx := hg x (List.mem_of_getElem? hx)
        refine ⟨_, rfl, _, rfl, ixRow hR5 hx rfl fun b cb db => ix1 cb ⟨_, _, rfl, rfl, C30, _, _, rfl, rfl, ⟨by decide, fun p6 n6 => upd_gen n6 fun H6 s6 e6 => ⟨p6, _, rfl, .inr (SqT.of e6), rfl, rfl, _, rfl, ?_⟩⟩⟩⟩
        rw [if_pos rfl, inV2]
        refine ite2 (fun hin => ?_) (fun _ => he _ s6)
        obtain ⟨x1, x2⟩ : x.2 ≠ 1 ∧ x.2 ≠ 0 - 10 ^ 30 := by
          simp only [Bool.not_eq_true', Bool.or_eq_false_iff, decide_eq_false_iff_not] at hin
          exact hin
        have hR6 := hR5.same s6
        refine ⟨_, rfl, noPart ⟨_, rfl, _, rfl, slRowTo hR6 fun H7 p7 s7 n7 r7 => ?_⟩⟩
        have hR7 := hR6.same s7
        refine ⟨_, rfl, _, rfl, ixRow hR7 hx rfl fun b3 cb3 db3 => ix0 cb3 (⟨two_sz, fun p8 n8 => upd_gen n8 fun H8 s8 e8 => ?_⟩)⟩
        have hR8 := hR7.same s8
        refine ⟨_, rfl, _, rfl, ixRow hR8 hx rfl fun b4 cb4 db4 => ix0 cb4 ⟨_, rfl, _, rfl, ixRow hR8 hx rfl fun b5 cb5 db5 => ix1 cb5 ⟨_, _, rfl, rfl, ⟨two_sz, fun p9 n9 => upd_gen n9 fun H9 s9 e9 => ⟨two_sz, fun p10 n10 => upd_gen n10 fun H10 s10 e10 => ?_⟩⟩⟩⟩⟩
        have r10 : Row1 K H10 p10 [(x.1, 1), (x.1, x.2 - 1)] := ⟨_, e10, .cons (Dp.of_step (SqT.of ((s9.trans s10) _ _ e8))) (.cons (Dp.of_step (SqT.of (s10 _ _ e9))) .nil)⟩
        have r7' := ((r7.same s8).same s9).same s10
        have hR10 := (hR8.same s9).same s10
        refine catRow r7' r10 (by rw [List.length_take]; simp; omega) fun H11 p11 s11 n11 r11 => ?_
        refine ⟨_, rfl, _, rfl, _, _, rfl, rfl, ((k + 1 : Nat) : Int), rfl, noPart (slRowFrom (hR10.same s11) fun H12 p12 s12 n12 r12 => ?_)⟩
        refine catRow (r11.same s12) r12 (by rw [List.length_append, List.length_take, List.length_drop]; simp; omega) fun H13 p13 s13 n13 r13 => ?_
        have s12' := ((((((s5.trans s6).trans s7).trans s8).trans s9).trans s10).trans s11).trans s12
        have ss := s12'.trans s13
        have nn := kn s12' n13
        have el := split1 hx
        obtain ⟨t0, t1, t2⟩ := gx.2
        have g1 : GoodTimes 1 := ⟨by decide, by decide, by decide⟩
        have g2 : GoodTimes (x.2 - 1) := ⟨by omega, by omega, by omega⟩
        refine next H13 p13 _ _ _ _ (kk.trans (Kp.of ss)) (R4.same ss) (by omega) (Dp.tk (Tk.of ss) _ (flat_field F) hF4) r13 nn.1 nn.2 (((hg.take k).app ((GoodAll.one (x := (x.1, 1)) ⟨gx.1, g1⟩).app (GoodAll.one (x := (x.1, x.2 - 1)) ⟨gx.1, g2⟩))).app (hg.drop (k + 1))) ?_ fun q hq => ?_
        · rw [List.length_append, List.length_append, List.length_take, List.length_drop]
          simp
          omega
        · conv => rhs; rw [el]
          rw [List.append_assoc]
          refine (XM.act_joined (by decide) g2.1 (hg.take k).nz hq).trans ?_
          rw [if_neg (by omega), show (1 : Int) + (x.2 - 1) = x.2 by omega]
          rfl
      have hR6 := hR5.same s6
      have hF6 := Dp.tk (Tk.of s6) _ (flat_field F) hF5
      have R6 := (R4.same s5).same s6
      have k6 := (kk.trans (Kp.of s5)).trans (Kp.of s6)
      have done : ∀ H7, Same H6 H7 → StirInv K F H m c g f p n l0 s (i + 1) [some (.ref m), some (.ref f), some (.ref p), some (.int (n : Int)), some (.ref D), some (.int (0 + (i : Int))), some (.int (k : Int)), some (.int way), y8, y9] H7 := fun H7 s7 =>
        next H7 D l _ _ _ (k6.trans (Kp.of s7)) (R6.same s7) (by omega) (Dp.tk (Tk.of s7) _ (flat_field F) hF6) (hR6.same s7) n1 n2 hg hl Ali.refl
      refine ⟨_, rfl, rfl, _, rfl, ite2 (fun hw => ?_) (fun _ => iteF (done _ (Same.refl _)))⟩
      obtain ⟨ys, eD, hly, _⟩ := hR6.len
      refine ⟨_, rfl, D, ys, rfl, .inl (SqL.of eD), _, _, rfl, rfl, _, rfl, ite2 (fun h40 => ?_) (fun _ => done _ (Same.refl _))⟩
      have h40 : (ys.length : Int) < 40 := of_decide_eq_true h40
      obtain ⟨_, n', p', ps, e, hA, hN, hP, hD⟩ := hF6.field
      cases e
      have hlN : (F.names.map V.str).length = F.names.length := List.length_map ..
      have f0 := ok.n0
      have f6 := ok.n6
      refine ⟨_, rfl, ix0 hA ⟨_, rfl, _, rfl, ix0 hA ⟨n', _, rfl, .inr hN, m, c, g, s2 + 1 + 1, _, rfl, R6, by rw [hlN]; omega, by rw [hlN]; omega, by omega, fun r7 H7 r70 r71 R7 k7 => ?_⟩⟩⟩
      rw [hlN] at r71
      obtain ⟨a, ha7⟩ : ∃ a : Nat, r7 = (a : Int) := ⟨r7.toNat, by omega⟩
      have hx : F.names[a]? = some F.names[a] := List.getElem?_eq_getElem (by omega)
      have hxm := List.mem_of_getElem? hx
      generalize F.names[a] = x at hx hxm
      have t7 := R6.tk k7
      have hR7 := hR6.kp R6 k7 n1 n2
      have hF7 := Dp.tk t7 _ (flat_field F) hF6
      refine ⟨_, _, _, .str x, rfl, rfl, t7.sqT hN, at_of ha7 (by rw [List.getElem?_map, hx]; rfl), _, rfl, ⟨three_sz, fun p8 n8 => upd_gen n8 fun H8 s8 e8 => ?_⟩⟩
      have R8 := R7.same s8
      have n8' := R7.nm n8
      refine ⟨_, rfl, m, c, g, s2 + 1 + 1 + 1, 3, rfl, R8, by omega, by omega, by omega, fun r9 H9 r90 r91 R9 k9 => ?_⟩
      have hR9 := (hR7.same s8).kp R8 k9 n1 n2
      have hF9 := Dp.tk (R8.tk k9) _ (flat_field F) (Dp.tk (Tk.of s8) _ (flat_field F) hF7)
      have e9 := k9 _ _ n8'.1 n8'.2.2 e8
      obtain ⟨b, hb9⟩ : ∃ b : Nat, r9 = (b : Int) := ⟨r9.toNat, by omega⟩
      have hbl : b < TL.length := by
        show b < 3
        omega
      have hz : TL[b]? = some TL[b] := List.getElem?_eq_getElem hbl
      have hzg := tl_good hz
      generalize TL[b] = z at hz hzg
      have k9' := ((k6.trans k7).trans (Kp.of s8)).trans k9
      clear hR4 hR5 hR6 hR7 hF4 hF5 hF6 hF7 next done
      refine ⟨_, _, _, .int z, rfl, rfl, SqL.of (show H9 p8 = some (.lst (TL.map V.int)) from e9), at_of hb9 (by rw [List.getElem?_map, hz]; rfl), _, _, rfl, ?_⟩
      refine ⟨_, rfl, noPart ⟨_, rfl, _, rfl, slRowTo hR9 fun H10 p10 s10 n10 r10 => ?_⟩⟩
      refine ⟨_, rfl, _, rfl, ⟨two_sz, fun p11 n11 => upd_gen n11 fun H11 s11 e11 => ⟨_, rfl, _, rfl, _, _, rfl, rfl, ⟨two_sz, fun p12 n12 => upd_gen n12 fun H12 s12 e12 => ⟨two_sz, fun p13 n13 => upd_gen n13 fun H13 s13 e13 => ?_⟩⟩⟩⟩⟩
      have r13 : Row1 K H13 p13 [(x, z), (x, 0 - z)] := ⟨_, e13, .cons (Dp.of_step (s := (x, z)) (SqT.of ((s12.trans s13) _ _ e11))) (.cons (Dp.of_step (s := (x, 0 - z)) (SqT.of (s13 _ _ e12))) .nil)⟩
      have s13' := ((s10.trans s11).trans s12).trans s13
      refine catRow (((r10.same s11).same s12).same s13) r13 (by rw [List.length_take]; simp; omega) fun H14 p14 s14 n14 r14 => ?_
      refine ⟨_, rfl, _, rfl, _, rfl, noPart (slRowFrom (hR9.same (s13'.trans s14)) fun H15 p15 s15 n15 r15 => ?_)⟩
      refine catRow (r14.same s15) r15 (by rw [List.length_append, List.length_take, List.length_drop]; simp; omega) fun H16 p16 s16 n16 r16 => ?_
      have s15' := (s13'.trans s14).trans s15
      have ss := s15'.trans s16
      have nn := (R9.same s15').nm n16
      refine ⟨p16, _, _, _, _, _, _, _, rfl, k9'.trans (Kp.of ss), R9.same ss, by omega, Dp.tk (Tk.of ss) _ (flat_field F) hF9, r16, nn.1, nn.2.2, ((hg.take k).app ((GoodAll.one (x := (x, z)) ⟨hxm, hzg.1⟩).app (GoodAll.one (x := (x, 0 - z)) ⟨hxm, hzg.2⟩))).app (hg.drop k), ?_, Ali.trans (fun q hq => ?_) ha⟩
      · rw [List.length_append, List.length_append, List.length_take, List.length_drop]
        simp
        omega
      · rw [List.append_assoc]
        refine (XM.act_joined hzg.1.1 hzg.2.1 (hg.take k).nz hq).trans ?_
        rw [if_pos (by omega)]
        show XM.act (OF F) (l.take k ++ l.drop k) q = _
        rw [List.take_append_drop]
    · subst eσ
      obtain ⟨xs, eD, hD⟩ := hR
      refine ⟨_, rfl, .inl ⟨D, xs, rfl, SqL.of eD, fun r hr' => ?_⟩⟩
      have sr := same_upd (o := .tup xs) hr'
      exact q _ r l s2 (R2.same sr) (by omega) (k2.trans (Kp.of sr)) (.tup (SqT.of upd_same) (DpAll.tk (Tk.of sr) _ (flat_all_steps l) hD)) hg hl ha
end
end XB
set_option linter.all false
/-! drawings with finitely many spots: what alike rows do -/
namespace XM
def it (f : Nat → Nat) : Nat → Nat → Nat
  | 0, x => x
  | k + 1, x => it f k (f x)
theorem it_add (f : Nat → Nat) : ∀ (a b x : Nat), it f (a + b) x = it f b (it f a x)
  | 0, b, x => by rw [Nat.zero_add]; rfl
  | a + 1, b, x => by
    rw [show a + 1 + b = (a + b) + 1 by omega]
    show it f (a + b) (f x) = it f b (it f a (f x))
    exact it_add f a b (f x)
theorem it_succ (f : Nat → Nat) (k x : Nat) : it f (k + 1) x = f (it f k x) := it_add f k 1 x
theorem it_lt {f : Nat → Nat} {N : Nat} (hl : ∀ x, x < N → f x < N) : ∀ {k x : Nat}, x < N → it f k x < N
  | 0, x, h => h
  | k + 1, x, h => it_lt hl (k := k) (hl x h)
theorem ph : ∀ (N : Nat) (a : Nat → Nat), (∀ i, i ≤ N → a i < N) → ∃ i j, i < j ∧ j ≤ N ∧ a i = a j
  | 0, a, h => absurd (h 0 (Nat.le_refl _)) (Nat.not_lt_zero _)
  | N + 1, a, h => by
    by_cases he : ∃ i, i ≤ N ∧ a i = a (N + 1)
    · obtain ⟨i, h1, h2⟩ := he
      exact ⟨i, N + 1, by omega, Nat.le_refl _, h2⟩
    · have hn : ∀ i, i ≤ N → a i ≠ a (N + 1) := fun i h1 h2 => he ⟨i, h1, h2⟩
      have hv := h (N + 1) (Nat.le_refl _)
      obtain ⟨i, j, h1, h2, h3⟩ := ph N (fun i => if a i > a (N + 1) then a i - 1 else a i) (fun i hi => by
        have := h i (by omega)
        have := hn i hi
        show (if a i > a (N + 1) then a i - 1 else a i) < N
        split <;> omega)
      refine ⟨i, j, h1, by omega, ?_⟩
      have e : (if a i > a (N + 1) then a i - 1 else a i) = (if a j > a (N + 1) then a j - 1 else a j) := h3
      have := hn i (by omega)
      have := hn j h2
      split at e <;> split at e <;> omega
theorem it_inj {f : Nat → Nat} {N : Nat} (hl : ∀ x, x < N → f x < N) (hi : ∀ x y, x < N → y < N → f x = f y → x = y) : ∀ {k x y : Nat}, x < N → y < N → it f k x = it f k y → x = y
  | 0, _, _, _, _, e => e
  | k + 1, x, y, hx, hy, e => hi x y hx hy (it_inj hl hi (k := k) (hl x hx) (hl y hy) e)
theorem per {f : Nat → Nat} {N : Nat} (hl : ∀ x, x < N → f x < N) (hi : ∀ x y, x < N → y < N → f x = f y → x = y) {x : Nat} (hx : x < N) : ∃ L, 1 ≤ L ∧ L ≤ N ∧ it f L x = x := by
  obtain ⟨i, j, h1, h2, h3⟩ := ph N (fun i => it f i x) (fun i _ => it_lt hl hx)
  have h3 : it f i x = it f j x := h3
  refine ⟨j - i, by omega, by omega, ?_⟩
  rw [show j = (j - i) + i by omega, it_add] at h3
  exact (it_inj hl hi hx (it_lt hl hx) h3).symm
theorem it_mul {f : Nat → Nat} {L x : Nat} (h : it f L x = x) : ∀ j : Nat, it f (L * j) x = x
  | 0 => rfl
  | j + 1 => by
    rw [Nat.mul_succ, it_add, it_mul h j, h]
theorem it_mod {f : Nat → Nat} {L x : Nat} (h : it f L x = x) (k : Nat) : it f k x = it f (k % L) x := by
  conv => lhs; rw [← Nat.div_add_mod k L, it_add, it_mul h]
def fac : Nat → Nat
  | 0 => 1
  | n + 1 => (n + 1) * fac n
theorem fac_pos : ∀ n, 0 < fac n
  | 0 => Nat.zero_lt_one
  | n + 1 => Nat.mul_pos (Nat.succ_pos n) (fac_pos n)
theorem dvd_fac : ∀ {n L : Nat}, 1 ≤ L → L ≤ n → L ∣ fac n
  | 0, L, h1, h2 => by omega
  | n + 1, L, h1, h2 => by
    by_cases h : L = n + 1
    · rw [h]
      exact Nat.dvd_mul_right _ _
    · exact Nat.dvd_trans (dvd_fac (n := n) h1 (by omega)) (Nat.dvd_mul_left _ _)
/-- f so many times, taken back below 0 -/
def ac (N : Nat) (f : Nat → Nat) (x : Nat) (t : Int) : Nat := it f (t % (fac N : Int)).toNat x
section
variable {f : Nat → Nat} {N : Nat} (hl : ∀ x, x < N → f x < N) (hi : ∀ x y, x < N → y < N → f x = f y → x = y)
include hl hi
theorem it_fac {x : Nat} (hx : x < N) : it f (fac N) x = x := by
  obtain ⟨L, h1, h2, h3⟩ := per hl hi hx
  obtain ⟨j, hj⟩ := dvd_fac h1 h2
  rw [hj]
  exact it_mul h3 j
theorem ac_lt {x : Nat} (hx : x < N) (t : Int) : ac N f x t < N := it_lt hl hx
theorem ac_add {x : Nat} (hx : x < N) (s t : Int) : ac N f (ac N f x s) t = ac N f x (s + t) := by
  unfold ac
  have hp : (0 : Int) < (fac N : Int) := by have := fac_pos N; omega
  have a0 := Int.emod_nonneg s (b := (fac N : Int)) (by omega)
  have b0 := Int.emod_nonneg t (b := (fac N : Int)) (by omega)
  have c0 := Int.emod_nonneg (s + t) (b := (fac N : Int)) (by omega)
  rw [← it_add, it_mod (it_fac hl hi hx) ((s % (fac N : Int)).toNat + (t % (fac N : Int)).toNat)]
  congr 1
  have e : (s + t) % (fac N : Int) = (s % (fac N : Int) + t % (fac N : Int)) % (fac N : Int) := Int.add_emod s t _
  have : ((((s % (fac N : Int)).toNat + (t % (fac N : Int)).toNat) % fac N : Nat) : Int) = (((s + t) % (fac N : Int)).toNat : Int) := by
    rw [Int.natCast_emod, Int.natCast_add, Int.toNat_of_nonneg a0, Int.toNat_of_nonneg b0, Int.toNat_of_nonneg c0, e]
  exact Int.ofNat_inj.mp this
/-- by the ring of a spot, as it is found by walking -/
theorem ac_ring {x R : Nat} (hx : x < N) (h1 : 1 ≤ R) (hR : it f R x = x) (hm : ∀ i, 1 ≤ i → i < R → it f i x ≠ x) (t : Int) : it f (t % (R : Int)).toNat x = ac N f x t := by
  unfold ac
  have hd : R ∣ fac N := by
    have e := it_mod hR (fac N)
    rw [it_fac hl hi hx] at e
    have hlt := Nat.mod_lt (fac N) (show R > 0 by omega)
    by_cases h0 : fac N % R = 0
    · exact Nat.dvd_of_mod_eq_zero h0
    · exact absurd e.symm (hm _ (by omega) hlt)
  have hp : (0 : Int) < (fac N : Int) := by have := fac_pos N; omega
  have a0 := Int.emod_nonneg t (b := (fac N : Int)) (by omega)
  have b0 := Int.emod_nonneg t (b := (R : Int)) (by omega)
  rw [it_mod hR (t % (fac N : Int)).toNat]
  congr 1
  have : (((t % (R : Int)).toNat : Nat) : Int) = (((t % (fac N : Int)).toNat % R : Nat) : Int) := by
    rw [Int.natCast_emod, Int.toNat_of_nonneg a0, Int.toNat_of_nonneg b0, Int.emod_emod_of_dvd t (Int.ofNat_dvd.mpr hd)]
  exact Int.ofNat_inj.mp this
end
theorem ac_zero {f : Nat → Nat} {N x : Nat} : ac N f x 0 = x := by
  unfold ac
  rw [Int.zero_emod]
  rfl
theorem it_comm1 {f g : Nat → Nat} {N : Nat} (hl : ∀ x, x < N → f x < N) (hc : ∀ x, x < N → f (g x) = g (f x)) : ∀ {k x : Nat}, x < N → it f k (g x) = g (it f k x)
  | 0, _, _ => rfl
  | k + 1, x, h => by
    show it f k (f (g x)) = g (it f k (f x))
    rw [hc x h]
    exact it_comm1 hl hc (hl x h)
theorem it_comm {f g : Nat → Nat} {N : Nat} (hl : ∀ x, x < N → f x < N) (hg : ∀ x, x < N → g x < N) (hc : ∀ x, x < N → f (g x) = g (f x)) {j : Nat} : ∀ {k x : Nat}, x < N → it f j (it g k x) = it g k (it f j x)
  | 0, _, _ => rfl
  | k + 1, x, h => by
    show it f j (it g k (g x)) = it g k (g (it f j x))
    rw [it_comm hl hg hc (hg x h), it_comm1 hl hc h]
section
variable {α : Type} [DecidableEq α] {O : Ord α}
structure Yd (O : Ord α) (P : α → Prop) (N : Nat) (f : α → Nat → Nat) : Prop where
  lt : ∀ a, P a → ∀ x, x < N → f a x < N
  inj : ∀ a, P a → ∀ x y, x < N → y < N → f a x = f a y → x = y
  comm : ∀ a b, P a → P b → O.tc a b = false → ∀ x, x < N → f a (f b x) = f b (f a x)
/-- the spot to which a row leads -/
def leads (N : Nat) (f : α → Nat → Nat) (x : Nat) (l : Row α) : Nat := l.foldl (fun x s => ac N (f s.1) x s.2) x
variable {P : α → Prop} {N : Nat} {f : α → Nat → Nat}
theorem leads_app {l m : Row α} {x : Nat} : leads N f x (l ++ m) = leads N f (leads N f x l) m := List.foldl_append
theorem leads_lt (Y : Yd O P N f) : ∀ {l : Row α} {x : Nat}, (∀ s ∈ l, P s.1) → x < N → leads N f x l < N
  | [], x, _, h => h
  | s :: l, x, hp, h => leads_lt Y (l := l) (fun y hy => hp y (List.mem_cons_of_mem _ hy)) (ac_lt (Y.lt _ (hp s List.mem_cons_self)) (Y.inj _ (hp s List.mem_cons_self)) h _)
theorem leads_ins (Y : Yd O P N f) {s : α × Int} (hs : P s.1) : ∀ {r : Row α} {x : Nat}, (∀ y ∈ r, P y.1) → x < N → leads N f x (ins O s r).reverse = leads N f x (r.reverse ++ [s])
  | [], x, _, _ => rfl
  | y :: r, x, hp, hx => by
    have hy := hp y List.mem_cons_self
    have hr : ∀ z ∈ r, P z.1 := fun z hz => hp z (List.mem_cons_of_mem _ hz)
    have hl := leads_lt Y (l := r.reverse) (fun z hz => hr z (List.mem_reverse.mp hz)) hx
    have two : leads N f x ((y :: r).reverse ++ [s]) = ac N (f s.1) (ac N (f y.1) (leads N f x r.reverse) y.2) s.2 := by
      rw [List.reverse_cons, List.append_assoc, leads_app]
      rfl
    rw [two]
    by_cases e : y.1 = s.1
    · obtain ⟨a, u⟩ := y
      obtain ⟨b, t⟩ := s
      have e : a = b := e
      subst e
      rw [ins_same]
      have hadd := ac_add (Y.lt a hs) (Y.inj a hs) hl u t
      show _ = ac N (f a) (ac N (f a) (leads N f x r.reverse) u) t
      rw [hadd]
      by_cases h0 : u + t = 0
      · rw [if_pos h0, h0, ac_zero]
      · rw [if_neg h0, List.reverse_cons, leads_app]
        rfl
    · by_cases ht : O.tc y.1 s.1 = true
      · rw [ins_touch (O := O) ht e, List.reverse_cons, List.reverse_cons, List.append_assoc, leads_app]
        rfl
      · have ht : O.tc y.1 s.1 = false := by simpa using ht
        rw [ins_apart (O := O) ht]
        by_cases hc : (O.lt y.1 s.1 && top O s.1 r) = true
        · rw [if_pos hc, List.reverse_cons, List.reverse_cons, List.append_assoc, leads_app]
          rfl
        · rw [if_neg hc, List.reverse_cons, leads_app, leads_ins Y hs hr hx, leads_app]
          show ac N (f y.1) (ac N (f s.1) _ s.2) y.2 = _
          unfold ac
          exact it_comm (Y.lt _ hy) (Y.lt _ hs) (fun z hz => Y.comm _ _ hy hs ht z hz) hl
theorem leads_act (Y : Yd O P N f) : ∀ {l r : Row α} {x : Nat}, (∀ y ∈ l, P y.1) → (∀ y ∈ r, P y.1) → (∀ (s : α × Int) (q : Row α), P s.1 → (∀ y ∈ q, P y.1) → ∀ y ∈ ins O s q, P y.1) → x < N → leads N f x (act O l r).reverse = leads N f x (r.reverse ++ l)
  | [], r, x, _, _, _, _ => by
    rw [List.append_nil]
    rfl
  | s :: l, r, x, hl, hr, hi, hx => by
    have hs := hl s List.mem_cons_self
    rw [act_cons, leads_act Y (fun y hy => hl y (List.mem_cons_of_mem _ hy)) (hi s r hs hr) hi hx, leads_app, leads_ins Y hs hr hx, ← leads_app, List.append_assoc]
    rfl
end
end XM
set_option Elab.async false
set_option linter.all false
set_option maxRecDepth 100000
set_option maxHeartbeats 4000000
namespace XB
open PySem PySem.Spec PyProof.Rows L2
theorem sh_dsteps {l : List (Str × Int)} (h : ∀ s ∈ l, GoodName s.1) : SeqAt.shaped (dSteps l) = true := by
  have h2 := deep_steps l
  show (PyData.canLayAll0 (l.map dStep) && decide (PyData.depthAll (l.map dStep) + 1 ≤ 64)) = true
  rw [lay_steps h, Bool.true_and]
  exact decide_eq_true (by omega)
theorem eqv_step (s t : Str × Int) : PyData.eqv (dStep s) (dStep t) = decide (s = t) := by
  obtain ⟨a, i⟩ := s
  obtain ⟨b, j⟩ := t
  show (PyData.eqv (.str a) (.str b) && (PyData.eqv (.int i) (.int j) && true)) = _
  rw [Bool.and_true]
  show ((a == b) && (i == j)) = _
  by_cases h1 : a = b
  · by_cases h2 : i = j
    · simp [h1, h2]
    · simp [h2]
  · simp [h1]
theorem eqv_all_steps : ∀ l m : List (Str × Int), PyData.eqvAll (l.map dStep) (m.map dStep) = decide (l = m)
  | [], [] => rfl
  | [], b :: m => rfl
  | a :: l, [] => rfl
  | a :: l, b :: m => by
    rw [List.map_cons, List.map_cons, PyData.eqvAll, eqv_step, eqv_all_steps l m]
    by_cases h1 : a = b
    · by_cases h2 : l = m
      · simp [h1, h2]
      · simp [h2]
    · simp [h1]
theorem eqv_steps (l m : List (Str × Int)) : PyData.eqv (dSteps l) (dSteps m) = decide (l = m) := by
  show PyData.eqv (.tuple (l.map dStep)) (.tuple (m.map dStep)) = _
  rw [PyData.eqv]
  exact eqv_all_steps l m
theorem good_pile {F : Fld} (ok : F.Ok) {l : List (Str × Int)} (hN : Names F l) : ∀ s ∈ (XM.act (OF F) l []).reverse, GoodName s.1 := fun s hs => ok.sgn _ (names_act (r := []) hN (fun _ h => (nomatch h)) s (List.mem_reverse.mp hs))
/-- a row of a yard, and the yard -/
def rowV (N : Nat) (g : Nat → Nat) : List V := (List.range N).map fun x => V.int ((g x : Nat) : Int)
def YardAt (K : PySem.W.Frag) (H : Hp) (y : Addr) (F : Fld) (N : Nat) (f : Str → Nat → Nat) : Prop := ∃ ys, SqT K H y ys ∧ ys.length = F.names.length ∧ ∀ (i : Nat) (n : Str), F.names[i]? = some n → ∃ b, ys[i]? = some (.ref b) ∧ SqT K H b (rowV N (f n))
theorem YardAt.tk {K : PySem.W.Frag} {H H' : Hp} {y : Addr} {F : Fld} {N : Nat} {f : Str → Nat → Nat} (h : YardAt K H y F N f) (t : Tk H H') : YardAt K H' y F N f := by
  obtain ⟨ys, h1, h2, h3⟩ := h
  refine ⟨ys, t.sqT h1, h2, fun i n hn => ?_⟩
  obtain ⟨b, e, hb⟩ := h3 i n hn
  exact ⟨b, e, t.sqT hb⟩
theorem rowV_at {N : Nat} {g : Nat → Nat} {x : Nat} (h : x < N) : (rowV N g)[x]? = some (V.int ((g x : Nat) : Int)) := by
  unfold rowV
  rw [List.getElem?_map, List.getElem?_range h]
  rfl
theorem names_place {F : Fld} (ok : F.Ok) {n : Str} (h : n ∈ F.names) : ∃ i : Nat, F.names[i]? = some n ∧ ∀ m, m < i → F.names[m]? ≠ some n := by
  obtain ⟨i, hi, he⟩ := List.getElem_of_mem h
  refine ⟨i, by rw [List.getElem?_eq_getElem hi, he], fun m hm e => ?_⟩
  obtain ⟨h1, e1⟩ := List.getElem?_eq_some_iff.mp e
  have := List.pairwise_iff_getElem.mp ok.asN m i h1 hi hm
  rw [e1, he, sLt_irr] at this
  cases this
section
variable {P : Program} {w : World} {K : PySem.W.Frag} {mg : Str → Option Value} {base : Heap}
def FS2 (K : PySem.W.Frag) (F : Fld) (l m : List (Str × Int)) (vs : List V) (H : Hp) : Prop := ∃ (a d e : Addr), vs = [.ref a, .ref d, .ref e] ∧ Dp K H (.ref a) (dField F) ∧ F.Ok ∧ Dp K H (.ref d) (dSteps l) ∧ GoodScript F l ∧ Dp K H (.ref e) (dSteps m) ∧ GoodScript F m
def spAreAlike (K : PySem.W.Frag) (F : Fld) : Sp := fun vs H Q _ => ∃ l m, FS2 K F l m vs H ∧ ∀ H', Same H H' → Q (.bl (decide (XM.act (OF F) l [] = XM.act (OF F) m []))) H'
def spJoined (K : PySem.W.Frag) (F : Fld) : Sp := fun vs H Q _ => ∃ l m, FS2 K F l m vs H ∧ ∀ H' r, Same H H' → Dp K H' (.ref r) (dSteps (XM.act (OF F) (l ++ m) []).reverse) → Q (.ref r) H'
def spLed (K : PySem.W.Frag) (F : Fld) : Sp := fun vs H Q _ => ∃ (a y p : Addr) (x N : Nat) (f : Str → Nat → Nat) (l : List (Str × Int)), vs = [.ref a, .ref y, .ref p, .int (x : Int)] ∧ FNm K H a F ∧ F.Ok ∧ YardAt K H y F N f ∧ XM.Yd (OF F) (· ∈ F.names) N f ∧ N ≤ 500 ∧
  Dp K H (.ref p) (dSteps l) ∧ Names F l ∧ x < N ∧ ∀ H', Same H H' → Q (.int ((XM.leads N f x l : Nat) : Int)) H'
theorem c__law_led (T : Tx K mg) (F : Fld) : Cl P w K mg base CX0 1 "_law_led" (spLed K F) := by
  refine cl0 T.d__law_led (ps := ["field", "yard", "steps", "spot"]) (fun _ _ _ _ _ _ us hl => match us, hl with | [_, _, _, _], _ => rfl) sc__law_led (fun vs H Q E h => ?_) (fun fa cdv A outer st H vs Q E hr h => ?_)
  · obtain ⟨a, y, p, x, N, f, l, rfl, _⟩ := h
    rfl
  · obtain ⟨a, y, p, x, N, f, l, rfl, hF, ok, hY, Y, hN5, hL, hN, hx, q⟩ := h
    have nd := sc__law_led.nd
    refine ⟨_, (pss_cons (ps_for PassesOwn.never rfl (pi_tup (pv 2)) (pg_tup rfl (pgs_cons (pg_name (i := 4) nd rfl (.inl rfl)) (pgs_cons (pg_name (i := 5) nd rfl (.inl rfl)) pgs_nil)))
    (pss_cons (ps_set (i := 6) nd rfl (.inl rfl) (pe_ix (ixk_tup (K := K) rfl) (pv 1) (pe_bmF PySem.F.slot_tuple_index PySem.F.type_tuple_index mt_tup_index (pe_ix (ixk_tup (K := K) rfl) (pv 0) pe_int (fun _ _ => rfl)) (pa_cons (pv 4) pa_nil)) (fun _ _ => rfl)))
    (pss_cons (ps_par (i := 7) (j := 8) rfl nd rfl rfl (by decide) rfl rfl (pa_cons (pe_lst (pa_cons (pv 3) pa_nil)) (pa_cons (pe_ix (ixk_tup (K := K) rfl) (pv 6) (pv 3) (fun _ _ => rfl)) pa_nil)) rfl)
    (pss_cons (ps_while PassesOwn.never (pt_cmpR op_ne (pv 8) (pv 3) (nomark _))
    (pss_cons (ps_expr (pe_bm PySem.F.plainAttrs_list PySem.F.slot_list_append PySem.F.type_list_append mt_append (pv 7) (pa_cons (pv 8) pa_nil)))
    (pss_one (ps_set (i := 8) nd rfl (.inl rfl) (pe_ix (ixk_tup (K := K) rfl) (pv 6) (pv 8) (fun _ _ => rfl))))))
    (pss_one (ps_set (i := 3) nd rfl (.inl rfl) (pe_ix (ixk_list (K := K) rfl) (pv 7) (pe_op op_mod (pe_callTy call_int1 (by rfl) T.b_int (by decide +kernel) (pa_cons (pv 5) pa_nil)) (pe_lenS (by rfl) T.b_len (pv 7))) (fun _ _ => rfl))))))))
    (pss_one (ps_ret (pv 3)))), ?_⟩
    obtain ⟨_, vs, e, hS, hV⟩ := hL.steps
    cases e
    have hlx := hV.len
    rw [List.length_map] at hlx
    refine ⟨_, rfl, p, rfl, ⟨_, hS⟩, for_it (walk_tup (xs := vs)) (fun i σ H2 => ∃ (y4 y5 y6 y7 y8 : Option V), σ = [some (.ref a), some (.ref y), some (.ref p), some (.int ((XM.leads N f x (l.take i) : Nat) : Int)), y4, y5, y6, y7, y8] ∧ Same H H2)
      ⟨_, _, _, _, _, rfl, Same.refl _⟩ (fun i σ H2 _ ⟨_, _, _, _, _, _, s2⟩ => (Tk.of s2).sqT hS) (fun i x' σ H2 H3 hi ⟨y4, y5, y6, y7, y8, eσ, s2⟩ hy => ?_) (fun σ H2 ⟨y4, y5, y6, y7, y8, eσ, s2⟩ => ?_)⟩
    · obtain ⟨rfl, hx'⟩ := hy
      subst eσ
      obtain ⟨dd, g1, p1⟩ := hV.get hx'
      rw [List.getElem?_map] at g1
      obtain ⟨s, k1, rfl⟩ := Option.map_eq_some_iff.mp g1
      obtain ⟨b, rfl, cb⟩ := p1.step
      have cb := (Tk.of s2).sqT cb
      have ms := hN s (List.mem_of_getElem? k1)
      have hx0 : XM.leads N f x (l.take i) < N := XM.leads_lt Y (fun z hz => hN z (List.mem_of_mem_take hz)) hx
      have hnext : XM.leads N f x (l.take (i + 1)) = XM.ac N (f s.1) (XM.leads N f x (l.take i)) s.2 := by
        rw [take_snoc k1, XM.leads_app]
        rfl
      rw [hnext]
      generalize XM.leads N f x (l.take i) = x0 at hx0
      obtain ⟨n', p', hA, hNm⟩ := hF.tk (Tk.of s2)
      obtain ⟨j, hj, hj2⟩ := names_place ok ms
      obtain ⟨ys, hy1, hy2, hy3⟩ := hY.tk (Tk.of s2)
      obtain ⟨rb, hr1, hr2⟩ := hy3 j s.1 hj
      have hlt := Y.lt s.1 ms
      have hinj := Y.inj s.1 ms
      refine ⟨b, _, rfl, cb, rfl, _, _, rfl, _, _, rfl, rfl, ?_⟩
      refine ⟨_, rfl, _, rfl, ix0 hA ⟨⟨n', _, rfl, hNm⟩, _, rfl, n', F.names, s.1, j, rfl, rfl, hNm.sqT, hj, hj2, y, ys, _, .ref rb, rfl, rfl, hy1, atI_nat hr1, ?_⟩⟩
      refine ⟨_, rfl, one_sz, fun D nD => upd_gen nD fun H4 s4 e4 => ?_⟩
      have hr4 := (Tk.of s4).sqT hr2
      have nD0 : H D = none := fresh_of s2 nD
      refine ⟨_, rfl, _, rfl, rb, _, _, _, rfl, rfl, hr4, atI_nat (rowV_at hx0), ⟨_, _, rfl, ?_⟩⟩
      obtain ⟨L, L1, L2, L3⟩ := XM.per hlt hinj hx0
      have rg : ∀ k, (List.range (k + 1 + 1)).map (fun j => V.int ((XM.it (f s.1) j x0 : Nat) : Int)) = (List.range (k + 1)).map (fun j => V.int ((XM.it (f s.1) j x0 : Nat) : Int)) ++ [V.int ((XM.it (f s.1) (k + 1) x0 : Nat) : Int)] := fun k => by
        rw [List.range_succ, List.map_append]
        rfl
      refine ⟨fun m σ' H' => ∃ k : Nat, m = L - k ∧ k < L ∧ σ' = [some (.ref a), some (.ref y), some (.ref p), some (.int (x0 : Int)), some (.str s.1), some (.int s.2), some (.ref rb), some (.ref D), some (.int ((XM.it (f s.1) (k + 1) x0 : Nat) : Int))] ∧ Same H H' ∧ SqT K H' rb (rowV N (f s.1)) ∧
          H' D = some (.lst ((List.range (k + 1)).map fun j => V.int ((XM.it (f s.1) j x0 : Nat) : Int))) ∧ ∀ i, 1 ≤ i → i < k + 1 → XM.it (f s.1) i x0 ≠ x0,
        ⟨L, 0, rfl, by omega, rfl, s2.trans s4, hr4, e4, fun i h1 h2 => by omega⟩, ?_⟩
      rintro m σ' H' ⟨k, rfl, hk, rfl, s', hr', eD, hmin⟩
      refine ⟨_, rfl, _, rfl, rfl, _, rfl, ?_⟩
      rw [dec_int]
      by_cases h0 : XM.it (f s.1) (k + 1) x0 = x0
      · rw [show (((XM.it (f s.1) (k + 1) x0 : Nat) : Int) == (x0 : Int)) = true by rw [h0]; exact beq_self_eq_true _]
        refine iteF ?_
        have hlen : ((List.range (k + 1)).map fun j => V.int ((XM.it (f s.1) j x0 : Nat) : Int)).length = k + 1 := by rw [List.length_map, List.length_range]
        refine ⟨_, rfl, _, rfl, .inl ⟨_, rfl, _, rfl, D, _, rfl, .inl (SqL.of eD), _, _, rfl, rfl, ?_, ?_⟩⟩
        · show (0 : Int) < (((List.range (k + 1)).map fun j => V.int ((XM.it (f s.1) j x0 : Nat) : Int)).length : Int)
          rw [hlen]
          omega
        · have m0 := Int.emod_nonneg s.2 (b := ((k + 1 : Nat) : Int)) (by omega)
          have m1 := Int.emod_lt_of_pos s.2 (b := ((k + 1 : Nat) : Int)) (by omega)
          obtain ⟨u, hu⟩ : ∃ u : Nat, s.2 % ((k + 1 : Nat) : Int) = (u : Int) := ⟨(s.2 % ((k + 1 : Nat) : Int)).toNat, by omega⟩
          have hu' : s.2 % (((List.range (k + 1)).map fun j => V.int ((XM.it (f s.1) j x0 : Nat) : Int)).length : Int) = (u : Int) := by
            rw [hlen]
            exact hu
          refine ⟨D, _, _, _, rfl, rfl, SqL.of eD, at_of hu' (by rw [List.getElem?_map, List.getElem?_range (by omega)]; rfl), ?_⟩
          have hac := XM.ac_ring hlt hinj hx0 (show 1 ≤ k + 1 by omega) h0 hmin s.2
          rw [hu, Int.toNat_natCast] at hac
          rw [← hac]
          exact ⟨_, _, _, _, _, rfl, s'⟩
      · rw [show (((XM.it (f s.1) (k + 1) x0 : Nat) : Int) == (x0 : Int)) = false by
          rw [beq_eq_false_iff_ne]
          exact fun h => h0 (Int.ofNat_inj.mp h)]
        refine iteT ⟨fun σ2 H2' => ∃ m', m' < L - k ∧ ∃ k' : Nat, m' = L - k' ∧ k' < L ∧ σ2 = [some (.ref a), some (.ref y), some (.ref p), some (.int (x0 : Int)), some (.str s.1), some (.int s.2), some (.ref rb), some (.ref D), some (.int ((XM.it (f s.1) (k' + 1) x0 : Nat) : Int))] ∧ Same H H2' ∧ SqT K H2' rb (rowV N (f s.1)) ∧
          H2' D = some (.lst ((List.range (k' + 1)).map fun j => V.int ((XM.it (f s.1) j x0 : Nat) : Int))) ∧ ∀ i, 1 ≤ i → i < k' + 1 → XM.it (f s.1) i x0 ≠ x0, fun σ' H'' h => h, ?_⟩
        have hlt' : XM.it (f s.1) (k + 1) x0 < N := XM.it_lt hlt hx0
        have hkL : k + 1 < L := by
          rcases Nat.lt_or_ge (k + 1) L with h | h
          · exact h
          · have : L = k + 1 := by omega
            rw [this] at L3
            exact absurd L3 h0
        refine ⟨_, rfl, Or.inl ⟨rfl, _, SqL.of eD⟩, _, rfl, D, _, _, rfl, rfl, eD, small1000 (by rw [List.length_map, List.length_range]; omega), ?_⟩
        have hr5 : SqT K (upd H' D (.lst (((List.range (k + 1)).map fun j => V.int ((XM.it (f s.1) j x0 : Nat) : Int)) ++ [V.int ((XM.it (f s.1) (k + 1) x0 : Nat) : Int)]))) rb (rowV N (f s.1)) := (Tk.refl.lst eD).sqT hr'
        refine ⟨_, rfl, _, rfl, rb, _, _, _, rfl, rfl, hr5, atI_nat (rowV_at hlt'), ?_⟩
        refine ⟨L - (k + 1), by omega, k + 1, rfl, hkL, ?_, same_put s' nD0, hr5, ?_, fun i h1 h2 => ?_⟩
        · rw [XM.it_succ (f s.1) (k + 1) x0]
          rfl
        · rw [upd_same, rg]
        · by_cases hik : i = k + 1
          · rw [hik]
            exact h0
          · exact hmin i h1 (by omega)
    · subst eσ
      rw [List.take_of_length_le (by omega)]
      exact ⟨_, rfl, q _ s2⟩
end
end XB
set_option linter.all false
/-! blocks of digits: one digit of a spot turned -/
namespace XM
def stN (size many : Nat) (t : Nat → Nat) (s : Nat) : Nat := size * (many * (s / size / many) + t (s / size % many)) + s % size
section
variable {size many : Nat} {t : Nat → Nat} (hs : 0 < size) (hm : 0 < many) (ht : ∀ h, h < many → t h < many)
include hs hm ht
theorem stN_mod (s : Nat) : stN size many t s % size = s % size := by
  unfold stN
  rw [Nat.mul_add_mod, Nat.mod_mod]
theorem stN_div (s : Nat) : stN size many t s / size = many * (s / size / many) + t (s / size % many) := by
  unfold stN
  rw [Nat.mul_add_div hs, Nat.div_eq_of_lt (Nat.mod_lt s hs), Nat.add_zero]
theorem stN_div2 (s : Nat) : stN size many t s / size / many = s / size / many := by
  rw [stN_div hs hm ht, Nat.mul_add_div hm, Nat.div_eq_of_lt (ht _ (Nat.mod_lt _ hm)), Nat.add_zero]
theorem stN_dig (s : Nat) : stN size many t s / size % many = t (s / size % many) := by
  rw [stN_div hs hm ht, Nat.mul_add_mod, Nat.mod_eq_of_lt (ht _ (Nat.mod_lt _ hm))]
theorem stN_lt {k s : Nat} (h : s < size * many * k) : stN size many t s < size * many * k := by
  have e : ∀ z, z < size * many * k ↔ z / size / many < k := fun z => by
    rw [Nat.div_div_eq_div_mul, Nat.div_lt_iff_lt_mul (Nat.mul_pos hs hm), Nat.mul_comm k]
  rw [e] at h ⊢
  rw [stN_div2 hs hm ht]
  exact h
theorem back_of (s : Nat) : s = size * (many * (s / size / many) + s / size % many) + s % size := by
  rw [Nat.div_add_mod, Nat.div_add_mod]
theorem stN_inj (hi : ∀ a b, a < many → b < many → t a = t b → a = b) {s u : Nat} (h : stN size many t s = stN size many t u) : s = u := by
  have e1 := stN_mod hs hm ht s
  have e2 := stN_div2 hs hm ht s
  have e3 := stN_dig hs hm ht s
  rw [h, stN_mod hs hm ht] at e1
  rw [h, stN_div2 hs hm ht] at e2
  rw [h, stN_dig hs hm ht] at e3
  have e4 := hi _ _ (Nat.mod_lt _ hm) (Nat.mod_lt _ hm) e3
  rw [back_of hs hm ht s, back_of hs hm ht u, e1, e2, e4]
theorem stN_shift {c v r : Nat} : stN size many t (size * many * c * v + r) = size * many * c * v + stN size many t r := by
  have e0 : size * many * c * v = size * (many * (c * v)) := by
    rw [Nat.mul_assoc, Nat.mul_assoc]
  rw [e0]
  have d1 : (size * (many * (c * v)) + r) / size = many * (c * v) + r / size := Nat.mul_add_div hs _ _
  have d2 : (size * (many * (c * v)) + r) % size = r % size := Nat.mul_add_mod _ _ _
  unfold stN
  rw [d1, d2, Nat.mul_add_div hm, Nat.mul_add_mod]
  rw [Nat.mul_add, Nat.mul_add, Nat.mul_add, Nat.mul_add]
  omega
end
theorem stN_id {size many s : Nat} : stN size many (fun h => h) s = s := by
  unfold stN
  rw [Nat.div_add_mod, Nat.div_add_mod]
theorem stN_comm {s1 m1 : Nat} {t1 : Nat → Nat} {m2 c : Nat} {t2 : Nat → Nat} (hs : 0 < s1) (hm : 0 < m1) (ht : ∀ h, h < m1 → t1 h < m1) (hc : 0 < c) (hm2 : 0 < m2) (ht2 : ∀ h, h < m2 → t2 h < m2) (s : Nat) :
    stN s1 m1 t1 (stN (s1 * m1 * c) m2 t2 s) = stN (s1 * m1 * c) m2 t2 (stN s1 m1 t1 s) := by
  have hp : 0 < s1 * m1 * c := Nat.mul_pos (Nat.mul_pos hs hm) hc
  have hr := Nat.mod_lt s hp
  have hlt : stN s1 m1 t1 (s % (s1 * m1 * c)) < s1 * m1 * c := stN_lt hs hm ht hr
  have e1 : stN s1 m1 t1 s = s1 * m1 * c * (s / (s1 * m1 * c)) + stN s1 m1 t1 (s % (s1 * m1 * c)) := by
    conv => lhs; rw [← Nat.div_add_mod s (s1 * m1 * c)]
    exact stN_shift hs hm ht
  have e2 : stN (s1 * m1 * c) m2 t2 s = s1 * m1 * c * (m2 * (s / (s1 * m1 * c) / m2) + t2 (s / (s1 * m1 * c) % m2)) + s % (s1 * m1 * c) := rfl
  rw [e2, stN_shift hs hm ht, e1]
  have d1 : (s1 * m1 * c * (s / (s1 * m1 * c)) + stN s1 m1 t1 (s % (s1 * m1 * c))) / (s1 * m1 * c) = s / (s1 * m1 * c) := by
    rw [Nat.mul_add_div hp, Nat.div_eq_of_lt hlt, Nat.add_zero]
  have d2 : (s1 * m1 * c * (s / (s1 * m1 * c)) + stN s1 m1 t1 (s % (s1 * m1 * c))) % (s1 * m1 * c) = stN s1 m1 t1 (s % (s1 * m1 * c)) := by
    rw [Nat.mul_add_mod, Nat.mod_eq_of_lt hlt]
  generalize stN s1 m1 t1 (s % (s1 * m1 * c)) = z at hlt d1 d2 ⊢
  unfold stN
  rw [d1, d2]
/-- by the numbers as the law reckons -/
theorem stN_int {size many : Nat} {t : Nat → Nat} (s : Nat) : ((stN size many t s : Nat) : Int) = (s : Int) + ((t (s / size % many) : Int) - ((s / size % many : Nat) : Int)) * (size : Int) := by
  have h : s = size * (many * (s / size / many) + s / size % many) + s % size := by rw [Nat.div_add_mod, Nat.div_add_mod]
  unfold stN
  generalize t (s / size % many) = b
  generalize hd : s / size % many = d at h
  generalize s / size / many = q at h
  generalize s % size = r at h
  rw [h]
  simp only [Int.natCast_add, Int.natCast_mul, Int.mul_add, Int.sub_mul]
  have : (b : Int) * (size : Int) = (size : Int) * (b : Int) := Int.mul_comm _ _
  have : (d : Int) * (size : Int) = (size : Int) * (d : Int) := Int.mul_comm _ _
  omega
/-- a block: how many places a digit has, what it counts, what it does for each name -/
structure Blk (α : Type) where
  many : Nat
  size : Nat
  turn : α → List Nat
def Blk.go {α : Type} (b : Blk α) (a : α) (s : Nat) : Nat := stN b.size b.many (fun h => (b.turn a).getD h 0) s
def goAll {α : Type} (bs : List (Blk α)) (a : α) (s : Nat) : Nat := bs.foldl (fun s b => b.go a s) s
structure Blk.Ok {α : Type} [DecidableEq α] (O : Ord α) (P : α → Prop) (b : Blk α) : Prop where
  sz : 0 < b.size
  mn : 0 < b.many
  pm : ∀ a, P a → (b.turn a).Perm (List.range b.many)
  on : ∀ a c, P a → P c → O.tc a c = false → b.turn a = List.range b.many ∨ b.turn c = List.range b.many
theorem perm_at {m : Nat} {t : List Nat} (h : t.Perm (List.range m)) : (∀ d, d < m → t.getD d 0 < m) ∧ (∀ a b, a < m → b < m → t.getD a 0 = t.getD b 0 → a = b) := by
  have hl : t.length = m := by rw [h.length_eq, List.length_range]
  have hn : t.Nodup := h.nodup_iff.mpr List.nodup_range
  refine ⟨fun d hd => ?_, fun a b ha hb e => ?_⟩
  · have : t.getD d 0 ∈ t := by
      rw [List.getD_eq_getElem?_getD, List.getElem?_eq_getElem (by omega)]
      exact List.getElem_mem _
    exact List.mem_range.mp (h.mem_iff.mp this)
  · rw [List.getD_eq_getElem?_getD, List.getD_eq_getElem?_getD, List.getElem?_eq_getElem (by omega), List.getElem?_eq_getElem (by omega)] at e
    have e : t[a]'(by omega) = t[b]'(by omega) := e
    rcases Nat.lt_trichotomy a b with h1 | h1 | h1
    · exact absurd e (List.pairwise_iff_getElem.mp hn a b (by omega) (by omega) h1)
    · exact h1
    · exact absurd e.symm (List.pairwise_iff_getElem.mp hn b a (by omega) (by omega) h1)
theorem range_getD {m d : Nat} (h : d < m) : (List.range m).getD d 0 = d := by
  rw [List.getD_eq_getElem?_getD, List.getElem?_range h]
  rfl
section
variable {α : Type} [DecidableEq α] {O : Ord α} {P : α → Prop}
theorem Blk.go_id {b : Blk α} (ok : b.Ok O P) {a : α} (h : b.turn a = List.range b.many) (s : Nat) : b.go a s = s := by
  unfold Blk.go stN
  rw [h]
  show b.size * (b.many * (s / b.size / b.many) + (List.range b.many).getD (s / b.size % b.many) 0) + s % b.size = s
  rw [range_getD (Nat.mod_lt _ ok.mn), Nat.div_add_mod, Nat.div_add_mod]
/-- sizes in a row -/
def Chain : Nat → List (Blk α) → Nat → Prop
  | w, [], w' => w = w'
  | w, b :: bs, w' => b.size = w ∧ Chain (w * b.many) bs w'
theorem chain_snoc {b : Blk α} : ∀ {bs : List (Blk α)} {w w' : Nat}, Chain w bs w' → b.size = w' → Chain w (bs ++ [b]) (w' * b.many)
  | [], w, w', h, e => by
    have h : w = w' := h
    subst h
    exact ⟨e, rfl⟩
  | c :: bs, w, w', h, e => ⟨h.1, chain_snoc h.2 e⟩
theorem chain_mul : ∀ {bs : List (Blk α)} {w w' : Nat}, (∀ b ∈ bs, b.Ok O P) → Chain w bs w' → ∃ k, 0 < k ∧ w' = w * k
  | [], w, w', _, h => ⟨1, Nat.zero_lt_one, by rw [Nat.mul_one]; exact (show w = w' from h).symm⟩
  | b :: bs, w, w', ho, h => by
    obtain ⟨k, k0, e⟩ := chain_mul (fun c hc => ho c (List.mem_cons_of_mem _ hc)) h.2
    exact ⟨b.many * k, Nat.mul_pos (ho b List.mem_cons_self).mn k0, by rw [e, Nat.mul_assoc]⟩
theorem chain_mem : ∀ {bs : List (Blk α)} {w w' : Nat}, (∀ b ∈ bs, b.Ok O P) → Chain w bs w' → ∀ b ∈ bs, ∃ c, 0 < c ∧ b.size = w * c
  | [], _, _, _, _, b, hb => nomatch hb
  | c :: bs, w, w', ho, h, b, hb => by
    rcases List.mem_cons.mp hb with e | hb
    · exact ⟨1, Nat.zero_lt_one, by rw [e, Nat.mul_one]; exact h.1⟩
    · obtain ⟨k, k0, e⟩ := chain_mem (fun c hc => ho c (List.mem_cons_of_mem _ hc)) h.2 b hb
      exact ⟨c.many * k, Nat.mul_pos (ho c List.mem_cons_self).mn k0, by rw [e, Nat.mul_assoc]⟩
theorem go_lt : ∀ {bs : List (Blk α)} {w w' : Nat}, (∀ b ∈ bs, b.Ok O P) → Chain w bs w' → ∀ {a : α} {s : Nat}, P a → s < w' → goAll bs a s < w'
  | [], _, _, _, _, _, _, _, h => h
  | b :: bs, w, w', ho, h, a, s, pa, hs => by
    obtain ⟨k, k0, e⟩ := chain_mul (fun c hc => ho c (List.mem_cons_of_mem _ hc)) h.2
    have ob := ho b List.mem_cons_self
    have e2 : w' = b.size * b.many * k := by rw [e, h.1]
    refine go_lt (bs := bs) (fun c hc => ho c (List.mem_cons_of_mem _ hc)) h.2 pa ?_
    rw [e2] at hs ⊢
    exact stN_lt ob.sz ob.mn (perm_at (ob.pm a pa)).1 hs
theorem go_inj : ∀ {bs : List (Blk α)}, (∀ b ∈ bs, b.Ok O P) → ∀ {a : α} {s u : Nat}, P a → goAll bs a s = goAll bs a u → s = u
  | [], _, _, _, _, _, h => h
  | b :: bs, ho, a, s, u, pa, h => by
    have ob := ho b List.mem_cons_self
    have p := perm_at (ob.pm a pa)
    exact stN_inj ob.sz ob.mn p.1 p.2 (go_inj (bs := bs) (fun c hc => ho c (List.mem_cons_of_mem _ hc)) pa h)
theorem go_one {g : Nat → Nat} : ∀ {bs : List (Blk α)} {a : α}, (∀ b ∈ bs, ∀ s, g (b.go a s) = b.go a (g s)) → ∀ s, g (goAll bs a s) = goAll bs a (g s)
  | [], _, _, _ => rfl
  | b :: bs, a, h, s => by
    show g (goAll bs a (b.go a s)) = goAll bs a (b.go a (g s))
    rw [go_one (bs := bs) (fun c hc => h c (List.mem_cons_of_mem _ hc)), h b List.mem_cons_self]
theorem go_pair : ∀ {bs : List (Blk α)} {w w' : Nat}, (∀ b ∈ bs, b.Ok O P) → Chain w bs w' → ∀ {a c : α}, P a → P c → O.tc a c = false → ∀ b ∈ bs, ∀ b' ∈ bs, ∀ s, b.go a (b'.go c s) = b'.go c (b.go a s)
  | [], _, _, _, _, _, _, _, _, _, b, hb, _, _, _ => nomatch hb
  | d :: bs, w, w', ho, h, a, c, pa, pc, hac, b, hb, b', hb', s => by
    have od := ho d List.mem_cons_self
    have ho' : ∀ c ∈ bs, c.Ok O P := fun c hc => ho c (List.mem_cons_of_mem _ hc)
    rcases List.mem_cons.mp hb with e | hb1 <;> rcases List.mem_cons.mp hb' with e' | hb2
    · subst e
      subst e'
      rcases od.on a c pa pc hac with h | h
      · rw [Blk.go_id od h, Blk.go_id od h]
      · rw [Blk.go_id od h, Blk.go_id od h]
    · subst e
      obtain ⟨k, k0, e2⟩ := chain_mem ho' h.2 b' hb2
      have ob' := ho' b' hb2
      have e3 : b'.size = b.size * b.many * k := by rw [e2, h.1]
      unfold Blk.go
      rw [e3]
      exact stN_comm od.sz od.mn (perm_at (od.pm a pa)).1 k0 ob'.mn (perm_at (ob'.pm c pc)).1 s
    · subst e'
      obtain ⟨k, k0, e2⟩ := chain_mem ho' h.2 b hb1
      have ob := ho' b hb1
      have e3 : b.size = b'.size * b'.many * k := by rw [e2, h.1]
      unfold Blk.go
      rw [e3]
      exact (stN_comm od.sz od.mn (perm_at (od.pm c pc)).1 k0 ob.mn (perm_at (ob.pm a pa)).1 s).symm
    · exact go_pair ho' h.2 pa pc hac b hb1 b' hb2 s
theorem yd_of {bs : List (Blk α)} {w' : Nat} (ho : ∀ b ∈ bs, b.Ok O P) (h : Chain 1 bs w') : Yd O P w' (goAll bs) where
  lt := fun a pa x hx => go_lt ho h pa hx
  inj := fun a pa x y _ _ e => go_inj ho pa e
  comm := fun a c pa pc hac x _ => go_one (fun b hb s => (go_one (g := b.go c) (fun b' hb' s => by
    exact (go_pair ho h pa pc hac b' hb' b hb s).symm) s).symm) x
end
end XM
set_option Elab.async false
set_option linter.all false
set_option maxRecDepth 100000
set_option maxHeartbeats 4000000
namespace XB
open PySem PySem.Spec PyProof.Rows L2
def natV (l : List Nat) : List V := l.map fun d => V.int ((d : Nat) : Int)
theorem filter_snoc {α : Type} {p : α → Bool} {l : List α} {i : Nat} {x : α} (h : l[i]? = some x) : (l.take (i + 1)).filter p = (l.take i).filter p ++ (if p x = true then [x] else []) := by
  rw [take_snoc h, List.filter_append]
  congr 1
  by_cases hp : p x = true
  · rw [if_pos hp, List.filter_cons_of_pos hp]
    rfl
  · rw [if_neg hp, List.filter_cons_of_neg hp]
    rfl
theorem cons_erase {α : Type} : ∀ {l : List α} {k : Nat} {x : α}, l[k]? = some x → (x :: l.eraseIdx k).Perm l
  | [], k, x, h => by simp at h
  | y :: l, 0, x, h => by
    have : y = x := Option.some.inj h
    subst this
    exact List.Perm.refl _
  | y :: l, k + 1, x, h => by
    have h : l[k]? = some x := h
    show (x :: y :: l.eraseIdx k).Perm (y :: l)
    exact (List.Perm.swap _ _ _).trans (List.Perm.cons _ (cons_erase h))
section
variable {P : Program} {w : World} {K : PySem.W.Frag} {mg : Str → Option Value} {base : Heap}
def spTouching (K : PySem.W.Frag) : Sp := fun vs H Q _ => ∃ (a : Addr) (F : Fld) (n : Str), vs = [.ref a, .str n] ∧ Dp K H (.ref a) (dField F) ∧ F.Ok ∧ n ∈ F.names ∧ ∀ H' r, Same H H' → H r = none → H' r = some (.lst ((touchL F n).map V.str)) → Q (.ref r) H'
theorem c__law_touching (T : Tx K mg) : Cl P w K mg base CX0 2 "_law_touching" (spTouching K) := by
  refine cl0 T.d__law_touching (ps := ["field", "one"]) (fun _ _ _ _ _ _ us hl => match us, hl with | [_, _], _ => rfl) sc__law_touching (fun vs H Q E h => ?_) (fun fa cdv A outer st H vs Q E hr h => ?_)
  · obtain ⟨a, F, n, rfl, _⟩ := h
    rfl
  · obtain ⟨a, F, n, rfl, hF, ok, hn, q⟩ := h
    have nd := sc__law_touching.nd
    refine ⟨_, (pss_one (ps_ret (pe_lc (own := [("other", 2)]) (g := (gName 2)) (tt := _) (by rfl) nd (pi_tup (pe_ix (ixk_tup (K := K) rfl) (pv 0) pe_int (fun _ _ => rfl))) (blkOk_by (own := [("other", 2)]) (N := ["field", "one", "other"]) (sc := defScope s__law_touching) (by decide +kernel)) (fun _ _ _ _ _ => (pg_name (i := 2) nd rfl (by first | exact Or.inl rfl | exact Or.inr rfl))) (fun _ _ _ _ _ => pts_one (pt_not (pt_val (pe_k (c__law_apart T) hr (by decide) (by rfl) (pa_cons (pv 0) (pa_cons (pv 1) (pa_cons (pv 2) pa_nil))))))) (fun _ _ _ _ _ => (pv 2))))), ?_⟩
    obtain ⟨_, nm, p', ps, e, hA, hN, hP, hD⟩ := hF.field
    cases e
    have hl := ok.n6
    refine ⟨_, rfl, ix0 hA ⟨nm, rfl, ⟨_, hN⟩, fun D nD => ?_⟩⟩
    refine lc_it (walk_tup (xs := F.names.map V.str)) (fun i H' => H' D = some (.lst (((F.names.take i).filter fun o => !apart F n o).map V.str)) ∧ Same H H') ⟨upd_same, same_upd nD⟩ (fun _ _ _ ⟨_, s'⟩ => (Tk.of s').sqT hN) (fun i x H2 H3 hi ⟨eD, s'⟩ hy => ?_) (fun H2 ⟨eD, s'⟩ => ?_)
    · obtain ⟨rfl, hx⟩ := hy
      obtain ⟨o, ho, rfl⟩ := str_at hx
      have mo := List.mem_of_getElem? ho
      refine ⟨rfl, _, rfl, _, rfl, _, rfl, a, F, n, o, rfl, tF hF s', ok, hn, mo, fun H4 s4 => ⟨_, rfl, ?_⟩⟩
      rw [filter_snoc ho]
      cases hc : apart F n o
      · refine iteT ⟨_, rfl, _, s4 _ _ eD, ?_, ?_, same_put (s'.trans s4) nD⟩
        · rw [List.length_map]
          refine small1000 (Nat.le_trans (List.length_filter_le _ _) ?_)
          rw [List.length_take]
          omega
        · rw [upd_same, List.map_append]
          rfl
      · refine iteF ⟨?_, s'.trans s4⟩
        rw [s4 _ _ eD]
        simp
    · rw [List.length_map, List.take_length] at eD
      exact q _ D s' nD eD
def spTurn : Sp := fun vs H Q _ => ∃ (m c g : Addr) (s : Int) (n : Nat), vs = [.ref m, .int (n : Int)] ∧ Dr H m c g s ∧ 1 ≤ n ∧ n ≤ 16 ∧ s < 1000000000 ∧
  ∀ H' r t s', Dr H' m c g s' → s' ≤ s + n → Kp m g H H' → H r = none → H' r = some (.lst (natV t)) → t.Perm (List.range n) → Q (.ref r) H'
theorem c__law_turn (T : Tx K mg) : Cl P w K mg base CX0 3 "_law_turn" spTurn := by
  refine cl0 T.d__law_turn (ps := ["m", "many"]) (fun _ _ _ _ _ _ us hl => match us, hl with | [_, _], _ => rfl) sc__law_turn (fun vs H Q E h => ?_) (fun fa cdv A outer st H vs Q E hr h => ?_)
  · obtain ⟨m, c, g, s, n, rfl, _⟩ := h
    rfl
  · obtain ⟨m, c, g, s, n, rfl, R, n1, n10, hs9, q⟩ := h
    have nd := sc__law_turn.nd
    refine ⟨_, (pss_cons (ps_par (i := 2) (j := 3) rfl nd rfl rfl (by decide) rfl rfl (pa_cons (pe_listRg (by rfl) (by rfl) T.b_list (prg_1 (by rfl) T.b_range (pv 1))) (pa_cons (pe_lst pa_nil) pa_nil)) rfl)
    (pss_cons (ps_for PassesOwn.never rfl (pi_range1 (by rfl) T.b_range (pa_cons (pv 1) pa_nil)) (pg_name (i := 4) nd rfl (.inl rfl))
    (pss_one (ps_expr (pe_bm PySem.F.plainAttrs_list PySem.F.slot_list_append PySem.F.type_list_append mt_append (pv 3) (pa_cons (pe_bm PySem.F.plainAttrs_list PySem.F.slot_list_pop PySem.F.type_list_pop mt_popAt (pv 2) (pa_cons (pe_k (c_draw T) hr (by decide) (by rfl) (pa_cons (pv 0) (pa_cons (pe_lenS (by rfl) T.b_len (pv 2)) pa_nil))) pa_nil)) pa_nil)))))
    (pss_one (ps_ret (pv 3))))), ?_⟩
    refine ⟨_, rfl, _, rfl, RgOk.of_le (by omega) (by omega) (by omega) (by omega), fun L nL => upd_gen nL fun H1 s1 e1 => ⟨Nat.zero_le _, fun D nD => upd_gen nD fun H2 s2 e2 => ⟨_, _, rfl, ?_⟩⟩⟩
    have e1 : H2 L = some (.lst (natV (List.range n))) := by
      rw [s2 _ _ e1]
      unfold rgV natV
      rw [show ((n : Int) - 0).toNat = n by omega]
      congr 2
      refine List.map_congr_left fun i _ => ?_
      rw [Int.zero_add]
    have s12 := s1.trans s2
    have R2 := R.same s12
    have mL := R.nm nL
    have mD := (R.same s1).nm nD
    have hDL : L ≠ D := fun e => by
      rw [e] at e1
      rw [e2] at e1
      have := congrArg (fun o => match o with | some (HO.lst xs) => xs.length | _ => 0) e1
      simp [natV] at this
      omega
    have nD0 : H D = none := fresh_of s1 nD
    refine ⟨_, rfl, n, rfl, by omega, by omega, ?_⟩
    refine for_range (lo := 0) (n := n) (fun i σ H3 => ∃ (y4 : Option V) (ns rs : List Nat) (s3 : Int), σ = [some (.ref m), some (.int (n : Int)), some (.ref L), some (.ref D), y4] ∧ Kp m g H H3 ∧ Dr H3 m c g s3 ∧ s3 ≤ s + i ∧ H3 L = some (.lst (natV ns)) ∧ H3 D = some (.lst (natV rs)) ∧ (rs ++ ns).Perm (List.range n) ∧ rs.length = i)
      ⟨none, _, [], s, rfl, Kp.of s12, R2, by omega, e1, e2, List.Perm.refl _, rfl⟩ (fun i σ H3 hi ⟨y4, ns, rs, s3, eσ, k3, R3, hs3, eL, eD, hp, hl⟩ => ?_) (fun σ H3 ⟨y4, ns, rs, s3, eσ, k3, R3, hs3, eL, eD, hp, hl⟩ => ?_)
    · subst eσ
      have hnl : ns.length = n - i := by
        have := hp.length_eq
        rw [List.length_append, List.length_range] at this
        omega
      have hnv : (natV ns).length = ns.length := List.length_map ..
      refine ⟨_, rfl, Or.inl ⟨rfl, _, SqL.of eD⟩, ?_⟩
      refine ⟨_, rfl, Or.inl ⟨rfl, _, SqL.of eL⟩, ?_⟩
      refine ⟨_, rfl, _, rfl, L, _, rfl, .inl (SqL.of eL), m, c, g, s3, _, rfl, R3, by rw [hnv]; omega, by rw [hnv]; omega, by omega, fun r4 H4 r40 r41 R4 k4 => ?_⟩
      rw [hnv] at r41
      obtain ⟨k, rfl⟩ : ∃ k : Nat, r4 = (k : Int) := ⟨r4.toNat, by omega⟩
      have eL4 := k4 _ _ mL.1 mL.2.2 eL
      have eD4 := k4 _ _ mD.1 mD.2.2 eD
      have hx : ns[k]? = some ns[k] := List.getElem?_eq_getElem (by omega)
      generalize ns[k] = d at hx
      refine ⟨L, natV ns, (k : Int), k, .int (d : Int), rfl, rfl, eL4, by omega, by omega, (ixN_seq (ixN_of rfl (by omega))).1, by unfold natV; rw [List.getElem?_map, hx]; rfl, ?_⟩
      have eD5 : upd H4 L (.lst ((natV ns).eraseIdx k)) D = some (.lst (natV rs)) := by
        rw [upd_ne hDL.symm]
        exact eD4
      refine ⟨D, natV rs, _, rfl, rfl, eD5, small1000 (by show (rs.map _).length ≤ 1000; rw [List.length_map]; omega), ?_⟩
      refine ⟨_, ns.eraseIdx k, rs ++ [d], s3 + 1, rfl, ((k3.trans k4).put nL).put nD0, (R4.put mL).put mD, by omega, ?_, ?_, ?_, by rw [List.length_append, hl]; rfl⟩
      · rw [upd_ne hDL, upd_same]
        unfold natV
        rw [map_er]
      · rw [upd_same]
        unfold natV
        rw [List.map_append]
        rfl
      · rw [List.append_assoc]
        refine List.Perm.trans (List.Perm.append_left rs ?_) hp
        exact cons_erase hx
    · subst eσ
      have hns : ns = [] := by
        have := hp.length_eq
        rw [List.length_append, List.length_range] at this
        exact List.length_eq_zero_iff.mp (by omega)
      subst hns
      rw [List.append_nil] at hp
      exact ⟨_, rfl, q _ D rs s3 R3 hs3 k3 nD0 eD hp⟩
def spStepped : Sp := fun vs H Q _ => ∃ (s many size : Nat) (r : Addr) (t : List Nat), vs = [.int (s : Int), .int (many : Int), .int (size : Int), .ref r] ∧ 0 < many ∧ many ≤ 10 ∧ 0 < size ∧ size ≤ 1000 ∧ t.Perm (List.range many) ∧ H r = some (.lst (natV t)) ∧
  Q (.int ((XM.stN size many (fun h => t.getD h 0) s : Nat) : Int)) H
theorem c__law_stepped (T : Tx K mg) : Cl P w K mg base CX0 1 "_law_stepped" spStepped := by
  refine cl0 T.d__law_stepped (ps := ["spot", "many", "size", "turn"]) (fun _ _ _ _ _ _ us hl => match us, hl with | [_, _, _, _], _ => rfl) sc__law_stepped (fun vs H Q E h => ?_) (fun fa cdv A outer st H vs Q E hr h => ?_)
  · obtain ⟨s, many, size, r, t, rfl, _⟩ := h
    rfl
  · obtain ⟨s, many, size, r, t, rfl, m0, m10, z0, z1, hp, er, q⟩ := h
    have nd := sc__law_stepped.nd
    refine ⟨_, (pss_cons (ps_set (i := 4) nd rfl (.inl rfl) (pe_op op_mod (pe_callTy call_int1 (by rfl) T.b_int (by decide +kernel) (pa_cons (pe_op op_fdiv (pv 0) (pv 2)) pa_nil)) (pv 1)))
    (pss_one (ps_ret (pe_op op_add (pv 0) (pe_op op_mul (pe_op op_sub (pe_ix (ixk_list (K := K) rfl) (pv 3) (pv 4) (fun _ _ => rfl)) (pv 4)) (pv 2)))))), ?_⟩
    have hd : (s : Int) / (size : Int) = ((s / size : Nat) : Int) := rfl
    have hm : ((s / size : Nat) : Int) % (many : Int) = ((s / size % many : Nat) : Int) := rfl
    have hlt := Nat.mod_lt (s / size) m0
    have htl : t.length = many := by rw [hp.length_eq, List.length_range]
    have hx : t[s / size % many]? = some (t.getD (s / size % many) 0) := by
      rw [List.getD_eq_getElem?_getD, List.getElem?_eq_getElem (by omega)]
      rfl
    have hb := (XM.perm_at hp).1 _ hlt
    have hi := XM.stN_int (size := size) (many := many) (t := fun h => t.getD h 0) s
    refine ⟨_, rfl, _, rfl, _, _, rfl, rfl, ⟨by omega, by omega⟩, .inl ⟨_, rfl, _, rfl, _, _, rfl, rfl, (show (0 : Int) < (many : Int) by omega), ?_⟩⟩
    refine ⟨_, rfl, _, rfl, _, rfl, r, _, _, _, rfl, rfl, SqL.of er, at_of (j := s / size % many) rfl (by unfold natV; rw [List.getElem?_map, hx]; rfl), _, rfl, _, _, rfl, rfl, _, rfl, _, _, rfl, rfl, .inr ⟨by omega, by omega⟩, _, _, rfl, rfl, ?_⟩
    rw [hi] at q
    exact q
end
end XB
set_option Elab.async false
set_option linter.all false
set_option maxRecDepth 100000
set_option maxHeartbeats 4000000
namespace XB
open PySem PySem.Spec PyProof.Rows L2
/-- the form of a yard: as many rows as names, the first one a tuple of 1 to 2000 things -/
def formD (k : Nat) : PyData → Bool
  | .tuple (.tuple ss :: rs) => decide (rs.length + 1 = k) && (decide (1 ≤ ss.length) && decide (ss.length ≤ 2000))
  | _ => false
def asInts : List PyData → Option (List Int)
  | [] => some []
  | .int z :: ds => (asInts ds).map fun zs => z :: zs
  | _ :: _ => none
theorem asInts_some : ∀ {ds : List PyData} {zs : List Int}, asInts ds = some zs → ds = zs.map .int
  | [], _, h => by cases h; rfl
  | .int z :: ds, zs, h => by
    have h : (asInts ds).map (fun zs => z :: zs) = some zs := h
    obtain ⟨ys, e, rfl⟩ := Option.map_eq_some_iff.mp h
    rw [List.map_cons, ← asInts_some e]
theorem asInts_of : ∀ zs : List Int, asInts (zs.map .int) = some zs
  | [] => rfl
  | z :: zs => by
    show (asInts (zs.map .int)).map (fun zs => z :: zs) = _
    rw [asInts_of zs]
    rfl
theorem all_whole : ∀ ds : List PyData, ds.all wholeD = (asInts ds).isSome
  | [] => rfl
  | d :: ds => by
    rw [List.all_cons, all_whole ds]
    cases d with
    | int z =>
      show (true && (asInts ds).isSome) = ((asInts ds).map fun zs => z :: zs).isSome
      rw [Bool.true_and, Option.isSome_map]
    | _ => rfl
def sortZ (zs : List Int) : List Int := zs.mergeSort (PySem.W.dataLe false PyData.int)
theorem sortZ_perm (zs : List Int) : (sortZ zs).Perm zs := List.mergeSort_perm _ _
theorem sortZ_data (zs : List Int) : sortD (zs.map PyData.int) = (sortZ zs).map PyData.int := by
  unfold sortD sortZ
  rw [List.map_mergeSort (r := PySem.W.dataLe false PyData.int) (s := PySem.W.dataLe false id) (f := PyData.int) (l := zs) (fun _ _ _ _ => rfl)]
theorem sort_ints (zs : List Int) : SortOkD (zs.map PyData.int) := by
  refine ⟨PySem.W.AllAlike.of fun b b' => rfl, .inl (PySem.W.Sortable.others fun b => ⟨(fun z => by cases z), (fun xs z => by cases z)⟩), fun d hd => ?_⟩
  obtain ⟨x, _, rfl⟩ := List.mem_map.mp hd
  simp [PyData.depth]
def rgZ (n : Nat) : List Int := (List.range n).map Int.ofNat
/-- a turn of so many places -/
def turnD (many : Nat) : PyData → Bool
  | .tuple ds => match asInts ds with
    | some zs => decide (sortZ zs = rgZ many)
    | none => false
  | _ => false
theorem eqv_ints : ∀ a b : List Int, PyData.eqvAll (a.map PyData.int) (b.map PyData.int) = decide (a = b)
  | [], [] => rfl
  | [], _ :: _ => rfl
  | _ :: _, [] => rfl
  | x :: a, y :: b => by
    rw [List.map_cons, List.map_cons, PyData.eqvAll, eqv_ints a b]
    show ((x == y) && decide (a = b)) = _
    by_cases h1 : x = y
    · by_cases h2 : a = b
      · simp [h1, h2]
      · simp [h2]
    · simp [h1]
theorem eqv_intsL (a b : List Int) : PyData.eqv (.list (a.map PyData.int)) (.list (b.map PyData.int)) = decide (a = b) := by
  rw [PyData.eqv]
  exact eqv_ints a b
theorem sh_ints (zs : List Int) : SeqAt.shaped (.list (zs.map PyData.int)) = true := by
  show (PyData.canLayAll0 (zs.map PyData.int) && decide (PyData.depthAll (zs.map PyData.int) + 1 ≤ 64)) = true
  rw [layInts, deepInts]
  rfl
theorem dp_rgV {K : PySem.W.Frag} {H : Hp} (n : Nat) : DpAll K H (rgV 0 n) ((rgZ n).map PyData.int) := by
  unfold rgV rgZ
  rw [show ((n : Int) - 0).toNat = n by omega, List.map_map]
  have : ∀ l : List Nat, DpAll K H (l.map fun (i : Nat) => V.int (0 + (i : Int))) (l.map (PyData.int ∘ Int.ofNat)) := fun l => by
    induction l with
    | nil => exact .nil
    | cons x l ih =>
      rw [List.map_cons, List.map_cons]
      refine .cons ?_ ih
      rw [Int.zero_add]
      exact .int _
  exact this _
section
variable {P : Program} {w : World} {K : PySem.W.Frag} {mg : Str → Option Value} {base : Heap}
def spYForm (K : PySem.W.Frag) : Sp := fun vs H Q _ => ∃ (n : Addr) (v : V) (ns : List Str) (d : PyData), vs = [.ref n, v] ∧ SqT K H n (ns.map V.str) ∧ 1 ≤ ns.length ∧ Dp K H v d ∧ Q (.bl (formD ns.length d)) H
theorem c_is_yard_form (T : Tx K mg) : Cl P w K mg base CX0 1 "is_yard_form" (spYForm K) := by
  refine cl0 T.d_is_yard_form (ps := ["names", "value"]) (fun _ _ _ _ _ _ us hl => match us, hl with | [_, _], _ => rfl) sc_is_yard_form (fun vs H Q E h => ?_) (fun f cdv A outer st H vs Q E hr h => ?_)
  · obtain ⟨n, v, ns, d, rfl, _⟩ := h
    rfl
  · obtain ⟨n, v, ns, d, rfl, hN, n1, hd, q⟩ := h
    have nd := sc_is_yard_form.nd
    obtain ⟨tkm, h_MOST_SPOTS⟩ := T.g_MOST_SPOTS
    refine ⟨_, (pss_cons (ps_if (PW.pt (pw_or (pt_not (pt_val (pe_isT "tuple" (by rfl) T.b_isinstance (by rfl) T.b_tuple (by decide +kernel) (pv 1)))) (pw_or1 (pt_cmpR op_ne (pe_lenS (by rfl) T.b_len (pv 1)) (pe_lenS (by rfl) T.b_len (pv 0)) (nomark _))))) (pss_one (ps_ret pe_bl)) pss_nil)
    (pss_one (ps_ret (pe_and (pe_isT "tuple" (by rfl) T.b_isinstance (by rfl) T.b_tuple (by decide +kernel) (pe_ix (ixk_tup (K := K) rfl) (pv 1) pe_int (fun _ _ => rfl))) (pe_one (pe_chain op_le op_le pe_int (pe_lenS (by rfl) T.b_len (pe_ix (ixk_tup (K := K) rfl) (pv 1) pe_int (fun _ _ => rfl))) (pe_glob (v := .int 2000) (by rfl) h_MOST_SPOTS ⟨_, rfl⟩))))))), ?_⟩
    refine ⟨_, rfl, v, .ty "tuple", _, _, _, rfl, .ty _, tyx_data hd, kit_data (.inl rfl) hd, _, rfl, ?_⟩
    cases d with
    | tuple ds =>
      cases hd with
      | tup hS hV =>
      rename_i o os
      have hl := hV.len
      refine iteF ⟨_, rfl, _, _, rfl, .inr hS, _, rfl, n, _, rfl, .inr hN, rfl, _, rfl, ?_⟩
      rw [List.length_map, hl]
      by_cases e : ds.length = ns.length
      · rw [decide_eq_true (show V.int (ds.length : Int) = V.int (ns.length : Int) by rw [e])]
        refine iteF ?_
        cases ds with
        | nil =>
          have : (0 : Nat) = ns.length := e
          omega
        | cons d0 ds =>
        cases hV with
        | cons h0 hV =>
          refine ⟨_, rfl, ix0 hS ⟨_, .ty "tuple", _, _, _, rfl, .ty _, tyx_data h0, kit_data (.inl rfl) h0, _, rfl, ?_⟩⟩
          cases d0 with
          | tuple ss =>
            cases h0 with
            | tup hS0 hV0 =>
            have l0 := hV0.len
            refine iteT ?_
            refine ⟨_, rfl, ix0 hS ⟨_, _, rfl, .inr hS0, _, _, rfl, rfl, _, rfl, ?_⟩⟩
            have q : Q (.bl (decide (ds.length + 1 = ns.length) && (decide (1 ≤ ss.length) && decide (ss.length ≤ 2000)))) H := q
            rw [decide_eq_true (show ds.length + 1 = ns.length from e), Bool.true_and] at q
            rw [l0]
            by_cases e1 : 1 ≤ ss.length
            · rw [decide_eq_true e1, Bool.true_and] at q
              rw [decide_eq_true (show (1 : Int) ≤ (ss.length : Int) by omega)]
              refine iteT ⟨_, _, rfl, rfl, ?_⟩
              show Q (.bl (decide ((ss.length : Int) ≤ 2000))) H
              rw [show decide ((ss.length : Int) ≤ 2000) = decide (ss.length ≤ 2000) from decide_eq_decide.mpr (by omega)]
              exact q
            · rw [decide_eq_false e1, Bool.false_and] at q
              rw [decide_eq_false (show ¬ (1 : Int) ≤ (ss.length : Int) by omega)]
              exact iteF q
          | _ => 
            refine iteF ?_
            exact q
      · rw [decide_eq_false (fun z => e (by injection z with z; omega))]
        have q0 : Q (.bl false) H := by
          have : formD ns.length (.tuple ds) = false := by
            cases ds with
            | nil => rfl
            | cons d0 ds =>
              cases d0 with
              | tuple ss =>
                show (decide (ds.length + 1 = ns.length) && _) = false
                rw [decide_eq_false (fun z => e (by rw [List.length_cons]; omega))]
                rfl
              | _ => rfl
          rw [this] at q
          exact q
        exact iteT q0
    | _ => exact iteT q
def spTurnD (K : PySem.W.Frag) : Sp := fun vs H Q _ => ∃ (v : V) (n : Nat) (d : PyData), vs = [v, .int (n : Int)] ∧ Dp K H v d ∧ n ≤ 2000 ∧ (∀ ds, d = .tuple ds → ds.length ≤ 5000) ∧ ∀ H', Same H H' → Q (.bl (turnD n d)) H'
theorem c_is_turn (T : Tx K mg) : Cl P w K mg base CX0 2 "is_turn" (spTurnD K) := by
  refine cl0 T.d_is_turn (ps := ["value", "many"]) (fun _ _ _ _ _ _ us hl => match us, hl with | [_, _], _ => rfl) sc_is_turn (fun vs H Q E h => ?_) (fun f cdv A outer st H vs Q E hr h => ?_)
  · obtain ⟨v, n, d, rfl, _⟩ := h
    rfl
  · obtain ⟨v, n, d, rfl, hd, n2, dl, q⟩ := h
    have nd := sc_is_turn.nd
    have hu := u65 hr
    refine ⟨_, (pss_cons (ps_if (PW.pt (pw_or (pt_not (pt_val (pe_isT "tuple" (by rfl) T.b_isinstance (by rfl) T.b_tuple (by decide +kernel) (pv 0)))) (pw_or1 (pt_not (pt_val (pe_callB (cr_all rfl) (by rfl) T.b_all (by decide +kernel) (pa_cons (pe_lc (own := [("item", 2)]) (g := (gName 2)) (tt := tYes) (by rfl) nd (pi_tup (pv 0)) (blkOk_by (own := [("item", 2)]) (N := ["value", "many", "item"]) (sc := defScope s_is_turn) (by decide +kernel)) (fun _ _ _ _ _ => (pg_name (i := 2) nd rfl (by first | exact Or.inl rfl | exact Or.inr rfl))) (fun _ _ _ _ _ => pts_nil) (fun _ _ _ _ _ => (pe_k (c_is_wholeD T) hr (by decide) (by rfl) (pa_cons (pv 2) pa_nil)))) pa_nil))))))) (pss_one (ps_ret pe_bl)) pss_nil)
    (pss_one (ps_ret (pe_cmpR (op_eqD hr.units) (pe_callB (cr_sortedD (K := K) rfl hu) (by rfl) T.b_sorted (by decide +kernel) (pa_cons (pv 0) pa_nil)) (pe_listRg (by rfl) (by rfl) T.b_list (prg_1 (by rfl) T.b_range (pv 1))) (nomark _))))), ?_⟩
    refine ⟨_, rfl, v, .ty "tuple", _, _, _, rfl, .ty _, tyx_data hd, kit_data (.inl rfl) hd, _, rfl, ?_⟩
    cases d with
    | tuple ds =>
      cases hd with
      | tup hS hV =>
      rename_i o os
      have hl := hV.len
      have hdl := dl ds rfl
      refine iteF ⟨_, rfl, o, rfl, ⟨_, hS⟩, fun D nD => ?_⟩
      refine lc_it (walk_tup (xs := os)) (fun i H' => H' D = some (.lst (((ds.take i).map wholeD).map V.bl)) ∧ Same H H') ⟨upd_same, same_upd nD⟩ (fun _ _ _ ⟨_, s'⟩ => (Tk.of s').sqT hS) (fun i x H2 H3 hi ⟨eD, s'⟩ hy => ?_) (fun H2 ⟨eD, s'⟩ => ?_)
      · obtain ⟨rfl, hx⟩ := hy
        obtain ⟨d1, g1, p1⟩ := hV.get hx
        refine ⟨rfl, yes_ ⟨_, rfl, x, d1, rfl, Dp.sm s' _ p1, _, eD, ?_, ?_, same_put s' nD⟩⟩
        · rw [List.length_map, List.length_map, List.length_take, sizeLine_eq]
          omega
        · rw [upd_same, take_snoc g1, List.map_append, List.map_append]
          rfl
      · rw [hl, List.take_length] at eD
        refine ⟨D, ds.map wholeD, rfl, SqL.of eD, ?_⟩
        have ea : (ds.map wholeD).all id = (asInts ds).isSome := by
          rw [← all_whole, List.all_map]
          rfl
        refine ⟨_, rfl, ?_⟩
        rw [ea]
        cases he : asInts ds with
        | none =>
          have e2 : turnD n (.tuple ds) = false := by
            show (match asInts ds with
              | some zs => decide (sortZ zs = rgZ n)
              | none => false) = false
            rw [he]
          rw [e2] at q
          exact iteT (q H2 s')
        | some zs =>
          have e2 : turnD n (.tuple ds) = decide (sortZ zs = rgZ n) := by
            show (match asInts ds with
              | some zs => decide (sortZ zs = rgZ n)
              | none => false) = _
            rw [he]
          rw [e2] at q
          have ed := asInts_some he
          subst ed
          refine iteF ⟨_, rfl, o, os, _, rfl, .inr ((Tk.of s').sqT hS), DpAll.sm s' _ hV, sort_ints zs, fun p vs np hz => upd_gen np fun H3 s3 e3 => ?_⟩
          refine ⟨_, rfl, _, rfl, RgOk.of_le (by omega) (by omega) (by omega) (by omega), fun L nL => upd_gen nL fun H4 s4 e4 => ?_⟩
          rw [sortZ_data] at hz
          refine ⟨.list ((sortZ zs).map PyData.int), .list ((rgZ n).map PyData.int), .lst (SqL.of (s4 _ _ e3)) (DpAll.sm (s3.trans s4) _ hz), .lst (SqL.of e4) (dp_rgV n), sh_ints _, sh_ints _, ?_⟩
          rw [eqv_intsL]
          exact q H4 (s'.trans (s3.trans s4))
    | _ => exact iteT (q H (Same.refl _))
theorem natV_at {l : List Nat} {i : Nat} {x : Nat} (h : l[i]? = some x) : (natV l)[i]? = some (.int ((x : Nat) : Int)) := by
  unfold natV
  rw [List.getElem?_map, h]
  rfl
theorem at_nat {l : List Nat} {i : Nat} {v : V} (h : (natV l)[i]? = some v) : ∃ x : Nat, l[i]? = some x ∧ v = .int ((x : Nat) : Int) := by
  unfold natV at h
  rw [List.getElem?_map] at h
  obtain ⟨x, e1, e2⟩ := Option.map_eq_some_iff.mp h
  exact ⟨x, e1, e2.symm⟩
theorem getD_at {l : List Nat} {x : Nat} (h : x < l.length) : l[x]? = some (l.getD x 0) := by
  rw [List.getD_eq_getElem?_getD, List.getElem?_eq_getElem h]
  rfl
theorem dp_natV {K : PySem.W.Frag} {H : Hp} : ∀ l : List Nat, DpAll K H (natV l) ((l.map Int.ofNat).map PyData.int)
  | [] => .nil
  | x :: l => .cons (.int _) (dp_natV l)
theorem map_nat_eq {a b : List Nat} : (a.map Int.ofNat = b.map Int.ofNat) ↔ a = b := by
  constructor
  · intro h
    have := congrArg (List.map Int.toNat) h
    rw [List.map_map, List.map_map] at this
    have e : (Int.toNat ∘ Int.ofNat) = id := by
      funext x
      rfl
    rw [e, List.map_id, List.map_id] at this
    exact this
  · intro h
    rw [h]
theorem natV_len {l : List Nat} : (natV l).length = l.length := List.length_map ..
def spChg (K : PySem.W.Frag) : Sp := fun vs H Q _ => ∃ (a b : Addr) (A B : List Nat) (N : Nat), vs = [.ref a, .ref b] ∧ SqT K H a (natV A) ∧ SqT K H b (natV B) ∧ A.length = N ∧ B.length = N ∧ (∀ x ∈ A, x < N) ∧ (∀ x ∈ B, x < N) ∧ N ≤ 2000 ∧
  ∀ H', Same H H' → Q (.bl (decide (B.map (A.getD · 0) = A.map (B.getD · 0)))) H'
theorem c_do_change_places (T : Tx K mg) : Cl P w K mg base CX0 1 "do_change_places" (spChg K) := by
  refine cl0 T.d_do_change_places (ps := ["one", "other"]) (fun _ _ _ _ _ _ us hl => match us, hl with | [_, _], _ => rfl) sc_do_change_places (fun vs H Q E h => ?_) (fun f cdv A0 outer st H vs Q E hr h => ?_)
  · obtain ⟨a, b, A, B, N, rfl, _⟩ := h
    rfl
  · obtain ⟨a, b, A, B, N, rfl, hA, hB, lA, lB, mA, mB, n2, q⟩ := h
    have nd := sc_do_change_places.nd
    refine ⟨_, (pss_one (ps_ret (pe_cmpR (op_eqD hr.units) (pe_lc (own := [("spot", 2)]) (g := (gName 2)) (tt := tYes) (by rfl) nd (pi_tup (pv 1)) (blkOk_by (own := [("spot", 2)]) (N := ["one", "other", "spot"]) (sc := defScope s_do_change_places) (by decide +kernel)) (fun _ _ _ _ _ => (pg_name (i := 2) nd rfl (by first | exact Or.inl rfl | exact Or.inr rfl))) (fun _ _ _ _ _ => pts_nil) (fun _ _ _ _ _ => (pe_ix (ixk_tup (K := K) rfl) (pv 0) (pv 2) (fun _ _ => rfl)))) (pe_lc (own := [("spot", 2)]) (g := (gName 2)) (tt := tYes) (by rfl) nd (pi_tup (pv 0)) (blkOk_by (own := [("spot", 2)]) (N := ["one", "other", "spot"]) (sc := defScope s_do_change_places) (by decide +kernel)) (fun _ _ _ _ _ => (pg_name (i := 2) nd rfl (by first | exact Or.inl rfl | exact Or.inr rfl))) (fun _ _ _ _ _ => pts_nil) (fun _ _ _ _ _ => (pe_ix (ixk_tup (K := K) rfl) (pv 1) (pv 2) (fun _ _ => rfl)))) (nomark _)))), ?_⟩
    refine ⟨_, rfl, b, rfl, ⟨_, hB⟩, fun D nD => ?_⟩
    refine lc_it (walk_tup (xs := natV B)) (fun i H' => H' D = some (.lst (natV ((B.take i).map (A.getD · 0)))) ∧ Same H H') ⟨upd_same, same_upd nD⟩ (fun _ _ _ ⟨_, s'⟩ => (Tk.of s').sqT hB) (fun i x H2 H3 hi ⟨eD, s'⟩ hy => ?_) (fun H2 ⟨eD, s'⟩ => ?_)
    · obtain ⟨rfl, hx⟩ := hy
      obtain ⟨y, g1, rfl⟩ := at_nat hx
      have yN := mB y (List.mem_of_getElem? g1)
      refine ⟨rfl, yes_ ⟨_, rfl, _, rfl, a, _, _, _, rfl, rfl, (Tk.of s').sqT hA, at_of (j := y) rfl (natV_at (getD_at (by omega))), _, eD, ?_, ?_, same_put s' nD⟩⟩
      · rw [natV_len, List.length_map, List.length_take, sizeLine_eq]
        omega
      · rw [upd_same, take_snoc g1, List.map_append]
        unfold natV
        rw [List.map_append]
        rfl
    · rw [natV_len, List.take_length] at eD
      refine ⟨_, rfl, a, rfl, ⟨_, (Tk.of s').sqT hA⟩, fun D2 nD2 => ?_⟩
      refine lc_it (walk_tup (xs := natV A)) (fun i H' => H' D2 = some (.lst (natV ((A.take i).map (B.getD · 0)))) ∧ Same H2 H') ⟨upd_same, same_upd nD2⟩ (fun _ _ _ ⟨_, s''⟩ => (Tk.of (s'.trans s'')).sqT hA) (fun i x H4 H5 hi ⟨eD2, s''⟩ hy => ?_) (fun H4 ⟨eD2, s''⟩ => ?_)
      · obtain ⟨rfl, hx⟩ := hy
        obtain ⟨y, g1, rfl⟩ := at_nat hx
        have yN := mA y (List.mem_of_getElem? g1)
        refine ⟨rfl, yes_ ⟨_, rfl, _, rfl, b, _, _, _, rfl, rfl, (Tk.of (s'.trans s'')).sqT hB, at_of (j := y) rfl (natV_at (getD_at (by omega))), _, eD2, ?_, ?_, same_put s'' nD2⟩⟩
        · rw [natV_len, List.length_map, List.length_take, sizeLine_eq]
          omega
        · rw [upd_same, take_snoc g1, List.map_append]
          unfold natV
          rw [List.map_append]
          rfl
      · rw [natV_len, List.take_length] at eD2
        refine ⟨_, _, .lst (SqL.of (s'' _ _ eD)) (dp_natV _), .lst (SqL.of eD2) (dp_natV _), sh_ints _, sh_ints _, ?_⟩
        rw [eqv_intsL, show decide ((B.map (A.getD · 0)).map Int.ofNat = (A.map (B.getD · 0)).map Int.ofNat) = decide (B.map (A.getD · 0) = A.map (B.getD · 0)) from decide_eq_decide.mpr map_nat_eq]
        exact q H4 (s'.trans s'')
end
end XB
set_option Elab.async false
set_option linter.all false
set_option maxRecDepth 100000
set_option maxHeartbeats 4000000
/-! defs that raise, called by their names; what stands when the tables of code objects grow -/
namespace XB
open PySem PySem.Spec PyProof.Rows L2
section
variable {P : Program} {w : World} {K : PySem.W.Frag} {mg : Str → Option Value} {base : Heap}
theorem clX {x : Str} {st : Stmt} {N ps : List Str} {k : Nat} {sp : Sp} (D : Dn K mg x st)
    (hb : ∀ (kV doc pm : Value) (an : Option Addr) (cdv ct : Value) (us : List Value), us.length = ps.length → bindArgs (PySem.W.fnOf x x (defArgs st) (defBody st) (defScope st) .none kV doc pm an cdv ct) ⟨us, []⟩ = pure (ps.zip us))
    (S : FnScope N ps (defScope st)) (len : ∀ vs H Q E, sp vs H Q E → vs.length = ps.length)
    (hbody : ∀ (f : Addr) (cdv : Value) (A : Around) (outer : List Env) (s : Shared) (H : Hp) (vs : List V) (Q : VK) (E : XK), Room k (A.deeper (envOfC x (defScope st) s.heap.objs.size f cdv)) → sp vs H Q E →
      ∃ t, PSs (cxOf (L2.CX P w) P w K mg base N x (defScope st) f cdv A outer s H E) (defBody st) t ∧ t { nx := fun _ H' => Q .non H', rt := Q } (start N vs) H) : Cl P w K mg base (L2.CX P w) (k + 1) x sp := by
  obtain ⟨f, fd, F, hm⟩ := D.ex
  exact ⟨f, fd, ps, F.okX S len (fun cdv A outer s H vs Q E hr h => hbody f cdv A outer s H vs Q E hr h), hm, F.kp, F.binds hb⟩
end
section
variable {X : Cx} {k j : Nat} {x : Str} {sp : Sp} {p pos : Pos} {e : Expr} {es : List Expr} {t : TA} {E : XK}
/-- a def that may raise, called where what it raises may pass -/
theorem pe_kX (c : Cl X.prog X.w X.K X.mg X.base (L2.CX X.prog X.w) k x sp) (hr : Room j X.A) (hk : k ≤ j) (tk : Takes X fun cls d _ H => E cls d H) (hg : Gl X x) (ha : PA X (e :: es) t)
    (hdb : (x == ("__debug__" : Str)) = false := by decide) (he : starEach (e :: es) X.env = (false, eval e X.env) :: starEach es X.env := by rfl) (hpl : (backTo pos (starEach es X.env)).any (·.1) = false := by rfl) :
    PE X (.Call (.Name x p) (e :: es) [] pos) (tCall sp [] E t) := by
  obtain ⟨f, fd, ps, F, hm, kp, b⟩ := c.ex
  exact pe_call F (hr.mono hk) hg hm kp b .nil (passes_call tk fun _ _ _ _ h => h) ha hdb he hpl
/-- a def that may raise, called where nothing it raises can come about -/
theorem pe_kL (c : Cl X.prog X.w X.K X.mg X.base (L2.CX X.prog X.w) k x sp) (hr : Room j X.A) (hk : k ≤ j) (hg : Gl X x) (ha : PA X (e :: es) t)
    (hdb : (x == ("__debug__" : Str)) = false := by decide) (he : starEach (e :: es) X.env = (false, eval e X.env) :: starEach es X.env := by rfl) (hpl : (backTo pos (starEach es X.env)).any (·.1) = false := by rfl) :
    PE X (.Call (.Name x p) (e :: es) [] pos) (tCall sp [] E0 t) := by
  obtain ⟨f, fd, ps, F, hm, kp, b⟩ := c.ex
  exact pe_call F (hr.mono hk) hg hm kp b .nil passL ha hdb he hpl
end
/-! ### the tables of code objects grow, all else stands -/
open LamX (ExtN Tabs TabS)
theorem extN_tk {H H' : Hp} (s : ExtN H H') : Tk H H' := ⟨fun b xs e => s b _ e fun ps z => (nomatch z), fun b o u e => s b _ e fun ps z => (nomatch z)⟩
theorem extN_at {H H' : Hp} (s : ExtN H H') {b : Addr} {o : HO} (e : H b = some o) (n : ∀ ps, o ≠ .tbl ps) : H' b = some o := s b o e n
theorem extN_lst {H H' : Hp} (s : ExtN H H') {b : Addr} {xs : List V} (e : H b = some (.lst xs)) : H' b = some (.lst xs) := s b _ e fun ps z => (nomatch z)
theorem extN_seq {K : PySem.W.Frag} {H H' : Hp} (s : ExtN H H') {a : Addr} {xs : List V} (h : SqL K H a xs) : SqL K H' a xs := by
  rcases h with h | h
  · rcases h with h | ⟨o, h⟩
    · exact .inl (.inl (extN_lst s h))
    · exact .inl (.inr ⟨o, s a _ h fun ps z => (nomatch z)⟩)
  · exact .inr h
mutual
theorem Dp.ext {K : PySem.W.Frag} {H H' : Hp} (s : ExtN H H') : ∀ (d : PyData) {v : V}, Dp K H v d → Dp K H' v d
  | .none, _, h => by cases h; exact .non
  | .bool b, _, h => by cases h; exact .bl b
  | .int i, _, h => by cases h; exact .int i
  | .str x, _, h => by cases h; exact .str x
  | .list ds, _, h => by
    cases h with
    | lst h1 h2 => exact .lst (extN_seq s h1) (DpAll.ext s ds h2)
  | .tuple ds, _, h => by
    cases h with
    | tup h1 h2 => exact .tup ((extN_tk s).sqT h1) (DpAll.ext s ds h2)
  | .dict _, _, h => by cases h
theorem DpAll.ext {K : PySem.W.Frag} {H H' : Hp} (s : ExtN H H') : ∀ (ds : List PyData) {vs : List V}, DpAll K H vs ds → DpAll K H' vs ds
  | [], _, h => by cases h; exact .nil
  | d :: ds, _, h => by
    cases h with
    | cons h1 h2 => exact .cons (Dp.ext s d h1) (DpAll.ext s ds h2)
end
theorem tabs_same {H H' : Hp} {T : List (Addr × Str)} (t : Tabs T H) (s : Same H H') : Tabs T H' := t.ext s
theorem tabs_first {H : Hp} {c P : Addr} {q : Str} (h : H P = some (.tbl #[])) : Tabs [(P, q)] H := fun y hy => by
  rw [List.mem_singleton.mp hy]
  exact TabS.nil h
theorem extN_same {H H' : Hp} (s : Same H H') : ExtN H H' := ExtN.of s
end XB
set_option Elab.async false
set_option linter.all false
set_option maxRecDepth 100000
set_option maxHeartbeats 4000000
/-! dict(zip(names, things)) of two tuples -/
namespace XB
open PySem PySem.W PySem.Spec PyProof PyProof.Rows L2 RZ
section
variable {prog : Program} {w : World} {A : Around} {E : Value → Shared → Prop} {s : Shared}
/-- the next pair, while the one that was told before is still there -/
theorem zipH_item {z TI TO G p q a b : Addr} {f : Bool} {oG : Obj} {m n : Nat} {us vs : Array Value} {u v : Value} {Q : Option Value → Shared → Prop} (D : ZipApart z TI TO p q a b)
    (hz : IsZipHeld s.heap z TI TO G f) (hG : s.heap.get? G = some oG) (hI : IsPair s.heap TI (.ref p) (.ref q)) (hp : s.heap.IsTupleIter p a m) (hq : s.heap.IsTupleIter q b n)
    (ha : s.heap.IsTuple a us) (hb : s.heap.IsTuple b vs) (hu : us[m]? = some u) (hv : vs[n]? = some v)
    (go : ∀ h', IsZipHeld h' z TI TO G true → h'.IsTupleIter p a (m + 1) → h'.IsTupleIter q b (n + 1) → IsPair h' s.heap.objs.size u v → (∀ c o, c ≠ z → c ≠ p → c ≠ q → s.heap.get? c = some o → h'.get? c = some o) →
      Q (some (.ref s.heap.objs.size)) { s with heap := h' }) : wpAny (model prog w) A (pyNext (.ref z)) Q E s := by
  have ty : s.TypeIs (.ref z) "zip" := ⟨_, hz, rfl⟩
  unfold pyNext
  refine wpAny_bind (wpAny_attempt (wpAny_callSpecial?_slot (name := Str.ofString "__next__") ty F.slot_zip_next (wpAny_call_entry F.slot_zip_next ty F.entry_zip_next ?_ (F.args_zip_next_1 _))))
  show wpAny _ _ (field (.ref z) 2 >>= _) _ _ s; refine wpAny_bind (wpAny_field hz rfl (x := .bool false) rfl ?_)
  show wpAny _ _ (field (.ref z) 3 >>= _) _ _ s; refine wpAny_bind (wpAny_field hz rfl (x := .ref TI) rfl ?_)
  refine wpAny_bind (wpAny_seqItems hI rfl ?_); show wpAny _ _ (Builtin.SmallTypes.ownedTupleIsFree (.ref z) >>= _) _ _ s
  refine wpAny_bind (wpAny_tupleHeld_zip hz hG fun j1 z1 b1 => ?_)
  simp only [Bool.false_eq_true, if_false]
  refine wpAny_bind ?_
  rw [← Array.forIn_toList]; simp only [List.forIn_cons, List.forIn_nil]
  refine wpAny_bind (wpAny_bind (wpAny_holding ?_)); show wpAny _ _ (Builtin.SmallTypes.nextOf (.ref p) >>= _) _ _ _
  refine wpAny_bind (wpAny_nextOf_tuple_item (s := { s with heap := j1 }) (hp.extBut b1.extBut D.i1z) (ha.extBut b1.extBut D.l1z) hu fun j2 p2 b2 => wpAny_pure (wpAny_pure ?_))
  refine wpAny_bind (wpAny_bind (wpAny_holding ?_)); show wpAny _ _ (Builtin.SmallTypes.nextOf (.ref q) >>= _) _ _ _
  refine wpAny_bind (wpAny_nextOf_tuple_item (s := { s with heap := j2 }) ((hq.extBut b1.extBut D.i2z).extBut b2.extBut D.i12.symm) ((hb.extBut b1.extBut D.l2z).extBut b2.extBut D.l2i1) hv fun j3 q3 b3 => wpAny_pure (wpAny_pure (wpAny_pure ?_)))
  show wpAny _ _ (newTuple [u, v] >>= _) _ _ _; refine wpAny_bind (wpAny_newTuple (wpAny_pure ⟨_, rfl, wpAny_pure ?_⟩))
  have size3 : j3.objs.size = s.heap.objs.size := by rw [b3.1, b2.1, b1.1]
  have pr : IsPair (j3.push { cls := .type "tuple", data := .seq #[u, v] }) j3.objs.size u v := Heap.get?_push_size _ rfl
  show Q (some (.ref j3.objs.size)) _
  rw [size3] at pr ⊢
  refine go _ (Heap.get?_push_of_some _ (b3.extBut _ _ D.i2z.symm (b2.extBut _ _ D.i1z.symm z1))) ((p2.extBut b3.extBut D.i12).at fun o e => Heap.get?_push_of_some _ e) (q3.at fun o e => Heap.get?_push_of_some _ e) pr fun c o n1 n2 n3 e => ?_
  exact Heap.get?_push_of_some _ (b3.extBut _ _ n3 (b2.extBut _ _ n2 (b1.extBut _ _ n1 e)))
theorem zipH_end {z TI TO G p q a b : Addr} {f : Bool} {oG : Obj} {m n : Nat} {us vs : Array Value} {Q : Option Value → Shared → Prop} (idle : A.handled = none) (D : ZipApart z TI TO p q a b)
    (hz : IsZipHeld s.heap z TI TO G f) (hG : s.heap.get? G = some oG) (hI : IsPair s.heap TI (.ref p) (.ref q)) (hp : s.heap.IsTupleIter p a m) (hq : s.heap.IsTupleIter q b n)
    (ha : s.heap.IsTuple a us) (hb : s.heap.IsTuple b vs) (over : us[m]? = none ∨ vs[n]? = none)
    (go : ∀ h', (∀ c o, c ≠ z → c ≠ p → c ≠ q → s.heap.get? c = some o → h'.get? c = some o) → Q none { s with heap := h' }) : wpAny (model prog w) A (pyNext (.ref z)) Q E s := by
  have ty : s.TypeIs (.ref z) "zip" := ⟨_, hz, rfl⟩
  unfold pyNext
  refine wpAny_bind (wpAny_attempt (wpAny_callSpecial?_slot (name := Str.ofString "__next__") ty F.slot_zip_next (wpAny_call_entry F.slot_zip_next ty F.entry_zip_next ?_ (F.args_zip_next_1 _))))
  show wpAny _ _ (field (.ref z) 2 >>= _) _ _ s; refine wpAny_bind (wpAny_field hz rfl (x := .bool false) rfl ?_)
  show wpAny _ _ (field (.ref z) 3 >>= _) _ _ s; refine wpAny_bind (wpAny_field hz rfl (x := .ref TI) rfl ?_)
  refine wpAny_bind (wpAny_seqItems hI rfl ?_); show wpAny _ _ (Builtin.SmallTypes.ownedTupleIsFree (.ref z) >>= _) _ _ s
  refine wpAny_bind (wpAny_tupleHeld_zip hz hG fun j1 z1 b1 => ?_)
  simp only [Bool.false_eq_true, if_false]
  refine wpAny_bind ?_
  rw [← Array.forIn_toList]; simp only [List.forIn_cons, List.forIn_nil]
  refine wpAny_bind (wpAny_bind (wpAny_holding ?_)); show wpAny _ _ (Builtin.SmallTypes.nextOf (.ref p) >>= _) _ _ _
  have close : ∀ (h' : Heap) (x : Addr), (∀ c o, c ≠ z → c ≠ p → c ≠ q → s.heap.get? c = some o → h'.get? c = some o) → (∃ o, h'.get? x = some o ∧ o.cls = .type "StopIteration") →
      wpAny (model prog w) A (isInstance (.ref x) (.type "StopIteration") >>= fun b => if b = true then pure none else throw (.ref x)) Q E { s with heap := h' } := fun h' x k ⟨o, e, hc⟩ =>
    wpAny_bind (wpAny_isInstance (T := "StopIteration") (b := true) ⟨o, e, hc⟩ isSubtype_stop (wpAny_pure (go h' k)))
  cases hx : us[m]? with
  | none =>
    refine wpAny_bind (wpAny_nextOf_tuple_end (s := { s with heap := j1 }) idle (hp.extBut b1.extBut D.i1z) (ha.extBut b1.extBut D.l1z) hx fun j2 x b2 ho => close j2 x (fun c o n1 n2 _ e => b2 _ _ n2 (b1.extBut _ _ n1 e)) ho)
  | some u =>
    have hy : vs[n]? = none := over.resolve_left (by rw [hx]; simp)
    refine wpAny_bind (wpAny_nextOf_tuple_item (s := { s with heap := j1 }) (hp.extBut b1.extBut D.i1z) (ha.extBut b1.extBut D.l1z) hx fun j2 p2 b2 => wpAny_pure (wpAny_pure ?_))
    refine wpAny_bind (wpAny_bind (wpAny_holding ?_)); show wpAny _ _ (Builtin.SmallTypes.nextOf (.ref q) >>= _) _ _ _
    refine wpAny_bind (wpAny_nextOf_tuple_end (s := { s with heap := j2 }) idle ((hq.extBut b1.extBut D.i2z).extBut b2.extBut D.i12.symm) ((hb.extBut b1.extBut D.l2z).extBut b2.extBut D.l2i1) hy fun j3 x b3 ho => close j3 x (fun c o n1 n2 n3 e => b3 _ _ n3 (b2.extBut _ _ n2 (b1.extBut _ _ n1 e))) ho)
end
section
variable {prog : Program} {w : World}
def ZtOk (z TI TO p q a b : Addr) (us vs : Array Value) (h : Heap) : Prop := IsZip h z TI TO .none ∧ IsPair h TI (.ref p) (.ref q) ∧ (∃ x y, IsPair h TO x y) ∧ h.IsTupleIter p a 0 ∧ h.IsTupleIter q b 0 ∧ h.IsTuple a us ∧ h.IsTuple b vs
def ZtAt (d z TI TO p q a b : Addr) (us vs : Array Value) (i : Nat) (h : Heap) : Prop := IsPair h TI (.ref p) (.ref q) ∧ h.IsTupleIter p a i ∧ h.IsTupleIter q b i ∧ h.IsTuple a us ∧ h.IsTuple b vs ∧
  ((IsZip h z TI TO .none ∧ ∃ x y, IsPair h TO x y) ∨ ∃ G f oG, IsZipHeld h z TI TO G f ∧ h.get? G = some oG ∧ G ≠ z ∧ G ≠ p ∧ G ≠ q ∧ G ≠ d)
theorem argZT (z TI TO p q a b : Addr) (D : ZipApart z TI TO p q a b) (us vs : Array Value) :
    PairArg prog w "zip" z [z, TI, TO, p, q, a, b] [z, TO, p, q] (min us.size vs.size) (fun i k v => us[i]? = some k ∧ vs[i]? = some v) (ZtOk z TI TO p q a b us vs) where
  type := fun _ ok => ⟨_, ok.1, rfl⟩
  notDict := by decide
  keep := fun h h' ⟨g1, g2, ⟨x, y, g3⟩, g4, g5, g6, g7⟩ k => ⟨k _ _ g1, k _ _ g2, ⟨x, y, k _ _ g3⟩, g4.at fun o e => k _ o e, g5.at fun o e => k _ o e, g6.at fun o e => k _ o e, g7.at fun o e => k _ o e⟩
  there := fun h ⟨g1, g2, ⟨x, y, g3⟩, ⟨o4, g4, _⟩, ⟨o5, g5, _⟩, ⟨o6, g6, _⟩, ⟨o7, g7, _⟩⟩ c hc => by
    simp only [List.mem_cons, List.not_mem_nil, or_false] at hc
    rcases hc with e | e | e | e | e | e | e <;> subst e
    all_goals exact ⟨_, by assumption⟩
  sub := fun c hc => by
    simp only [List.mem_cons, List.not_mem_nil, or_false] at hc ⊢
    rcases hc with e | e | e | e <;> subst e <;> simp
  noKeys := fun A s Q E idle ok go => getAttrOr_miss_zip ok.1 rfl rfl rfl zip_no_keys (by decide +kernel) idle go
  iter := fun A s d Q E idle ⟨g1, g2, ⟨x, y, g3⟩, g4, g5, g6, g7⟩ hd off go => by
    simp only [List.mem_cons, List.not_mem_nil, or_false, not_or] at off
    obtain ⟨d1, d2, d3, d4, d5, d6, d7⟩ := off
    refine wpAny_pyIter_zip g1 (go z [z, TO, p, q] (ZtAt d z TI TO p q a b us vs) s.heap s.toks ?_ ⟨g2, g4, g5, g6, g7, .inl ⟨g1, x, y, g3⟩⟩ (fun _ _ e => e) fun c hc => .inl hc)
    refine { off := fun hm => ?_, frame := fun i j1 j2 st k => ?_, item := fun i s1 Q1 E1 hi st hds hQ => ?_, done := fun s1 Q1 E1 st hQ => ?_ }
    · simp only [List.mem_cons, List.not_mem_nil, or_false] at hm
      rcases hm with e | e | e | e
      · exact d1 e
      · exact d3 e
      · exact d4 e
      · exact d5 e
    · obtain ⟨t1, t2, t3, t4, t5, t6⟩ := st
      refine ⟨k _ _ (Ne.symm d2) t1, t2.at fun o e => k _ o (Ne.symm d4) e, t3.at fun o e => k _ o (Ne.symm d5) e, t4.at fun o e => k _ o (Ne.symm d6) e, t5.at fun o e => k _ o (Ne.symm d7) e, ?_⟩
      rcases t6 with ⟨t6, x, y, t7⟩ | ⟨G, f, oG, t6, t7, n1, n2, n3, n4⟩
      · exact .inl ⟨k _ _ (Ne.symm d1) t6, x, y, k _ _ (Ne.symm d3) t7⟩
      · exact .inr ⟨G, f, oG, k _ _ (Ne.symm d1) t6, k _ _ n4 t7, n1, n2, n3, n4⟩
    · obtain ⟨t1, t2, t3, t4, t5, t6⟩ := st
      have e1 := Array.getElem?_eq_getElem (Nat.lt_of_lt_of_le hi (Nat.min_le_left us.size vs.size))
      have e2 := Array.getElem?_eq_getElem (Nat.lt_of_lt_of_le hi (Nat.min_le_right us.size vs.size))
      have old : ∀ {c : Addr} {o : Obj}, s1.heap.get? c = some o → s1.heap.objs.size ≠ c := fun e => Nat.ne_of_gt (Heap.lt_size e)
      have np : s1.heap.objs.size ≠ p := by
        obtain ⟨_, e, _⟩ := t2
        exact old e
      have nq : s1.heap.objs.size ≠ q := by
        obtain ⟨_, e, _⟩ := t3
        exact old e
      rcases t6 with ⟨t6, x, y, t7⟩ | ⟨G, f, oG, t6, t7, n1, n2, n3, n4⟩
      · refine pyNext_zipT_item D t6 t1 t7 t2 t3 t4 t5 e1 e2 fun j a1 a2 a3 a4 a5 a6 k => ?_
        refine hQ s1.heap.objs.size _ _ j s1.toks ⟨e1, e2⟩ (.inl ⟨_, a5, rfl, _, rfl⟩) ⟨k _ _ D.TIz D.TITO D.TIi1 D.TIi2 t1, a3, a4, t4.at fun o e => k _ o D.l1z D.l1TO D.l1i1 D.l1i2 e, t5.at fun o e => k _ o D.l2z D.l2TO D.l2i1 D.l2i2 e, ?_⟩ fun c o hc e => ?_
        · exact .inr ⟨s1.heap.objs.size, false, _, a1, a5, old t6, np, nq, Nat.ne_of_gt hds⟩
        · exact k c o (fun z => hc (by simp [z])) (fun z => hc (by simp [z])) (fun z => hc (by simp [z])) (fun z => hc (by simp [z])) e
      · refine zipH_item D t6 t7 t1 t2 t3 t4 t5 e1 e2 fun j a1 a3 a4 a5 k => ?_
        refine hQ s1.heap.objs.size _ _ j s1.toks ⟨e1, e2⟩ (.inl ⟨_, a5, rfl, _, rfl⟩) ⟨k _ _ D.TIz D.TIi1 D.TIi2 t1, a3, a4, t4.at fun o e => k _ o D.l1z D.l1i1 D.l1i2 e, t5.at fun o e => k _ o D.l2z D.l2i1 D.l2i2 e, ?_⟩ fun c o hc e => ?_
        · exact .inr ⟨G, true, oG, a1, k _ _ n1 n2 n3 t7, n1, n2, n3, n4⟩
        · exact k c o (fun z => hc (by simp [z])) (fun z => hc (by simp [z])) (fun z => hc (by simp [z])) e
    · obtain ⟨t1, t2, t3, t4, t5, t6⟩ := st
      have over : us[min us.size vs.size]? = none ∨ vs[min us.size vs.size]? = none := by
        by_cases le : us.size ≤ vs.size
        · exact .inl (Array.getElem?_eq_none (by omega))
        · exact .inr (Array.getElem?_eq_none (by omega))
      rcases t6 with ⟨t6, x, y, t7⟩ | ⟨G, f, oG, t6, t7, n1, n2, n3, n4⟩
      · exact pyNext_zipT_end idle D t6 t1 t7 t2 t3 t4 t5 over fun j k => hQ j s1.toks fun c o hc e => k c o (fun z => hc (by simp [z])) (fun z => hc (by simp [z])) (fun z => hc (by simp [z])) (fun z => hc (by simp [z])) e
      · exact zipH_end idle D t6 t7 t1 t2 t3 t4 t5 over fun j k => hQ j s1.toks fun c o hc e => k c o (fun z => hc (by simp [z])) (fun z => hc (by simp [z])) (fun z => hc (by simp [z])) e
end
section
variable {X : Cx}
theorem zip_kv {P : Program} {w : World} : ∀ {ks : List Str} {its : List Value} {ys : List V} {us : List Value}, Vals (ks.map V.str) its → Vals ys us → ks.length = ys.length → KV ((ks.map Sum.inr).zip ys) ((ks.map (Sum.inr : Str → Key)).zip us) ∧
    ∀ (i : Nat) (k v : Value), its[i]? = some k → us[i]? = some v → ∃ c : Key, ((ks.map (Sum.inr : Str → Key)).zip us)[i]? = some (c, v) ∧ (mixKind P w).is c k = true
  | [], _, [], _, .nil, .nil, _ => ⟨.nil, fun i k v h => by simp at h⟩
  | x :: ks, _, y :: ys, _, .cons h1 t1, .cons h2 t2, hl => by
    obtain ⟨a, b⟩ := zip_kv (P := P) (w := w) t1 t2 (by simpa using hl)
    refine ⟨.cons ⟨rfl, h2⟩ a, fun i k v e1 e2 => ?_⟩
    cases i with
    | zero =>
      cases e1
      cases e2
      exact ⟨.inr x, rfl, kV_is (k := .inr x) h1⟩
    | succ i => exact b i k v e1 e2
/-- dict(zip(names, things)) of two tuples as long as each other -/
theorem pe_dictZip {K : PySem.W.Frag} {e1 e2 : Expr} {ta : TA} {p q p' q' : Pos} (hk : X.K = K) (calm : X.calm = true) (hgd : Gl X "dict") (hmd : X.mg "dict" = none) (hgz : Gl X "zip") (hmz : X.mg "zip" = none) (ha : PA X [e1, e2] ta)
    (st : starEach [e1, e2] X.env = (false, eval e1 X.env) :: starEach [e2] X.env := by rfl) (pl : (backTo q' (starEach [e2] X.env)).any (·.1) = false := by rfl)
    (st2 : starEach [.Call (.Name "zip" p') [e1, e2] [] q'] X.env = (false, eval (.Call (.Name "zip" p') [e1, e2] [] q') X.env) :: starEach [] X.env := by rfl) :
    PE X (.Call (.Name "dict" p) [.Call (.Name "zip" p') [e1, e2] [] q'] [] q) (fun σ H Q => ta σ H fun vs H1 => ∃ (a b : Addr) (ks : List Str) (ys : List V), vs = [.ref a, .ref b] ∧ SqT K H1 a (ks.map V.str) ∧ SqT K H1 b ys ∧ ks.length = ys.length ∧
      ∀ d, H1 d = none → Q (.ref d) (upd H1 d (.dK (mergeK [] ((ks.map Sum.inr).zip ys))))) := by
  subst hk
  constructor
  intro pins s σ H Q I h
  refine Call_ (ld_blt I hgd hmd PyProof.Rows.boot_dict (PyProof.Rows.callWith_type1 (args_cons ?_ st2) st2))
  refine Call_ (ld_blt I hgz hmz PyProof.Rows.boot_zip (PyProof.Rows.callWith_type1 (thn (ha.run q' pins s σ H _ I h) ?_) st pl))
  rintro us s1 ⟨vs, H1, I1, r1, a, b, ks, ys, rfl, hA, hB, hl, go⟩
  obtain ⟨u1, u2, rfl, g1, g2⟩ := vals2 r1
  cases g1
  cases g2
  obtain ⟨its, rv, t1, z1⟩ := I1.tuple hA
  obtain ⟨its2, rv2, t2, z2⟩ := I1.tuple hB
  obtain ⟨oa, ha1, _⟩ := id t1
  obtain ⟨ob, hb1, _⟩ := id t2
  refine call_zipT (show s1.heap.IsTuple a its.toArray from t1) (show s1.heap.IsTuple b its2.toArray from t2) fun j jz jI jO jp jq jsz jk => ?_
  obtain ⟨kv, hkv⟩ := zip_kv (P := X.prog) (w := X.w) rv rv2 hl
  have l1 := rv.length
  have l2 := rv2.length
  rw [List.length_map] at l1 z1
  have lk : ((ks.map (Sum.inr : Str → Key)).zip its2).length = ks.length := by
    rw [List.length_zip, List.length_map]
    omega
  refine args_nil ?_
  refine PySem.call_dict_pairs (s := { s1 with heap := j }) (knd := mixKind X.prog X.w) (kvs := (ks.map (Sum.inr : Str → Key)).zip its2) (argZT _ _ _ _ _ a b (PySem.W.ktu_apart s1.heap.objs.size a b (Heap.lt_size ha1) (Heap.lt_size hb1)) its.toArray its2.toArray) (I.ok.hd calm) ⟨jz, jI, ⟨_, _, jO⟩, jp, jq, ?_, ?_⟩ ⟨?_, ?_⟩ ?_ ?_
  · exact t1.keeps jk
  · exact t2.keeps jk
  · rw [lk, List.size_toArray, List.size_toArray]
    omega
  · exact fun i k v ⟨c1, c2⟩ => hkv i k v (by simpa using c1) (by simpa using c2)
  · rw [List.size_toArray, List.size_toArray]
    exact Nat.le_trans (Nat.min_le_left _ _) (by omega)
  · intro j2 tk hd k2
    have old : ∀ c o, s1.heap.get? c = some o → j2.get? c = some o := fun c o e => by
      have lt := Heap.lt_size e
      refine k2 c o (fun m => ?_) (jk c o e)
      have up : s1.heap.objs.size ≤ c := by
        simp only [List.mem_cons, List.not_mem_nil, or_false] at m
        rcases m with m | m | m | m <;> rw [m]
        · exact Nat.le_add_right _ _
        · exact Nat.le_add_right _ _
        · exact Nat.le_refl _
        · exact Nat.le_add_right _ _
      exact Nat.lt_irrefl _ (Nat.lt_of_lt_of_le lt up)
    have sj : j.objs.size = s1.heap.objs.size + 5 := jsz
    have le : s1.heap.objs.size ≤ j.objs.size := by omega
    have big : (j.objs.size == sysModules) = false := beq_eq_false_iff_ne.mpr (Nat.ne_of_gt (Nat.lt_of_lt_of_le I1.big le))
    have short : (mergeK [] ((ks.map Sum.inr).zip ys)).length ≤ sizeLine := by
      refine Nat.le_trans (length_mergeK _ []) ?_
      rw [List.length_nil, Nat.zero_add, List.length_zip, List.length_map]
      omega
    exact ⟨.ref j.objs.size, _, I1.laid (t' := tk) (o := .dK (mergeK [] ((ks.map Sum.inr).zip ys))) old le ⟨short, big, merged [] _, KV.merge kv .nil, hd⟩, rfl, go _ (I1.hok.fresh le)⟩
end
end XB
set_option Elab.async false
set_option linter.all false
set_option maxRecDepth 100000
set_option maxHeartbeats 4000000
namespace XB
open PySem PySem.Spec PyProof.Rows L2
/-! ### looked up behind dict(zip(names, things)) -/
theorem valV_mergeN {more : List (Key × V)} {k : Key} : ∀ {kvs : List (Key × V)}, (∀ p ∈ more, p.1 ≠ k) → valV (mergeK kvs more) k = valV kvs k := by
  induction more with
  | nil => intro kvs _; rfl
  | cons p r ih =>
    intro kvs h
    show valV (mergeK (putK kvs p.1 p.2) r) k = _
    rw [ih fun q hq => h q (List.mem_cons_of_mem _ hq), valV_put, if_neg fun e => h p List.mem_cons_self e.symm]
theorem valV_zip : ∀ {ns : List Str} {ys : List V} {kvs : List (Key × V)} {i : Nat} {n : Str} {y : V}, ns.Pairwise (· ≠ ·) → ns[i]? = some n → ys[i]? = some y → valV (mergeK kvs ((ns.map Sum.inr).zip ys)) (Sum.inr n) = some y
  | [], _, _, i, _, _, _, h, _ => by simp at h
  | _ :: _, [], _, i, _, _, _, _, h => by simp at h
  | a :: ns, z :: ys, kvs, 0, n, y, hp, h1, h2 => by
    cases h1
    cases h2
    show valV (mergeK (putK kvs (Sum.inr a) z) ((ns.map Sum.inr).zip ys)) (Sum.inr a) = _
    rw [valV_mergeN, valV_put, if_pos rfl]
    intro p hq e
    have m := (List.of_mem_zip (a := p.1) (b := p.2) hq).1
    obtain ⟨b, hb, e2⟩ := List.mem_map.mp m
    rw [e] at e2
    cases e2
    exact (List.pairwise_cons.mp hp).1 _ hb rfl
  | a :: ns, z :: ys, kvs, i + 1, n, y, hp, h1, h2 => by
    show valV (mergeK (putK kvs (Sum.inr a) z) ((ns.map Sum.inr).zip ys)) (Sum.inr n) = _
    exact valV_zip (List.pairwise_cons.mp hp).2 (by simpa using h1) (by simpa using h2)
theorem Fld.Ok.pw {F : Fld} (ok : F.Ok) : F.names.Pairwise (· ≠ ·) := ok.asN.imp fun {a b} h e => by
  rw [e, sLt_irr] at h
  cases h
/-! ### what is wrong with a thing as a yard of a field -/
def natsD : PyData → List Nat
  | .tuple ds => ((asInts ds).getD []).map Int.toNat
  | _ => []
def idxN (F : Fld) (n : Str) : Nat := F.names.idxOf n
def rowI (F : Fld) (ds : List PyData) (n : Str) : List Nat := natsD (ds.getD (idxN F n) .none)
def chgD (A B : List Nat) : Bool := decide (B.map (A.getD · 0) = A.map (B.getD · 0))
def firstLen : List PyData → Nat
  | .tuple ss :: _ => ss.length
  | _ => 0
def allTurn (ds : List PyData) : Bool := ds.all (turnD (firstLen ds))
def allChg (F : Fld) (ds : List PyData) : Bool := F.pairs.all fun p => chgD (rowI F ds p.1) (rowI F ds p.2)
def wrongD (F : Fld) (d : PyData) : Option Str :=
  if formD F.names.length d = true then
    match d with
    | .tuple ds => if allTurn ds = true then (if allChg F ds = true then none else some "change") else some "turn"
    | _ => some "form"
  else some "form"
theorem idx_at {F : Fld} (ok : F.Ok) {i : Nat} {n : Str} (h : F.names[i]? = some n) : idxN F n = i := by
  obtain ⟨hi, e⟩ := List.getElem?_eq_some_iff.mp h
  have m : n ∈ F.names := List.mem_of_getElem? h
  have lt : F.names.idxOf n < F.names.length := List.idxOf_lt_length_of_mem m
  have e2 : F.names[F.names.idxOf n] = n := List.getElem_idxOf lt
  have nd : F.names.Nodup := ok.pw
  exact (List.getElem_inj nd).mp (e2.trans e.symm)
theorem idx_lt {F : Fld} {n : Str} (h : n ∈ F.names) : idxN F n < F.names.length ∧ F.names[idxN F n]? = some n := by
  have lt : F.names.idxOf n < F.names.length := List.idxOf_lt_length_of_mem h
  exact ⟨lt, by
    show F.names[F.names.idxOf n]? = some n
    rw [List.getElem?_eq_getElem lt, List.getElem_idxOf lt]⟩
theorem turn_nats {N : Nat} {d : PyData} (h : turnD N d = true) : d = .tuple (((natsD d).map Int.ofNat).map .int) ∧ (natsD d).Perm (List.range N) := by
  cases d with
  | tuple ds =>
    have h : (match asInts ds with
      | some zs => decide (sortZ zs = rgZ N)
      | none => false) = true := h
    cases he : asInts ds with
    | none => rw [he] at h; cases h
    | some zs =>
      rw [he] at h
      have hs : sortZ zs = rgZ N := of_decide_eq_true h
      have hp : zs.Perm (rgZ N) := by
        rw [← hs]
        exact (sortZ_perm zs).symm
      have pos : ∀ z ∈ zs, 0 ≤ z := fun z hz => by
        obtain ⟨x, _, e⟩ := List.mem_map.mp (hp.mem_iff.mp hz)
        rw [← e]
        exact Int.natCast_nonneg x
      have e1 : natsD (.tuple ds) = zs.map Int.toNat := by
        show ((asInts ds).getD []).map Int.toNat = _
        rw [he]
        rfl
      rw [e1]
      refine ⟨?_, ?_⟩
      · have e3 : (zs.map Int.toNat).map Int.ofNat = zs := by
          rw [List.map_map]
          exact (List.map_congr_left fun z hz => Int.toNat_of_nonneg (pos z hz)).trans (List.map_id zs)
        rw [e3, ← asInts_some he]
      · have := hp.map Int.toNat
        rw [show (rgZ N).map Int.toNat = List.range N by
          unfold rgZ
          rw [List.map_map]
          exact (List.map_congr_left fun x _ => rfl).trans (List.map_id _)] at this
        exact this
  | _ => cases h
/-- a yard as data -/
def dRowN (N : Nat) (g : Nat → Nat) : PyData := .tuple ((List.range N).map fun x => .int ((g x : Nat) : Int))
def dYard (F : Fld) (N : Nat) (f : Str → Nat → Nat) : PyData := .tuple (F.names.map fun n => dRowN N (f n))
theorem list_getD {l : List Nat} {N : Nat} (h : l.length = N) : l = (List.range N).map fun x => l.getD x 0 := by
  refine List.ext_getElem? fun i => ?_
  rw [List.getElem?_map]
  by_cases hi : i < N
  · rw [List.getElem?_range hi, List.getElem?_eq_getElem (by omega)]
    show _ = some (l.getD i 0)
    rw [List.getD_eq_getElem?_getD, List.getElem?_eq_getElem (by omega)]
    rfl
  · rw [List.getElem?_eq_none (by omega), List.getElem?_eq_none (by rw [List.length_range]; omega)]
    rfl
/-- a right yard leads by its rows -/
theorem yard_of {F : Fld} (ok : F.Ok) {d : PyData} (h : wrongD F d = none) : ∃ (N : Nat) (f : Str → Nat → Nat), 1 ≤ N ∧ N ≤ 2000 ∧ d = dYard F N f ∧ XM.Yd (OF F) (· ∈ F.names) N f := by
  unfold wrongD at h
  split at h
  · rename_i hf
    cases d with
    | tuple ds =>
      have h : (if allTurn ds = true then (if allChg F ds = true then none else some ("change" : Str)) else some ("turn" : Str)) = none := h
      split at h
      · rename_i ht
        split at h
        · rename_i hc
          cases ds with
          | nil => cases hf
          | cons r0 rs =>
          cases r0 with
          | tuple ss =>
            have hf : (decide (rs.length + 1 = F.names.length) && (decide (1 ≤ ss.length) && decide (ss.length ≤ 2000))) = true := hf
            rw [Bool.and_eq_true, Bool.and_eq_true] at hf
            have hl := of_decide_eq_true hf.1
            have n1 := of_decide_eq_true hf.2.1
            have n2 := of_decide_eq_true hf.2.2
            have ht : ((PyData.tuple ss :: rs).all (turnD ss.length)) = true := ht
            rw [List.all_eq_true] at ht
            have row : ∀ n ∈ F.names, ∃ r, (PyData.tuple ss :: rs)[idxN F n]? = some r ∧ turnD ss.length r = true ∧ rowI F (PyData.tuple ss :: rs) n = natsD r := fun n hn => by
              have lt : idxN F n < (PyData.tuple ss :: rs).length := by
                rw [List.length_cons]
                have := (idx_lt hn).1
                omega
              have e := List.getElem?_eq_getElem lt
              refine ⟨_, e, ht _ (List.mem_of_getElem? e), ?_⟩
              unfold rowI
              rw [List.getD_eq_getElem?_getD, e]
              rfl
            have perm : ∀ n ∈ F.names, (rowI F (PyData.tuple ss :: rs) n).Perm (List.range ss.length) := fun n hn => by
              obtain ⟨r, _, e2, e3⟩ := row n hn
              rw [e3]
              exact (turn_nats e2).2
            refine ⟨ss.length, fun n x => (rowI F (PyData.tuple ss :: rs) n).getD x 0, n1, n2, ?_, ?_⟩
            · unfold dYard
              congr 1
              refine List.ext_getElem? fun i => ?_
              rw [List.getElem?_map]
              by_cases hi : i < F.names.length
              · have g1 : F.names[i]? = some F.names[i] := List.getElem?_eq_getElem hi
                generalize F.names[i] = n at g1
                obtain ⟨r, e1, e2, e3⟩ := row n (List.mem_of_getElem? g1)
                rw [idx_at ok g1] at e1
                rw [g1, e1]
                show some r = some (PyData.tuple ((List.range ss.length).map fun x => PyData.int (((rowI F (PyData.tuple ss :: rs) n).getD x 0 : Nat) : Int)))
                rw [(turn_nats e2).1, e3]
                have le : (natsD r).length = ss.length := by
                  rw [(turn_nats e2).2.length_eq, List.length_range]
                congr 2
                conv => lhs; rw [list_getD le]
                rw [List.map_map, List.map_map]
                exact List.map_congr_left fun x _ => rfl
              · rw [List.getElem?_eq_none (by rw [List.length_cons]; omega), List.getElem?_eq_none (by omega)]
                rfl
            · refine ⟨fun n hn => (XM.perm_at (perm n hn)).1, fun n hn => (XM.perm_at (perm n hn)).2, fun a b ha hb htc x hx => ?_⟩
              have hap : apart F a b = true := by
                rw [tc_eq ok] at htc
                simpa using htc
              have hc : (F.pairs.all fun p => chgD (rowI F (PyData.tuple ss :: rs) p.1) (rowI F (PyData.tuple ss :: rs) p.2)) = true := hc
              rw [List.all_eq_true] at hc
              have comm : ∀ u v, (u, v) ∈ F.pairs → u ∈ F.names → v ∈ F.names → ∀ x, x < ss.length → (rowI F (PyData.tuple ss :: rs) u).getD ((rowI F (PyData.tuple ss :: rs) v).getD x 0) 0 = (rowI F (PyData.tuple ss :: rs) v).getD ((rowI F (PyData.tuple ss :: rs) u).getD x 0) 0 := fun u v huv hu hv x hx => by
                have e := of_decide_eq_true (hc _ huv)
                have lu : (rowI F (PyData.tuple ss :: rs) u).length = ss.length := by rw [(perm u hu).length_eq, List.length_range]
                have lv : (rowI F (PyData.tuple ss :: rs) v).length = ss.length := by rw [(perm v hv).length_eq, List.length_range]
                have e2 := congrArg (fun l => l[x]?) e
                simp only [List.getElem?_map] at e2
                rw [getD_at (show x < (rowI F (PyData.tuple ss :: rs) v).length by omega), getD_at (show x < (rowI F (PyData.tuple ss :: rs) u).length by omega)] at e2
                exact Option.some.inj e2
              unfold apart at hap
              rw [Bool.or_eq_true] at hap
              rcases hap with h | h
              · exact comm a b (List.contains_iff_mem.mp h) ha hb x hx
              · exact (comm b a (List.contains_iff_mem.mp h) hb ha x hx).symm
          | _ => cases hf
        · cases h
      · cases h
    | _ => cases h
  · cases h
end XB
set_option Elab.async false
set_option linter.all false
/-! len and isinstance inside a comprehension's block -/
namespace XB
open PySem PySem.Spec PyProof.Rows L2
theorem pe_lenSk {X : Cx} {K : PySem.W.Frag} {e : Expr} {te : TE} {p pos : Pos} (hk : X.K = K) (hg : Gl X "len") (hm : X.mg "len" = none) (he : PE X e te) (h1 : starEach [e] X.env = (false, eval e X.env) :: starEach [] X.env := by rfl) :
    PE X (.Call (.Name "len" p) [e] [] pos) (tCB (fun xs H Q => ∃ p ys, xs = [V.ref p] ∧ (SqL K H p ys ∨ SqT K H p ys) ∧ Q (.int ys.length) H) (tCons te tNil)) := by
  subst hk
  exact pe_lenS hg hm he h1
theorem pe_isTk {X : Cx} {K : PySem.W.Frag} {x : Str} {e : Expr} {te : TE} {p q pos : Pos} (hk : X.K = K) (T : String) (hgI : Gl X "isinstance") (hmI : X.mg "isinstance" = none) (hgT : Gl X x) (hmT : X.mg x = none) (hv : bootBuiltins x = some (.type T)) (he : PE X e te)
    (hn : x ≠ "__name__" := by decide) (hdb : (x == ("__debug__" : Str)) = false := by decide)
    (h1 : starEach [e, .Name x q] X.env = (false, eval e X.env) :: starEach [.Name x q] X.env := by rfl) (h2 : starEach [.Name x q] X.env = (false, eval (.Name x q) X.env) :: starEach [] X.env := by rfl) :
    PE X (.Call (.Name "isinstance" p) [e, .Name x q] [] pos) (tCB (rIsi K) (tCons te (tCons (tC (.ty T)) tNil))) := by
  subst hk
  exact pe_isT T hgI hmI hgT hmT hv he hn hdb h1 h2
end XB
set_option Elab.async false
set_option linter.all false
set_option maxRecDepth 100000
set_option maxHeartbeats 4000000
namespace XB
open PySem PySem.Spec PyProof.Rows L2
/-- how great a thing may be that is held for a yard -/
def YSmall (d : PyData) : Prop := ∀ ds, d = .tuple ds → ds.length ≤ 5000 ∧ ∀ r ∈ ds, ∀ es, r = .tuple es → es.length ≤ 5000
section
variable {P : Program} {w : World} {K : PySem.W.Frag} {mg : Str → Option Value} {base : Heap}
theorem c_BadYard (T : Tx K mg) : MkE P w K mg base 1 "BadYard" "part" := by
  refine mke0 T.e_BadYard (ps := ["self", "part"]) rfl (fun _ _ _ _ _ _ us hl => match us, hl with | [_, _], _ => rfl) (fun _ _ _ _ _ _ _ _ => rfl) sc_BadYard___init__ (fun C fI cdv A outer st H vs Q E hC hm hr h => ?_)
  obtain ⟨a, y, rfl, e, q⟩ := h
  exact ⟨_, pss_one (ps_osG (pv 0) (pv 1)), _, rfl, _, rfl, a, C, rfl, hC, T.n_BadYard_part C hm, e, q⟩
theorem c_BadSpot (T : Tx K mg) : MkE P w K mg base 1 "BadSpot" "value" := by
  refine mke0 T.e_BadSpot (ps := ["self", "value"]) rfl (fun _ _ _ _ _ _ us hl => match us, hl with | [_, _], _ => rfl) (fun _ _ _ _ _ _ _ _ => rfl) sc_BadSpot___init__ (fun C fI cdv A outer st H vs Q E hC hm hr h => ?_)
  obtain ⟨a, y, rfl, e, q⟩ := h
  exact ⟨_, pss_one (ps_osG (pv 0) (pv 1)), _, rfl, _, rfl, a, C, rfl, hC, T.n_BadSpot_value C hm, e, q⟩
theorem ints_inv {H : Hp} : ∀ {l : List Nat} {xs : List V}, DpAll K H xs ((l.map Int.ofNat).map PyData.int) → xs = natV l
  | [], _, .nil => rfl
  | x :: l, _, .cons h t => by
    cases h
    rw [ints_inv t]
    rfl
theorem row_nats {H : Hp} {v : V} {N : Nat} {d : PyData} (h : Dp K H v d) (t : turnD N d = true) : ∃ b, v = .ref b ∧ SqT K H b (natV (natsD d)) ∧ (natsD d).Perm (List.range N) := by
  obtain ⟨e, p⟩ := turn_nats t
  rw [e] at h
  cases h with
  | tup h1 h2 =>
    rw [ints_inv h2] at h1
    exact ⟨_, rfl, h1, p⟩
theorem perm_lt {l : List Nat} {N : Nat} (h : l.Perm (List.range N)) : l.length = N ∧ ∀ x ∈ l, x < N := ⟨by rw [h.length_eq, List.length_range], fun x hx => List.mem_range.mp (h.mem_iff.mp hx)⟩
theorem wrong_form {F : Fld} {d : PyData} (h : formD F.names.length d = false) : wrongD F d = some ("form" : Str) := by
  unfold wrongD
  rw [if_neg (by rw [h]; exact Bool.false_ne_true)]
theorem wrong_else {F : Fld} {ds : List PyData} (h : formD F.names.length (.tuple ds) = true) : wrongD F (.tuple ds) = if allTurn ds = true then (if allChg F ds = true then none else some ("change" : Str)) else some ("turn" : Str) := by
  have e : wrongD F (.tuple ds) = if formD F.names.length (.tuple ds) = true then (if allTurn ds = true then (if allChg F ds = true then none else some ("change" : Str)) else some ("turn" : Str)) else some ("form" : Str) := rfl
  rw [e, if_pos h]
theorem form_inv {k : Nat} {d : PyData} (h : formD k d = true) : ∃ ss rs, d = .tuple (.tuple ss :: rs) ∧ rs.length + 1 = k ∧ 1 ≤ ss.length ∧ ss.length ≤ 2000 := by
  match d, h with
  | .tuple (.tuple ss :: rs), h =>
    have h : (decide (rs.length + 1 = k) && (decide (1 ≤ ss.length) && decide (ss.length ≤ 2000))) = true := h
    rw [Bool.and_eq_true, Bool.and_eq_true] at h
    exact ⟨ss, rs, rfl, of_decide_eq_true h.1, of_decide_eq_true h.2.1, of_decide_eq_true h.2.2⟩
/-- a refusal of a yard -/
def RefY (K : PySem.W.Frag) (mg : Str → Option Value) (H : Hp) (E : XK) (wd : Str) : Prop := ∀ C H' dx, mg "BadYard" = some (.ref C) → ExcC K C → Same H H' → H' dx = some (.xd [("part", .str wd)]) → E (.ref C) (some dx) H'
def OutY (K : PySem.W.Frag) (mg : Str → Option Value) (H : Hp) (Q : VK) (E : XK) (v : V) : Option Str → Prop
  | none => ∀ H', Same H H' → Q v H'
  | some wd => RefY K mg H E wd
def spNeedYard (K : PySem.W.Frag) (mg : Str → Option Value) : Sp := fun vs H Q E => ∃ (a : Addr) (v : V) (F : Fld) (d : PyData), vs = [.ref a, v] ∧ Dp K H (.ref a) (dField F) ∧ F.Ok ∧ Dp K H v d ∧ YSmall d ∧ OutY K mg H Q E v (wrongD F d)
theorem c_need_yard (T : Tx K mg) : Cl P w K mg base (L2.CX P w) 5 "need_yard" (spNeedYard K mg) := by
  refine clX T.d_need_yard (ps := ["field", "yard"]) (fun _ _ _ _ _ _ us hl => match us, hl with | [_, _], _ => rfl) sc_need_yard (fun vs H Q E h => ?_) (fun f cdv A outer st H vs Q E hr h => ?_)
  · obtain ⟨a, v, F, d, rfl, _⟩ := h
    rfl
  · obtain ⟨a, v, F, d, rfl, hF, ok, hd, sm, q⟩ := h
    have nd := sc_need_yard.nd
    have hu := hu_of hr
    have tk : Takes (cxOf (L2.CX P w) P w K mg base ["field", "yard", "names", "pairs", "rows", "row", "one", "other"] "need_yard" (defScope s_need_yard) f cdv A outer st H E) fun cls d _ H => E cls d H := takes_of rfl rfl rfl rfl
    refine ⟨_, (pss_cons (ps_asg (pe_k (c_need_field T) hr (by decide) (by rfl) (pa_cons (pv 0) pa_nil)) (pg_tup rfl (pgs_cons (pg_name (i := 2) nd rfl (.inl rfl)) (pgs_cons (pg_name (i := 3) nd rfl (.inl rfl)) pgs_nil))))
    (pss_cons (ps_if (pt_not (pt_val (pe_k (c_is_yard_form T) hr (by decide) (by rfl) (pa_cons (pv 2) (pa_cons (pv 1) pa_nil))))) (pss_one (ps_rs (K := K) (mg := mg) rfl rfl rfl tk (c_BadYard T) hr (by decide) (by rfl) pe_str)) pss_nil)
    (pss_cons (ps_if (pt_not (pt_val (pe_callB (cr_all rfl) (by rfl) T.b_all (by decide +kernel) (pa_cons (pe_lc (own := [("row", 5)]) (g := (gName 5)) (tt := tYes) (by rfl) nd (pi_tup (pv 1)) (blkOk_by (own := [("row", 5)]) (N := ["field", "yard", "names", "pairs", "rows", "row", "one", "other"]) (sc := defScope s_need_yard) (by decide +kernel)) (fun _ _ _ _ _ => (pg_name (i := 5) nd rfl (by first | exact Or.inl rfl | exact Or.inr rfl))) (fun _ _ _ _ _ => pts_nil) (fun _ _ _ _ _ => (pe_k (c_is_turn T) hr (by decide) (by rfl) (pa_cons (pv 5) (pa_cons (pe_lenSk (K := K) rfl (by rfl) T.b_len (pe_ix (ixk_tup (K := K) rfl) (pv 1) pe_int (fun _ _ => rfl))) pa_nil))))) pa_nil)))) (pss_one (ps_rs (K := K) (mg := mg) rfl rfl rfl tk (c_BadYard T) hr (by decide) (by rfl) pe_str)) pss_nil)
    (pss_cons (ps_set (i := 4) nd rfl (.inr rfl) (pe_dictZip (K := K) rfl rfl (by rfl) T.b_dict (by rfl) T.b_zip (pa_cons (pv 2) (pa_cons (pv 1) pa_nil))))
    (pss_cons (ps_if (pt_not (pt_val (pe_callB (cr_all rfl) (by rfl) T.b_all (by decide +kernel) (pa_cons (pe_lc (own := [("one", 6), ("other", 7)]) (g := (gTup K 2 (gCons (gName 6) (gCons (gName 7) gNil)))) (tt := tYes) (by rfl) nd (pi_tup (pv 3)) (blkOk_by (own := [("one", 6), ("other", 7)]) (N := ["field", "yard", "names", "pairs", "rows", "row", "one", "other"]) (sc := defScope s_need_yard) (by decide +kernel)) (fun _ _ _ _ _ => (pg_tup rfl (pgs_cons (pg_name (i := 6) nd rfl (by first | exact Or.inl rfl | exact Or.inr rfl)) (pgs_cons (pg_name (i := 7) nd rfl (by first | exact Or.inl rfl | exact Or.inr rfl)) pgs_nil)))) (fun _ _ _ _ _ => pts_nil) (fun _ _ _ _ _ => (pe_k (c_do_change_places T) hr (by decide) (by rfl) (pa_cons (pe_dget hu (pv 4) (pv 6) (fun _ _ => rfl)) (pa_cons (pe_dget hu (pv 4) (pv 7) (fun _ _ => rfl)) pa_nil))))) pa_nil)))) (pss_one (ps_rs (K := K) (mg := mg) rfl rfl rfl tk (c_BadYard T) hr (by decide) (by rfl) pe_str)) pss_nil)
    (pss_one (ps_ret (pv 1)))))))), ?_⟩
    --@
    refine ⟨_, rfl, a, F, rfl, hF, ok, fun H1 s1 => ?_⟩
    obtain ⟨_, n, p, ps, e, hA, hN, hP, hD⟩ := (tF hF s1).field
    cases e
    have hd1 := Dp.sm s1 _ hd
    refine ⟨a, _, rfl, hA, rfl, _, _, rfl, _, _, rfl, rfl, ?_⟩
    refine ⟨_, rfl, _, rfl, n, v, F.names, d, rfl, hN, ok.n0, hd1, _, rfl, ?_⟩
    cases hf : formD F.names.length d with
    | false =>
      rw [wrong_form hf] at q
      have q : RefY K mg H E "form" := q
      exact iteT (mk_at fun C H5 dx hC hT s5 ed => q C H5 dx hC hT (s1.trans s5) ed)
    | true =>
      obtain ⟨ss, rs, rfl, hl, n1, n2⟩ := form_inv hf
      rw [wrong_else hf] at q
      have smr := (sm _ rfl).2
      have lds : (PyData.tuple ss :: rs).length = F.names.length := hl
      have ht0 : allTurn (.tuple ss :: rs) = (PyData.tuple ss :: rs).all (turnD ss.length) := rfl
      have hf6 := ok.n6
      obtain ⟨o, os, ev, hS, hV⟩ : ∃ o os, v = .ref o ∧ SqT K H1 o os ∧ DpAll K H1 os (.tuple ss :: rs) := by
        cases hd1 with
        | tup h1 h2 => exact ⟨_, _, rfl, h1, h2⟩
      subst ev
      have los := hV.len
      obtain ⟨d0, g0, p0⟩ : ∃ v0, os[0]? = some v0 ∧ Dp K H1 v0 (.tuple ss) := by
        cases hV with
        | cons h t => exact ⟨_, rfl, h⟩
      obtain ⟨o0, os0, ev, hS0, hl0⟩ : ∃ o0 os0, d0 = .ref o0 ∧ SqT K H1 o0 os0 ∧ os0.length = ss.length := by
        cases p0 with
        | tup h1 h2 => exact ⟨_, _, rfl, h1, h2.len⟩
      subst ev
      generalize (PyData.tuple ss :: rs) = ds at q smr lds ht0 hV los hd
      refine iteF ⟨_, rfl, o, rfl, ⟨_, hS⟩, fun D nD => ?_⟩
      refine lc_it (walk_tup (xs := os)) (fun i H' => H' D = some (.lst (((ds.take i).map (turnD ss.length)).map V.bl)) ∧ Same H1 H') ⟨upd_same, same_upd nD⟩ (fun _ _ _ ⟨_, s'⟩ => (Tk.of s').sqT hS) (fun i x H2 H3 hi ⟨eD, s'⟩ hy => ?_) (fun H2 ⟨eD, s'⟩ => ?_)
      · obtain ⟨rfl, hx⟩ := hy
        obtain ⟨d1, k1, p1⟩ := hV.get hx
        refine ⟨rfl, yes_ ⟨_, rfl, _, rfl, o, _, _, _, rfl, rfl, (Tk.of s').sqT hS, at_of (j := 0) rfl g0, o0, os0, rfl, .inr ((Tk.of s').sqT hS0), x, os0.length, d1, rfl, Dp.sm s' _ p1, by omega, smr _ (List.mem_of_getElem? k1), fun H4 s4 => ?_⟩⟩
        rw [hl0]
        refine ⟨_, s4 _ _ eD, ?_, ?_, same_put (s'.trans s4) nD⟩
        · rw [List.length_map, List.length_map, List.length_take, sizeLine_eq]
          omega
        · rw [upd_same, take_snoc k1, List.map_append, List.map_append]
          rfl
      · rw [los, List.take_length] at eD
        refine ⟨D, ds.map (turnD ss.length), rfl, SqL.of eD, ?_⟩
        have ea : (ds.map (turnD ss.length)).all id = allTurn ds := by
          rw [ht0, List.all_map]
          rfl
        rw [ea]
        refine ⟨_, rfl, ?_⟩
        cases hat : allTurn ds with
        | false =>
          rw [hat, if_neg Bool.false_ne_true] at q
          have q : RefY K mg H E "turn" := q
          exact iteT (mk_at fun C H5 dx hC hT s5 ed => q C H5 dx hC hT (s1.trans (s'.trans s5)) ed)
        | true =>
          rw [hat, if_pos rfl] at q
          rw [ht0, List.all_eq_true] at hat
          refine iteF ?_
          have hP2 := (Tk.of s').sqT hP
          have hS2 := (Tk.of s').sqT hS
          have hV2 := DpAll.sm s' _ hV
          refine ⟨_, rfl, _, rfl, n, o, F.names, os, rfl, (Tk.of s').sqT hN, hS2, by omega, fun R nR => upd_gen nR fun H5 s5 e5 => ?_⟩
          have row : ∀ m, m ∈ F.names → ∃ b : Addr, valV (mergeK [] ((F.names.map Sum.inr).zip os)) (Sum.inr m) = some (.ref b) ∧ SqT K H5 b (natV (rowI F ds m)) ∧ (rowI F ds m).Perm (List.range ss.length) := fun m hm => by
            obtain ⟨ilt, iat⟩ := idx_lt hm
            have gd : ds[idxN F m]? = some ds[idxN F m] := List.getElem?_eq_getElem (by omega)
            have go : os[idxN F m]? = some os[idxN F m] := List.getElem?_eq_getElem (by omega)
            obtain ⟨d1, k1, p1⟩ := hV2.get go
            obtain ⟨b, eb, hb, pb⟩ := row_nats p1 (hat _ (List.mem_of_getElem? k1))
            have er : rowI F ds m = natsD d1 := by
              unfold rowI
              rw [List.getD_eq_getElem?_getD, k1]
              rfl
            refine ⟨b, ?_, ?_, ?_⟩
            · rw [valV_zip ok.pw iat go, eb]
            · rw [er]
              exact (Tk.of s5).sqT hb
            · rw [er]
              exact pb
          have dg : ∀ {H' : Hp} {m : Str} {y : V}, Same H5 H' → valV (mergeK [] ((F.names.map Sum.inr).zip os)) (Sum.inr m) = some y → DGet H' R (.str m) (some y) := fun {H' m y} sx e => by
            have g := DGet.k (k := Sum.inr m) (sx _ _ e5)
            rw [e] at g
            exact g
          have hP5 := (Tk.of s5).sqT hP2
          have hD5 := DpAll.sm (s'.trans s5) _ hD
          have lps := hD.len
          rw [List.length_map] at lps
          have hlen := ok.len
          refine ⟨_, rfl, p, rfl, ⟨_, hP5⟩, fun D2 nD2 => ?_⟩
          refine lc_it (walk_tup (xs := ps)) (fun i H' => H' D2 = some (.lst (((F.pairs.take i).map fun p => chgD (rowI F ds p.1) (rowI F ds p.2)).map V.bl)) ∧ Same H5 H') ⟨upd_same, same_upd nD2⟩ (fun _ _ _ ⟨_, s''⟩ => (Tk.of s'').sqT hP5) (fun i x H6 H7 hi ⟨eD2, s''⟩ hy => ?_) (fun H6 ⟨eD2, s''⟩ => ?_)
          · obtain ⟨rfl, hx⟩ := hy
            obtain ⟨d1, k1, p1⟩ := hD5.get hx
            rw [List.getElem?_map] at k1
            obtain ⟨pr, kp, rfl⟩ := Option.map_eq_some_iff.mp k1
            obtain ⟨m1, m2⟩ := ok.inN pr (List.mem_of_getElem? kp)
            obtain ⟨b1, g1, r1, q1⟩ := row _ m1
            obtain ⟨b2, g2, r2, q2⟩ := row _ m2
            have p6 := Dp.sm s'' _ p1
            cases p6 with
            | tup hT hTV =>
            cases hTV with
            | cons hx1 hTV =>
            cases hTV with
            | cons hx2 hTV =>
            cases hTV
            cases hx1
            cases hx2
            have u1 := perm_lt q1
            have u2 := perm_lt q2
            refine ⟨_, _, rfl, hT, rfl, _, _, rfl, _, _, rfl, rfl, rfl, yes_ ⟨_, rfl, _, rfl, R, _, rfl, dg s'' g1, _, rfl, _, rfl, R, _, rfl, dg s'' g2, b1, b2, _, _, ss.length, rfl, (Tk.of s'').sqT r1, (Tk.of s'').sqT r2, u1.1, u2.1, u1.2, u2.2, n2, fun H8 s8 => ?_⟩⟩
            refine ⟨_, s8 _ _ eD2, ?_, ?_, same_put (s''.trans s8) nD2⟩
            · rw [List.length_map, List.length_map, List.length_take, sizeLine_eq]
              omega
            · rw [upd_same, take_snoc kp, List.map_append, List.map_append]
              rfl
          · rw [lps, List.take_length] at eD2
            refine ⟨D2, _, rfl, SqL.of eD2, ?_⟩
            have ea2 : (F.pairs.map fun p => chgD (rowI F ds p.1) (rowI F ds p.2)).all id = allChg F ds := by
              unfold allChg
              rw [List.all_map]
              rfl
            rw [ea2]
            refine ⟨_, rfl, ?_⟩
            have s16 := s1.trans (s'.trans (s5.trans s''))
            cases hac : allChg F ds with
            | false =>
              rw [hac, if_neg Bool.false_ne_true] at q
              have q : RefY K mg H E "change" := q
              exact iteT (mk_at fun C H9 dx hC hT s9 ed => q C H9 dx hC hT (s16.trans s9) ed)
            | true =>
              rw [hac, if_pos rfl] at q
              exact iteF ⟨_, rfl, q H6 s16⟩
end
end XB
set_option Elab.async false
set_option linter.all false
set_option maxRecDepth 100000
set_option maxHeartbeats 4000000
/-! tuple * int, the empty tuple too -/
namespace XB
open PySem PySem.Spec PyProof.Rows L2
theorem tuple_mul0 (l : Addr) (n : Nat) (dd : Option Addr) (sl : Array (Option Value)) (x : Int) (u : Tok) (c0 : (decide (x < -(2 ^ 63)) || decide (x ≥ 2 ^ 63)) = false) :
    Meets (Builtin.«tuple.__mul__» ⟨[.ref l, .int x u], []⟩) (fun _ R s => s.heap.get? l = some { cls := .type "tuple", dict := dd, data := .seq #[] n, slots := sl } ∧ R (.ok (.ret (Value.ref l))) s) :=
  .of_wp fun prog w A R s h => by
    obtain ⟨hp, g, d, tk, os⟩ := s
    obtain ⟨hl, h⟩ := h
    have f1 := AutoSeq1.idx_int
    wp_walk using wpAny_loadPart' hl
    repeat (first
      | (refine wpAny_ite_false (decide_eq_false (by rw [c0]; exact Bool.false_ne_true)) ?_; wp_walk using wpAny_loadPart' hl))
    exact ⟨_, rfl, h⟩
def rMulT (K : PySem.W.Frag) : R2 := fun x y H Q => ∃ l k xs, x = .ref l ∧ y = .int k ∧ SqT K H l xs ∧ 2 ≤ k ∧ k ≤ 1000 ∧ xs.length ≤ 1000 ∧ ∀ H' p, Same H H' → SqT K H' p (List.replicate k.toNat xs).flatten → Q (.ref p) H'
theorem op_mulT {X : Cx} {K : PySem.W.Frag} (hk : X.K = K) : OpR X (binaryOp .Mult) (rMulT K) := by
  subst hk
  intro pins s σ H x y v u Q I rx ry h
  obtain ⟨l, k, xs, rfl, rfl, hT, h1, h2, hz, q⟩ := h
  by_cases hne : xs = []
  · subst hne
    have hT' := hT
    cases rx
    obtain ⟨t, rfl⟩ := ry
    obtain ⟨its, r, ⟨⟨cls, dd, data, sl⟩, ho, hc, n, hd⟩, hs⟩ := I.tuple hT
    simp only at hc hd
    subst hc hd
    have hn : its = [] := List.eq_nil_of_length_eq_zero r.length.symm
    subst hn
    have c0 : (decide (k < -(2 ^ 63)) || decide (k ≥ 2 ^ 63)) = false := by
      rw [decide_eq_false (by omega), decide_eq_false (by omega)] <;> rfl
    refine wpAny_binaryOp_repeat_ref (T := "tuple") (U := "int") (by decide) ⟨_, ho, rfl⟩ (fun s' => typeIs_int s' k t) noFill_tuple_mul F.fills_int_mul F.slot_int_rmul repeat_tuple F.slot_int_index.lookup
      (call_meets F.slot_int_rmul (typeIs_int s k t) F.entry_int_rmul (F.args_int_rmul_2 _ _) (int_rmul_tuple k t l [].toArray n dd sl)
        ⟨ho, rfl, ⟨_, ho, rfl⟩, call_meets F.slot_tuple_mul ⟨_, ho, rfl⟩ F.entry_tuple_mul (F.args_tuple_mul_2 _ _) (tuple_mul0 l n dd sl k t c0) ⟨ho, ?_⟩⟩)
    refine ⟨.ref l, H, I, rfl, q H l (Same.refl _) ?_⟩
    have e : (List.replicate k.toNat ([] : List V)).flatten = [] := by
      rw [List.flatten_replicate_nil]
    rw [e]
    exact hT'
  · exact op_repT pins s σ H _ _ v u Q I rx ry ⟨l, k, xs, rfl, rfl, hT, hne, h1, h2, hz, fun p hp => q _ p (same_upd hp) (SqT.of upd_same)⟩
end XB
set_option Elab.async false
set_option linter.all false
set_option maxRecDepth 100000
set_option maxHeartbeats 4000000
/-! the head of a law whose promise holds where no repr runs around -/
namespace XB
open PySem PySem.Spec PyProof.Rows L2
section
variable {P : Program} {w : World} {K : PySem.W.Frag} {mg mb : Str → Option Value} {k : Nat} {fa a : Addr} {fd : FuncData} {x : Str} {sp : Sp} {st : Shared} {vs : List Value} {ns : List Int}
def scriptO (vs : List Value) : Obj := { cls := .type "list", data := .seq vs.toArray }
theorem end_g (kin : K.In st.heap) (gl : st.heap.Ns mainGlobals mg) (bl : st.heap.Ns builtinsNs mb) (bb : ∀ y : Str, y ≠ "__name__" → mb y = bootBuiltins y) (nl : st.heap.NoLimit) (ge : st.gens = #[])
    (at_ : st.heap.get? a = some (scriptO vs)) (whl : IntsAre vs ns) (short : ns.length ≤ sizeLine) (room : Room k callerA)
    (prom : ∀ base : Heap, K.In base → base.Ns mainGlobals mg → FnG P w K mg base CX0 k fa fd [x] sp) (bnd : ∀ (s : Shared) (u : Value), BindsTo s fd ⟨[u], []⟩ [(x, u)])
    (holds : ∀ H : Hp, SqL K H a (ns.map V.int) → sp [.ref a] H (fun v _ => v = .bl true) fun _ _ _ => False) :
    codeAny (model P w) callerA (.call (.ref fa) ⟨[.ref a], []⟩) (fun r t => r = .ok (.ret (.bool true)) ∧ OldK st.heap t.heap ∧ t.os = st.os ∧ AllBare t.gens) st := by
  have hv := vals_ints whl
  obtain ⟨G, hG⟩ : ∃ G : Hp, ∀ b, G b = if b = a ∧ (K.lookup a).isNone = true then some (.frz (scriptO vs) (.lst (ns.map V.int))) else none := ⟨fun b => if b = a ∧ (K.lookup a).isNone = true then _ else none, fun _ => rfl⟩
  have only : ∀ b u, G b = some u → b = a ∧ K.lookup a = none ∧ u = .frz (scriptO vs) (.lst (ns.map V.int)) := fun b u q => by
    rw [hG] at q
    by_cases c : b = a ∧ (K.lookup a).isNone = true
    · rw [if_pos c] at q
      exact ⟨c.1, by simpa using c.2, (Option.some.inj q).symm⟩
    · rw [if_neg c] at q
      cases q
  have row : SqL K G a (ns.map V.int) := by
    cases q : K.lookup a with
    | none => exact .inl (.inr ⟨scriptO vs, by rw [hG, if_pos ⟨rfl, by rw [q]; rfl⟩]⟩)
    | some o =>
      have q2 := kin a o q
      rw [at_] at q2
      have q3 : o = scriptO vs := (Option.some.inj q2).symm
      subst q3
      exact .inr ⟨_, vs.toArray, _, q, rfl, rfl, rfl, by rw [List.size_toArray, whl.length]; exact short, by simpa using hv⟩
  have sound : HOk P w G st.heap := fun b u q => by
    obtain ⟨rfl, _, rfl⟩ := only b u q
    exact ⟨at_, by rw [List.length_map]; exact short, vs, 0, hv, at_⟩
  have stays : ∀ {b : Addr} {o : Obj}, st.heap.get? b = some o → (b = a → o ≠ scriptO vs ∨ ∃ u, K.lookup a = some u) → (hidT st.heap G).get? b = some o := fun {b o} q c => by
    refine hidT_get q ?_
    cases g : G b with
    | none => rfl
    | some u =>
      obtain ⟨e1, e2, _⟩ := only b u g
      rcases c e1 with z | ⟨u', z⟩
      · rw [e1, at_] at q
        exact absurd (Option.some.inj q).symm z
      · rw [e2] at z
        cases z
  have names : ∀ {b : Addr} {f : Str → Option Value}, st.heap.Ns b f → (hidT st.heap G).Ns b f := fun {b f} h => by
    obtain ⟨o, es, ep, q, d, r⟩ := h
    refine ⟨o, es, ep, stays q fun _ => .inl fun z => ?_, d, r⟩
    rw [z] at d
    have d : Data.seq vs.toArray _ = Data.dict es ep := d
    cases d
  have kin' : K.In (hidT st.heap G) := fun b o q => stays (kin b o q) fun e => .inr ⟨o, by rw [← e]; exact q⟩
  have md : Mod K mg (hidT st.heap G) := ⟨kin', names gl, ⟨mb, names bl, bb⟩, by obtain ⟨mc, n1, n2⟩ := nl; exact ⟨mc, names n1, n2⟩⟩
  have none_in : ∀ {b : Addr}, b ∉ ([] : List Addr) := fun {b} z => by cases z
  have e0 : Env0 P w K mg (hidT st.heap G) callerA [] st G := { frames := rfl, mod := md, bs := fun _ _ q => of_hidT q, bsz := Nat.le_of_eq (hidT_size _ _), funs := trivial, frf := fun b z => absurd (show b ∈ ([] : List Addr) from z) none_in, hok := sound, bare := .of_eq ge }
  have ran := (prom _ kin' (names gl)).goes (A := callerA) (outer := []) (Q := fun v _ => v = .bl true) (E := fun _ _ _ => False) (args := ⟨[.ref a], []⟩) (us := [.ref a]) (vs := [.ref a]) rfl room e0 (bnd st (.ref a)) (.cons (show Value.ref a = Value.ref a from rfl) .nil) (holds G row)
  refine codeAny_mono ran ?_
  intro r t q
  match r, q with
  | .ok (.ret u), q =>
    obtain ⟨v, G', e1, e2, un, ok', rv, ev⟩ := q
    have ev : v = .bl true := ev
    subst ev
    have eu : u = Value.bool true := rv
    rw [eu]
    refine ⟨rfl, OldK.of_keep fun b o hb => ?_, e1, e2⟩
    cases g : G b with
    | none => exact un.keep b o hb g (fun z => absurd (show b ∈ ([] : List Addr) from z) none_in) none_in
    | some y =>
      obtain ⟨_, _, rfl⟩ := only b y g
      have c1 := (sound b _ g).1
      have c2 := (ok' b _ (un.frzs b _ _ g)).1
      rw [hb] at c1
      rw [c2, ← c1]
  | .ok .next, q => exact False.elim q
  | .ok .brk, q => exact False.elim q
  | .ok .cont, q => exact False.elim q
  | .error _, q => exact False.elim q
theorem walk_g {l : PySem.W.OpenLaw} {n k : Nat} {q : Program} {loose : List Str} {XP : (Str → Option Value) → Heap → Prop} {YP : World → Heap → Prop} {d : DefRec} {K : Params → PySem.W.Frag} {sp : PySem.W.Frag → Sp} {x : Str}
    (most : l.most = some n) (fits : n ≤ sizeLine) (plain : d.params.defaults = []) (room : Room k callerA) (inn : ∀ (w : World) (h : Heap), YP w h → (K w.params).In h)
    (prom : ∀ (w : World) (mg : Str → Option Value) (fa : Addr) (h : Heap), (K w.params).In h → h.Ns mainGlobals mg → mg d.name = some (.ref fa) →
      ∃ fd : FuncData, (∀ (s : Shared) (u : Value), BindsTo s fd ⟨[u], []⟩ [(x, u)]) ∧ ∀ base : Heap, (K w.params).In base → base.Ns mainGlobals mg → FnG l.prog w (K w.params) mg base CX0 k fa fd [x] (sp (K w.params)))
    (holds : ∀ (K : PySem.W.Frag) (H : Hp) (a : Addr) (ns : List Int), ns.length ≤ n → SqL K H a (ns.map V.int) → sp K [.ref a] H (fun v _ => v = .bl true) fun _ _ _ => False) : PySem.W.WalkO q loose XP YP l.row.toRowW d [] (fun f vs => PySem.call f vs) := by
  refine Att.attach_call most plain fun w s0 st mg mb fa o pm cd doc a vs ns gg y ho hd hcd hmg hobj hints hlen hgen => ?_
  have kin := inn w _ y
  obtain ⟨fd, b, pr⟩ := prom w mg fa _ kin gg.T.g hmg
  exact end_g kin gg.T.g gg.T.b gg.T.builtins gg.T.nolimit hgen hobj hints (Nat.le_trans hlen fits) room pr b fun H s => holds _ H a ns hlen s
/-- the same, with what the head tells of the globals beside the written part -/
theorem walk_gX {TX : (Str → Option Value) → Prop} {l : PySem.W.OpenLaw} {n k : Nat} {q : Program} {loose : List Str} {XP : (Str → Option Value) → Heap → Prop} {YP : World → Heap → Prop} {d : DefRec} {K : Params → PySem.W.Frag} {sp : PySem.W.Frag → Sp} {x : Str}
    (most : l.most = some n) (fits : n ≤ sizeLine) (plain : d.params.defaults = []) (room : Room k callerA) (told : ∀ (mg : Str → Option Value) (h : Heap), XP mg h → TX mg) (inn : ∀ (w : World) (h : Heap), YP w h → (K w.params).In h)
    (prom : ∀ (w : World) (mg : Str → Option Value) (fa : Addr) (h : Heap), (K w.params).In h → h.Ns mainGlobals mg → mg d.name = some (.ref fa) → TX mg →
      ∃ fd : FuncData, (∀ (s : Shared) (u : Value), BindsTo s fd ⟨[u], []⟩ [(x, u)]) ∧ ∀ base : Heap, (K w.params).In base → base.Ns mainGlobals mg → FnG l.prog w (K w.params) mg base CX0 k fa fd [x] (sp (K w.params)))
    (holds : ∀ (K : PySem.W.Frag) (H : Hp) (a : Addr) (ns : List Int), ns.length ≤ n → SqL K H a (ns.map V.int) → sp K [.ref a] H (fun v _ => v = .bl true) fun _ _ _ => False) : PySem.W.WalkO q loose XP YP l.row.toRowW d [] (fun f vs => PySem.call f vs) := by
  refine Att.attach_call most plain fun w s0 st mg mb fa o pm cd doc a vs ns gg y ho hd hcd hmg hobj hints hlen hgen => ?_
  have kin := inn w _ y
  obtain ⟨fd, b, pr⟩ := prom w mg fa _ kin gg.T.g hmg (told _ _ gg.X)
  exact end_g kin gg.T.g gg.T.b gg.T.builtins gg.T.nolimit hgen hobj hints (Nat.le_trans hlen fits) room pr b fun H s => holds _ H a ns hlen s
end
end XB
set_option Elab.async false
set_option linter.all false
set_option maxRecDepth 100000
set_option maxHeartbeats 4000000
/-! the head of a law whose defs make lambdas: what their code objects keep of them is told, too -/
namespace XB
open PySem PySem.Spec PyProof.Rows L2
/-- the code objects of some defs of the module, each with its table -/
def tabsOf (K : PySem.W.Frag) (xs : List Str) : List (Addr × Addr) := xs.filterMap (PySem.W.tabIn K)
section
variable {P : Program} {w : World} {K : PySem.W.Frag} {mg mb : Str → Option Value} {k : Nat} {fa a : Addr} {fd : FuncData} {x : Str} {sp : Sp} {st : Shared} {vs : List Value} {ns : List Int}
theorem end_gT {ts : List (Addr × Addr)} (kin : K.In st.heap) (gl : st.heap.Ns mainGlobals mg) (bl : st.heap.Ns builtinsNs mb) (bb : ∀ y : Str, y ≠ "__name__" → mb y = bootBuiltins y) (nl : st.heap.NoLimit) (ge : st.gens = #[])
    (empty : ∀ t ∈ ts, st.heap.get? t.2 = some (PySem.W.tabObj #[])) (out : ∀ t ∈ ts, K.lookup t.2 = none) (heads : ∀ t ∈ ts, PySem.W.CodeHd st.heap t.1 t.2)
    (bm : ∃ (b : Addr) (o : Obj), mg "__builtins__" = some (.ref b) ∧ b ≠ builtinsNs ∧ st.heap.get? b = some o ∧ o.cls = .type "module" ∧ o.dict = some builtinsNs ∧ o.data = .plain)
    (at_ : st.heap.get? a = some (scriptO vs)) (whl : IntsAre vs ns) (short : ns.length ≤ sizeLine) (room : Room k callerA)
    (prom : ∀ base : Heap, K.In base → base.Ns mainGlobals mg → (∀ t ∈ ts, LamX.TabB base mg t.1 t.2) → FnG P w K mg base CX0 k fa fd [x] sp) (bnd : ∀ (s : Shared) (u : Value), BindsTo s fd ⟨[u], []⟩ [(x, u)])
    (holds : ∀ H : Hp, (∀ t ∈ ts, H t.2 = some (.tbl #[])) → SqL K H a (ns.map V.int) → sp [.ref a] H (fun v _ => v = .bl true) fun _ _ _ => False) :
    codeAny (model P w) callerA (.call (.ref fa) ⟨[.ref a], []⟩) (fun r t => r = .ok (.ret (.bool true)) ∧ OldK st.heap t.heap ∧ t.os = st.os ∧ AllBare t.gens) st := by
  have hv := vals_ints whl
  have notT : ∀ t ∈ ts, t.2 ≠ a := fun t ht z => by
    have q := empty t ht
    rw [z, at_] at q
    have q2 : (scriptO vs).data = (PySem.W.tabObj #[]).data := congrArg Obj.data (Option.some.inj q)
    have q3 : Data.seq vs.toArray _ = Data.fields #[] := q2
    cases q3
  obtain ⟨G, hG⟩ : ∃ G : Hp, ∀ b, G b = if b = a ∧ (K.lookup a).isNone = true then some (.frz (scriptO vs) (.lst (ns.map V.int))) else if (ts.any fun t => t.2 == b) = true then some (.tbl #[]) else none := ⟨fun b => if b = a ∧ (K.lookup a).isNone = true then _ else if (ts.any fun t => t.2 == b) = true then _ else none, fun _ => rfl⟩
  have only : ∀ b u, G b = some u → (b = a ∧ K.lookup a = none ∧ u = .frz (scriptO vs) (.lst (ns.map V.int))) ∨ ((∃ t ∈ ts, t.2 = b) ∧ u = .tbl #[]) := fun b u q => by
    rw [hG] at q
    by_cases c : b = a ∧ (K.lookup a).isNone = true
    · rw [if_pos c] at q
      exact .inl ⟨c.1, by simpa using c.2, (Option.some.inj q).symm⟩
    · rw [if_neg c] at q
      by_cases d : (ts.any fun t => t.2 == b) = true
      · rw [if_pos d] at q
        obtain ⟨t, ht, e⟩ := List.any_eq_true.mp d
        exact .inr ⟨⟨t, ht, eq_of_beq e⟩, (Option.some.inj q).symm⟩
      · rw [if_neg d] at q
        cases q
  have tbls : ∀ t ∈ ts, G t.2 = some (.tbl #[]) := fun t ht => by
    have here : (ts.any fun u => u.2 == t.2) = true := List.any_eq_true.mpr ⟨t, ht, beq_self_eq_true _⟩
    rw [hG, if_neg fun z => notT t ht z.1, if_pos here]
  have row : SqL K G a (ns.map V.int) := by
    cases q : K.lookup a with
    | none => exact .inl (.inr ⟨scriptO vs, by rw [hG, if_pos ⟨rfl, by rw [q]; rfl⟩]⟩)
    | some o =>
      have q2 := kin a o q
      rw [at_] at q2
      have q3 : o = scriptO vs := (Option.some.inj q2).symm
      subst q3
      exact .inr ⟨_, vs.toArray, _, q, rfl, rfl, rfl, by rw [List.size_toArray, whl.length]; exact short, by simpa using hv⟩
  have sound : HOk P w G st.heap := fun b u q => by
    rcases only b u q with ⟨rfl, _, rfl⟩ | ⟨⟨t, ht, rfl⟩, rfl⟩
    · exact ⟨at_, by rw [List.length_map]; exact short, vs, 0, hv, at_⟩
    · exact empty t ht
  have stays : ∀ {b : Addr} {o : Obj}, st.heap.get? b = some o → (b = a → o ≠ scriptO vs ∨ ∃ u, K.lookup a = some u) → ((∃ t ∈ ts, t.2 = b) → o ≠ PySem.W.tabObj #[]) → (hidT st.heap G).get? b = some o := fun {b o} q c d => by
    refine hidT_get q ?_
    cases g : G b with
    | none => rfl
    | some u =>
      rcases only b u g with ⟨e1, e2, _⟩ | ⟨⟨t, ht, e1⟩, _⟩
      · rcases c e1 with z | ⟨u', z⟩
        · rw [e1, at_] at q
          exact absurd (Option.some.inj q).symm z
        · rw [e2] at z
          cases z
      · have q2 := empty t ht
        rw [e1, q] at q2
        exact absurd (Option.some.inj q2) (d ⟨t, ht, e1⟩)
  have plain : ∀ {b : Addr} {o : Obj}, st.heap.get? b = some o → (∀ l n, o.data ≠ .seq l n) → o.data ≠ .fields #[] → (hidT st.heap G).get? b = some o := fun {b o} q c d => stays q (fun _ => .inl fun z => by subst z; exact c _ _ rfl) fun _ z => by subst z; exact d rfl
  have names : ∀ {b : Addr} {f : Str → Option Value}, st.heap.Ns b f → (hidT st.heap G).Ns b f := fun {b f} h => by
    obtain ⟨o, es, ep, q, d, r⟩ := h
    refine ⟨o, es, ep, plain q (fun l n z => ?_) (fun z => ?_), d, r⟩ <;> (rw [d] at z; cases z)
  have kin' : K.In (hidT st.heap G) := fun b o q => stays (kin b o q) (fun e => .inr ⟨o, by rw [← e]; exact q⟩) fun ⟨t, ht, e⟩ _ => by
    have n := out t ht
    rw [e, q] at n
    cases n
  have md : Mod K mg (hidT st.heap G) := ⟨kin', names gl, ⟨mb, names bl, bb⟩, by obtain ⟨mc, n1, n2⟩ := nl; exact ⟨mc, names n1, n2⟩⟩
  have heads' : ∀ t ∈ ts, LamX.TabB (hidT st.heap G) mg t.1 t.2 := fun t ht => by
    refine ⟨?_, ?_, fun z => ?_⟩
    · obtain ⟨co, cv, f1, f2, f3, f4, f5, f6, f7, g0, g1, g2, g3, g4, g5, g6, g7, g8, g9⟩ := heads t ht
      refine ⟨co, cv, f1, f2, f3, f4, f5, f6, f7, plain g0 (fun l n z => ?_) (fun z => ?_), g1, g2, g3, g4, g5, g6, g7, g8, g9⟩
      · rw [g2] at z
        cases z
      · rw [g2] at z
        cases z
        simp at g3
    · obtain ⟨b, o, b1, b2, b3, b4, b5, b6⟩ := bm
      refine ⟨b, o, b1, b2, fun z => ?_, fun z => ?_, plain b3 (fun l n z => ?_) (fun z => ?_), b4, b5, b6⟩
      · obtain ⟨o2, es, ep, q, d, _⟩ := gl
        rw [z, q] at b3
        cases b3
        rw [d] at b6
        cases b6
      · have q := empty t ht
        rw [← z, b3] at q
        cases q
        cases b6
      · rw [b6] at z
        cases z
      · rw [b6] at z
        cases z
    · obtain ⟨o2, es, ep, q, d, _⟩ := gl
      have q2 := empty t ht
      rw [← z, q] at q2
      cases q2
      cases d
  have none_in : ∀ {b : Addr}, b ∉ ([] : List Addr) := fun {b} z => by cases z
  have e0 : Env0 P w K mg (hidT st.heap G) callerA [] st G := { frames := rfl, mod := md, bs := fun _ _ q => of_hidT q, bsz := Nat.le_of_eq (hidT_size _ _), funs := trivial, frf := fun b z => absurd (show b ∈ ([] : List Addr) from z) none_in, hok := sound, bare := .of_eq ge }
  have ran := (prom _ kin' (names gl) heads').goes (A := callerA) (outer := []) (Q := fun v _ => v = .bl true) (E := fun _ _ _ => False) (args := ⟨[.ref a], []⟩) (us := [.ref a]) (vs := [.ref a]) rfl room e0 (bnd st (.ref a)) (.cons (show Value.ref a = Value.ref a from rfl) .nil) (holds G tbls row)
  refine codeAny_mono ran ?_
  intro r t q
  match r, q with
  | .ok (.ret u), q =>
    obtain ⟨v, G', e1, e2, un, ok', rv, ev⟩ := q
    have ev : v = .bl true := ev
    subst ev
    have eu : u = Value.bool true := rv
    rw [eu]
    have kept : ∀ b o, (∀ y ∈ ts, y.2 ≠ b) → st.heap.get? b = some o → t.heap.get? b = some o := fun b o nb hb => by
      cases g : G b with
      | none => exact un.keep b o hb g (fun z => absurd (show b ∈ ([] : List Addr) from z) none_in) none_in
      | some y =>
        rcases only b y g with ⟨_, _, rfl⟩ | ⟨⟨y2, hy, e⟩, _⟩
        · have c1 := (sound b _ g).1
          have c2 := (ok' b _ (un.frzs b _ _ g)).1
          rw [hb] at c1
          rw [c2, ← c1]
        · exact absurd e (nb y2 hy)
    have grew : ∀ y ∈ ts, ∃ more : Array Value, t.heap.get? y.2 = some (PySem.W.tabObj more) := fun y hy => by
      obtain ⟨more, z⟩ := un.tbls y.2 #[] (tbls y hy)
      exact ⟨_, ok' y.2 _ z⟩
    refine ⟨rfl, ⟨fun b o hb => ?_, fun b o hb => ?_⟩, e1, e2⟩
    · rcases Classical.em (∃ y ∈ ts, y.2 = b) with ⟨y, hy, rfl⟩ | h
      · obtain ⟨more, hm⟩ := grew y hy
        have q := empty y hy
        rw [q] at hb
        cases hb
        exact .inr (.inl ⟨((heads y hy).tab q).isCodeTable, rfl, #[], more, rfl, by rw [Array.empty_append]; exact hm⟩)
      · exact .inl (kept b o (fun y hy e => h ⟨y, hy, e⟩) hb)
    · rcases Classical.em (∃ y ∈ ts, y.2 = b) with ⟨y, hy, rfl⟩ | h
      · obtain ⟨more, hm⟩ := grew y hy
        exact ⟨_, hm⟩
      · exact ⟨o, kept b o (fun y hy e => h ⟨y, hy, e⟩) hb⟩
  | .ok .next, q => exact False.elim q
  | .ok .brk, q => exact False.elim q
  | .ok .cont, q => exact False.elim q
  | .error _, q => exact False.elim q
/-- the walk to the law, with the tables of the defs that make lambdas -/
theorem walk_gT {TX : (Str → Option Value) → Prop} {l : PySem.W.OpenLaw} {n k : Nat} {q : Program} {loose : List Str} {XP : (Str → Option Value) → Heap → Prop} {YP : World → Heap → Prop} {d : DefRec} {K : Params → PySem.W.Frag} {sp : PySem.W.Frag → Sp} {x : Str} {xs : List Str}
    (most : l.most = some n) (fits : n ≤ sizeLine) (plain : d.params.defaults = []) (room : Room k callerA) (told : ∀ (mg : Str → Option Value) (h : Heap), XP mg h → TX mg) (inn : ∀ (w : World) (h : Heap), YP w h → (K w.params).In h)
    (recs : ∀ y ∈ xs, ∃ e, (recsOf q).find? (fun e => e.name == y) = some e) (noT : ∀ w : World, PySem.W.noTabs (K w.params) = true)
    (prom : ∀ (w : World) (mg : Str → Option Value) (fa : Addr) (h : Heap), (K w.params).In h → h.Ns mainGlobals mg → mg d.name = some (.ref fa) → TX mg →
      ∃ fd : FuncData, (∀ (s : Shared) (u : Value), BindsTo s fd ⟨[u], []⟩ [(x, u)]) ∧ ∀ base : Heap, (K w.params).In base → base.Ns mainGlobals mg → (∀ t ∈ tabsOf (K w.params) xs, LamX.TabB base mg t.1 t.2) → FnG l.prog w (K w.params) mg base CX0 k fa fd [x] (sp (K w.params)))
    (holds : ∀ (K : PySem.W.Frag) (H : Hp) (a : Addr) (ns : List Int), ns.length ≤ n → (∀ t ∈ tabsOf K xs, H t.2 = some (.tbl #[])) → SqL K H a (ns.map V.int) → sp K [.ref a] H (fun v _ => v = .bl true) fun _ _ _ => False) : PySem.W.WalkO q loose XP YP l.row.toRowW d [] (fun f vs => PySem.call f vs) := by
  refine Att.attach_call most plain fun w s0 st mg mb fa o pm cd doc a vs ns gg y ho hd hcd hmg hobj hints hlen hgen => ?_
  have kin := inn w _ y
  obtain ⟨fd, b, pr⟩ := prom w mg fa _ kin gg.T.g hmg (told _ _ gg.X)
  have all : ∀ t ∈ tabsOf (K w.params) xs, PySem.W.CodeHd st.heap t.1 t.2 ∧ st.heap.get? t.2 = some (PySem.W.tabObj #[]) := fun t ht => by
    obtain ⟨y, hy, e⟩ := List.mem_filterMap.mp ht
    obtain ⟨r, hr⟩ := recs y hy
    exact PySem.W.tab_of gg.T kin hr e
  refine end_gT kin gg.T.g gg.T.b gg.T.builtins gg.T.nolimit hgen (fun t ht => (all t ht).2) (fun t ht => ?_) (fun t ht => (all t ht).1) gg.T.bmain hobj hints (Nat.le_trans hlen fits) room pr b fun H hT s => holds _ H a ns hlen hT s
  cases e : (K w.params).lookup t.2 with
  | none => rfl
  | some o =>
    have k1 := kin _ o e
    rw [(all t ht).2] at k1
    cases k1
    have k2 := List.all_eq_true.mp (noT w) _ (PySem.W.mem_of_lookupK e)
    cases k2
end
end XB
set_option Elab.async false
set_option linter.all false
set_option maxRecDepth 100000
set_option maxHeartbeats 4000000
/-! defs that make lambdas: their code objects are known; a tuple of one thing many times over -/
namespace XB
open PySem PySem.Spec PyProof.Rows L2
/-- the code object of a def that makes lambdas, and its table -/
structure CodeT (K : PySem.W.Frag) (mg : Str → Option Value) (base : Heap) (x : Str) (c tab : Addr) : Prop where
  code : ∀ (f : Addr) (o : Obj) (fd : FuncData), mg x = some (.ref f) → K.lookup f = some o → o.data = .func fd → fd.code = .ref c
  tb : LamX.TabB base mg c tab
section
variable {P : Program} {w : World} {K : PySem.W.Frag} {mg : Str → Option Value} {base : Heap}
theorem clC {x : Str} {st : Stmt} {N ps : List Str} {k : Nat} {sp : Sp} {c tab : Addr} (D : Dn K mg x st) (C : CodeT K mg base x c tab)
    (hb : ∀ (kV doc pm : Value) (an : Option Addr) (cdv ct : Value) (us : List Value), us.length = ps.length → bindArgs (PySem.W.fnOf x x (defArgs st) (defBody st) (defScope st) .none kV doc pm an cdv ct) ⟨us, []⟩ = pure (ps.zip us))
    (S : FnScope N ps (defScope st)) (len : ∀ vs H Q E, sp vs H Q E → vs.length = ps.length)
    (body : ∀ (f : Addr) (A : Around) (outer : List Env) (s : Shared) (H : Hp) (vs : List V) (Q : VK) (E : XK), Room k (A.deeper (envOfC x (defScope st) s.heap.objs.size f (.ref c))) → sp vs H Q E →
      ∃ t, PSs (cxOf CX0 P w K mg base N x (defScope st) f (.ref c) A outer s H E).nox (defBody st) t ∧ t { nx := fun _ H' => Q .non H', rt := Q } (start N vs) H) : Cl P w K mg base CX0 (k + 1) x sp := by
  obtain ⟨f, fd, F, hm⟩ := D.ex
  obtain ⟨oc, od, kV, doc, pm, an, cdv, ct, osl, rfl, lk, hcd⟩ := id F.ex
  obtain rfl : cdv = .ref c := C.code f _ _ hm lk rfl
  refine ⟨f, _, ps, fn_of lk hcd S len fun A outer s H vs Q E hr h => ?_, hm, F.kp, F.binds hb⟩
  obtain ⟨t, ht, q⟩ := body f A outer s H vs Q E hr h
  exact ⟨t, ht.nox, q⟩
theorem fgC {x : Str} {st : Stmt} {N ps : List Str} {k : Nat} {sp : Sp} {fl c tab : Addr} {fd : FuncData} (F : Fun K x x st fl fd) (hm : mg x = some (.ref fl)) (C : CodeT K mg base x c tab) (S : FnScope N ps (defScope st)) (len : ∀ vs H Q E, sp vs H Q E → vs.length = ps.length)
    (body : ∀ (f : Addr) (A : Around) (outer : List Env) (s : Shared) (H : Hp) (vs : List V) (Q : VK) (E : XK), (A.deeper (envOfC x (defScope st) s.heap.objs.size f (.ref c))).guards = some [] → Room k (A.deeper (envOfC x (defScope st) s.heap.objs.size f (.ref c))) → sp vs H Q E →
      ∃ t, PSs (cxOf CX0 P w K mg base N x (defScope st) f (.ref c) A outer s H E).nox (defBody st) t ∧ t { nx := fun _ H' => Q .non H', rt := Q } (start N vs) H) : FnG P w K mg base CX0 (k + 1) fl fd ps sp := by
  obtain ⟨oc, od, kV, doc, pm, an, cdv, ct, osl, rfl, lk, hcd⟩ := id F.ex
  obtain rfl : cdv = .ref c := C.code fl _ _ hm lk rfl
  refine fng_of lk hcd S len fun A outer s H vs Q E hg hr h => ?_
  obtain ⟨t, ht, q⟩ := body fl A outer s H vs Q E hg hr h
  exact ⟨t, ht.nox, q⟩
theorem codeT_mk {h : Heap} {x : Str} {c tab : Addr} (X : K.In h) (G : h.Ns mainGlobals mg) (ht : PySem.W.tabIn K x = some (c, tab)) (tb : LamX.TabB base mg c tab) : CodeT K mg base x c tab :=
  ⟨fun f o fd hm ho hd => PySem.W.law_code X G ht hm (X f o ho) hd, tb⟩
end
/-- a tuple of one thing, many times over -/
def rMulM (K : PySem.W.Frag) : R2 := fun x y H Q => ∃ l k z, x = .ref l ∧ y = .int k ∧ SqT K H l [z] ∧ 2 ≤ k ∧ k ≤ 100000 ∧ ∀ H' p, Same H H' → SqT K H' p (List.replicate k.toNat z) → Q (.ref p) H'
theorem rep_flat1 {α : Type} (z : α) : ∀ n : Nat, (List.replicate n [z]).flatten = List.replicate n z := fun n => by
  induction n with
  | zero => rfl
  | succ n ih => rw [List.replicate_succ, List.flatten_cons, ih, List.replicate_succ]; rfl
theorem op_mulM {X : Cx} {K : PySem.W.Frag} (hk : X.K = K) : OpR X (binaryOp .Mult) (rMulM K) := by
  subst hk
  intro pins s σ H x y v u Q I rx ry h
  obtain ⟨l, k, z, rfl, rfl, hT, k2, kM, q⟩ := h
  cases rx
  obtain ⟨tk, rfl⟩ := ry
  obtain ⟨its, rel, ⟨⟨oc, od, dat, slo⟩, hob, ecl, nn, eda⟩, hsz⟩ := I.tuple hT
  simp only at ecl eda
  subst ecl eda
  obtain ⟨a, rfl⟩ : ∃ a, its = [a] := by
    cases rel with
    | cons _ r2 => cases r2; exact ⟨_, rfl⟩
  have big : (decide (k < -(2 ^ 63)) || decide (k ≥ 2 ^ 63)) = false := by
    rw [Bool.or_eq_false_iff]
    exact ⟨decide_eq_false (by omega), decide_eq_false (by omega)⟩
  have one : (([a].toArray.isEmpty) || k == 1) = false := by
    rw [Bool.or_eq_false_iff]
    exact ⟨rfl, beq_eq_false_iff_ne.mpr (by omega)⟩
  have nil : (decide (k ≤ 0) || ([a].toArray.isEmpty)) = false := by
    rw [Bool.or_eq_false_iff]
    exact ⟨decide_eq_false (by omega), rfl⟩
  have sz1 : (([a].toArray.size : Nat) : Int) * k = k := by
    show (((1 : Nat) : Int)) * k = k
    omega
  have many : Builtin.Tuple.tupleTooMany ((([a].toArray.size : Nat) : Int) * k) = false := by
    rw [sz1]
    unfold Builtin.Tuple.tupleTooMany
    rw [sizeLine_eq]
    exact decide_eq_false (by omega)
  have laid : (List.replicate k.toNat a).length ≤ sizeLine := by
    rw [List.length_replicate, sizeLine_eq]
    omega
  have e0 : (List.foldl (fun b c => b ++ c) #[] (List.replicate k.toNat [a].toArray)) = (List.replicate k.toNat a).toArray := by
    rw [size_rep, rep_flat1]
  refine wpAny_binaryOp_repeat_ref (T := "tuple") (U := "int") (by decide) ⟨_, hob, rfl⟩ (fun s' => typeIs_int s' k tk) noFill_tuple_mul F.fills_int_mul F.slot_int_rmul repeat_tuple F.slot_int_index.lookup ?_
  refine call_meets F.slot_int_rmul (typeIs_int s k tk) F.entry_int_rmul (F.args_int_rmul_2 _ _) (int_rmul_tuple k tk l [a].toArray nn od slo) ⟨hob, rfl, ⟨_, hob, rfl⟩, ?_⟩
  refine call_meets F.slot_tuple_mul ⟨_, hob, rfl⟩ F.entry_tuple_mul (F.args_tuple_mul_2 _ _) (tuple_mulW l [a].toArray nn od slo k tk big one nil (by rw [sz1]; omega) many (by rw [e0, List.size_toArray]; exact laid)) ⟨hob, ?_⟩
  rw [e0]
  have rel1 : Vals (List.replicate k.toNat z) (List.replicate k.toNat a) := by
    have r := rel.rep k.toNat
    rw [rep_flat1, rep_flat1] at r
    exact r
  refine ⟨.ref s.heap.objs.size, _, I.laid (t' := s.toks) (o := .tup (List.replicate k.toNat z)) (fun b ob e => Heap.get?_push_of_some _ e) (Nat.le_refl _) ?_, rfl, q _ _ (same_upd (I.hok.fresh (Nat.le_refl _))) (SqT.of upd_same)⟩
  exact ⟨by rw [List.length_replicate, sizeLine_eq]; omega, _, rel1, IsTup.new _ _⟩
end XB
set_option Elab.async false
set_option linter.all false
set_option maxRecDepth 100000
set_option maxHeartbeats 4000000
namespace XB
open PySem PySem.Spec PyProof.Rows L2
theorem at_end1 {xs : List V} {v : V} : atI (xs ++ [v]) (-1) = some v := by
  have hl : (xs ++ [v]).length = xs.length + 1 := by rw [List.length_append]; rfl
  have e : ixN (xs ++ [v]).length (-1) = some xs.length := by
    unfold ixN
    rw [if_neg (by omega), if_pos (by omega)]
    congr 1
    omega
  unfold atI
  rw [e]
  show (xs ++ [v])[xs.length]? = some v
  rw [List.getElem?_append_right (Nat.le_refl _), Nat.sub_self]
  rfl
def ringL (g : Nat → Nat) (x R : Nat) : List Nat := (List.range R).map fun i => XM.it g i x
theorem ringL_succ (g : Nat → Nat) (x k : Nat) : natV (ringL g x (k + 1)) = natV (ringL g x k) ++ [V.int ((XM.it g k x : Nat) : Int)] := by
  unfold ringL natV
  rw [List.range_succ, List.map_append, List.map_append]
  rfl
theorem ringL_len {g : Nat → Nat} {x R : Nat} : (ringL g x R).length = R := by
  unfold ringL
  rw [List.length_map, List.length_range]
section
variable {P : Program} {w : World} {K : PySem.W.Frag} {mg : Str → Option Value} {base : Heap}
def Prm (N : Nat) (g : Nat → Nat) : Prop := (∀ x, x < N → g x < N) ∧ ∀ x y, x < N → y < N → g x = g y → x = y
def spTrip (K : PySem.W.Frag) : Sp := fun vs H Q _ => ∃ (r : Addr) (x N : Nat) (g : Nat → Nat), vs = [.ref r, .int (x : Int)] ∧ SqT K H r (rowV N g) ∧ Prm N g ∧ x < N ∧ N ≤ 2000 ∧
  ∀ H' p R, Same H H' → H p = none → 1 ≤ R → R ≤ N → XM.it g R x = x → (∀ i, 1 ≤ i → i < R → XM.it g i x ≠ x) → H' p = some (.lst (natV (ringL g x R))) → Q (.ref p) H'
theorem c_round_trip (T : Tx K mg) : Cl P w K mg base CX0 1 "round_trip" (spTrip K) := by
  refine cl0 T.d_round_trip (ps := ["row", "spot"]) (fun _ _ _ _ _ _ us hl => match us, hl with | [_, _], _ => rfl) sc_round_trip (fun vs H Q E h => ?_) (fun f cdv A outer st H vs Q E hr h => ?_)
  · obtain ⟨r, x, N, g, rfl, _⟩ := h
    rfl
  · obtain ⟨r, x, N, g, rfl, hS, ⟨gl, gi⟩, hx, n2, q⟩ := h
    have nd := sc_round_trip.nd
    refine ⟨_, (pss_cons (ps_set (i := 2) nd rfl (.inl rfl) (pe_lst (pa_cons (pv 1) pa_nil)))
    (pss_cons (ps_while PassesOwn.never (pt_cmpR op_ne (pe_ix (ixk_tup (K := K) rfl) (pv 0) (pe_ix (ixk_list (K := K) rfl) (pv 2) (pe_un un_neg pe_int) (fun _ _ => rfl)) (fun _ _ => rfl)) (pv 1) (nomark _))
    (pss_one (ps_expr (pe_bm PySem.F.plainAttrs_list PySem.F.slot_list_append PySem.F.type_list_append mt_append (pv 2) (pa_cons (pe_ix (ixk_tup (K := K) rfl) (pv 0) (pe_ix (ixk_list (K := K) rfl) (pv 2) (pe_un un_neg pe_int) (fun _ _ => rfl)) (fun _ _ => rfl)) pa_nil)))))
    (pss_one (ps_ret (pv 2))))), ?_⟩
    refine ⟨_, rfl, one_sz, fun D nD => upd_gen nD fun H1 s1 e1 => ?_⟩
    obtain ⟨L, L1, L2, L3⟩ := XM.per gl gi hx
    refine ⟨fun m σ' H' => ∃ k : Nat, m = L - k ∧ k < L ∧ σ' = [some (.ref r), some (.int (x : Int)), some (.ref D)] ∧ Same H H' ∧ H' D = some (.lst (natV (ringL g x (k + 1)))) ∧ ∀ i, 1 ≤ i → i < k + 1 → XM.it g i x ≠ x,
      ⟨L, 0, rfl, by omega, rfl, s1, e1, fun i h1 h2 => by omega⟩, ?_⟩
    rintro m σ' H' ⟨k, rfl, hk, rfl, s', eD, hmin⟩
    have hxk : XM.it g k x < N := XM.it_lt gl hx
    refine ⟨_, rfl, _, rfl, _, rfl, D, _, _, _, rfl, rfl, SqL.of eD, (by rw [ringL_succ]; exact at_end1), ?_⟩
    refine ⟨r, _, _, _, rfl, rfl, (Tk.of s').sqT hS, at_of (j := XM.it g k x) rfl (rowV_at hxk), _, rfl, rfl, _, rfl, ?_⟩
    rw [dec_int, ← XM.it_succ g]
    by_cases h0 : XM.it g (k + 1) x = x
    · rw [show (((XM.it g (k + 1) x : Nat) : Int) == (x : Int)) = true by rw [h0]; exact beq_self_eq_true _]
      exact iteF ⟨_, rfl, q H' D (k + 1) s' nD (by omega) (by omega) h0 hmin eD⟩
    · rw [show (((XM.it g (k + 1) x : Nat) : Int) == (x : Int)) = false by
        rw [beq_eq_false_iff_ne]
        exact fun h => h0 (Int.ofNat_inj.mp h)]
      have hkL : k + 1 < L := by
        rcases Nat.lt_or_ge (k + 1) L with h | h
        · exact h
        · have : L = k + 1 := by omega
          rw [this] at L3
          exact absurd L3 h0
      refine iteT ⟨fun σ2 H2 => ∃ m', m' < L - k ∧ ∃ k' : Nat, m' = L - k' ∧ k' < L ∧ σ2 = [some (.ref r), some (.int (x : Int)), some (.ref D)] ∧ Same H H2 ∧ H2 D = some (.lst (natV (ringL g x (k' + 1)))) ∧ ∀ i, 1 ≤ i → i < k' + 1 → XM.it g i x ≠ x, fun _ _ h => h, ?_⟩
      refine ⟨_, rfl, .inl ⟨rfl, _, SqL.of eD⟩, _, rfl, _, rfl, _, rfl, D, _, _, _, rfl, rfl, SqL.of eD, (by rw [ringL_succ]; exact at_end1), ?_⟩
      refine ⟨r, _, _, _, rfl, rfl, (Tk.of s').sqT hS, at_of (j := XM.it g k x) rfl (rowV_at hxk), D, _, _, rfl, rfl, eD, ?_, ?_⟩
      · rw [natV_len, ringL_len, sizeLine_eq]
        omega
      · refine ⟨L - (k + 1), by omega, k + 1, rfl, hkL, rfl, same_put s' nD, ?_, fun i h1 h2 => ?_⟩
        · rw [upd_same, ringL_succ g x (k + 1), XM.it_succ]
        · by_cases hik : i = k + 1
          · rw [hik]
            exact h0
          · exact hmin i h1 (by omega)
structure TOk (N : Nat) (g : Nat → Nat) (t : Int) (i : Nat) (T : List Int) : Prop where
  len : T.length = N
  any : ∀ y, y < N → T[y]? = some (-1) ∨ T[y]? = some ((XM.ac N g y t : Nat) : Int)
  done : ∀ y, y < i → T[y]? = some ((XM.ac N g y t : Nat) : Int)
theorem TOk.set {N : Nat} {g : Nat → Nat} {t : Int} {i y : Nat} {T : List Int} (h : TOk N g t i T) (hy : y < N) : TOk N g t i (T.set y ((XM.ac N g y t : Nat) : Int)) := by
  have hl := h.len
  refine ⟨by rw [List.length_set]; exact hl, fun z hz => ?_, fun z hz => ?_⟩
  · rw [List.getElem?_set]
    by_cases e : y = z
    · rw [if_pos e, if_pos (by omega), e]
      exact .inr rfl
    · rw [if_neg e]
      exact h.any z hz
  · rw [List.getElem?_set]
    by_cases e : y = z
    · rw [if_pos e, if_pos (by omega), e]
    · rw [if_neg e]
      exact h.done z hz
theorem TOk.end {N : Nat} {g : Nat → Nat} {t : Int} {T : List Int} (h : TOk N g t N T) : T.map V.int = natV ((List.range N).map fun x => XM.ac N g x t) := by
  refine List.ext_getElem? fun i => ?_
  unfold natV
  rw [List.map_map, List.getElem?_map, List.getElem?_map]
  have hl := h.len
  by_cases hi : i < N
  · rw [h.done i hi, List.getElem?_range hi]
    rfl
  · rw [List.getElem?_eq_none (by omega), List.getElem?_eq_none (by rw [List.length_range]; omega)]
    rfl
theorem ring_ac {N : Nat} {g : Nat → Nat} (gl : ∀ x, x < N → g x < N) (gi : ∀ x y, x < N → y < N → g x = g y → x = y) {x R j : Nat} (hx : x < N) (h1 : 1 ≤ R) (hR : XM.it g R x = x) (hm : ∀ i, 1 ≤ i → i < R → XM.it g i x ≠ x) (hj : j < R) (t : Int) :
    XM.it g (((j : Int) + t) % (R : Int)).toNat x = XM.ac N g (XM.it g j x) t := by
  rw [XM.ac_ring gl gi hx h1 hR hm]
  have e := XM.ac_ring gl gi hx h1 hR hm (j : Int)
  rw [show ((j : Int) % (R : Int)).toNat = j by rw [Int.emod_eq_of_lt (by omega) (by omega)]; rfl] at e
  rw [e]
  exact (XM.ac_add gl gi hx _ _).symm
/-- a row of a yard done so many times -/
def spDone (K : PySem.W.Frag) : Sp := fun vs H Q _ => ∃ (r : Addr) (t : Int) (N : Nat) (g : Nat → Nat), vs = [.ref r, .int t] ∧ SqT K H r (rowV N g) ∧ Prm N g ∧ 1 ≤ N ∧ N ≤ 2000 ∧
  ∀ H' p, Same H H' → H p = none → H' p = some (.lst (natV ((List.range N).map fun x => XM.ac N g x t))) → Q (.ref p) H'
theorem c_done_times (T : Tx K mg) : Cl P w K mg base CX0 2 "done_times" (spDone K) := by
  refine cl0 T.d_done_times (ps := ["row", "times"]) (fun _ _ _ _ _ _ us hl => match us, hl with | [_, _], _ => rfl) sc_done_times (fun vs H Q E h => ?_) (fun f cdv A outer st H vs Q E hr h => ?_)
  · obtain ⟨r, t, N, g, rfl, _⟩ := h
    rfl
  · obtain ⟨r, t, N, g, rfl, hS, ⟨gl, gi⟩, n1, n2, q⟩ := h
    have nd := sc_done_times.nd
    refine ⟨_, (pss_cons (ps_set (i := 2) nd rfl (.inl rfl) (pe_op op_rep (pe_lst (pa_cons (pe_un un_neg pe_int) pa_nil)) (pe_lenS (by rfl) T.b_len (pv 0))))
    (pss_cons (ps_for PassesOwn.never rfl (pi_range1 (by rfl) T.b_range (pa_cons (pe_lenS (by rfl) T.b_len (pv 0)) pa_nil)) (pg_name (i := 3) nd rfl (.inl rfl))
    (pss_one (ps_if (pt_cmpR op_lt (pe_ix (ixk_list (K := K) rfl) (pv 2) (pv 3) (fun _ _ => rfl)) pe_int (nomark _)) (pss_cons (ps_set (i := 4) nd rfl (.inl rfl) (pe_k (c_round_trip T) hr (by decide) (by rfl) (pa_cons (pv 0) (pa_cons (pv 3) pa_nil))))
    (pss_one (ps_for PassesOwn.never rfl (pi_enum (by rfl) T.b_enumerate (pa_cons (pv 4) pa_nil)) (pg_tup rfl (pgs_cons (pg_name (i := 5) nd rfl (.inl rfl)) (pgs_cons (pg_name (i := 6) nd rfl (.inl rfl)) pgs_nil)))
    (pss_one (ps_asg (pe_ix (ixk_list (K := K) rfl) (pv 4) (pe_op op_mod (pe_op op_add (pv 5) (pv 1)) (pe_lenS (by rfl) T.b_len (pv 4))) (fun _ _ => rfl)) (pg_sub (pv 2) (pv 6) set_list)))))) pss_nil)))
    (pss_one (ps_ret (pv 2))))), ?_⟩
    --@
    have lR : (rowV N g).length = N := by
      unfold rowV
      rw [List.length_map, List.length_range]
    refine ⟨_, rfl, one_sz, fun a0 n0 => upd_gen n0 fun H1 s1 e1 => ⟨_, rfl, r, _, rfl, .inr ((Tk.of s1).sqT hS), a0, (N : Int), _, rfl, by rw [lR], e1, by omega, by omega, ?_, fun D nD => upd_gen nD fun H2 s2 e2 => ?_⟩⟩
    · show 1 * _ ≤ sizeLine
      rw [sizeLine_eq]
      omega
    rw [rep_flat1] at e2
    have nD0 := fresh_of s1 nD
    have e2 : H2 D = some (.lst ((List.replicate N (-1 : Int)).map V.int)) := by
      rw [List.map_replicate]
      exact e2
    refine ⟨_, rfl, r, _, rfl, .inr ((Tk.of (s1.trans s2)).sqT hS), N, by rw [lR], by omega, by omega, ?_⟩
    refine for_range (lo := 0) (n := N) (fun i σ H3 => ∃ (T0 : List Int) (y3 y4 y5 y6 : Option V), σ = [some (.ref r), some (.int t), some (.ref D), y3, y4, y5, y6] ∧ Same H H3 ∧ H3 D = some (.lst (T0.map V.int)) ∧ TOk N g t i T0)
      ⟨_, _, _, _, _, rfl, s1.trans s2, e2, List.length_replicate, fun y hy => .inl (by rw [List.getElem?_replicate, if_pos hy]), fun y hy => absurd hy (Nat.not_lt_zero _)⟩ (fun i σ H3 hi ⟨T0, y3, y4, y5, y6, eσ, s3, eD, hT⟩ => ?_) (fun σ H3 ⟨T0, y3, y4, y5, y6, eσ, s3, eD, hT⟩ => ?_)
    · subst eσ
      have hl := hT.len
      have atT : ∀ z : Int, T0[i]? = some z → atI (T0.map V.int) (0 + (i : Int)) = some (V.int z) := fun z hz => at_of (j := i) (by omega) (by rw [List.getElem?_map, hz]; rfl)
      rcases hT.any i hi with hz | hz
      · refine ⟨_, rfl, _, rfl, D, _, _, _, rfl, rfl, SqL.of eD, atT _ hz, _, _, rfl, rfl, _, rfl, iteT ?_⟩
        refine ⟨_, rfl, _, rfl, r, i, N, g, by rw [Int.zero_add]; rfl, (Tk.of s3).sqT hS, ⟨gl, gi⟩, hi, n2, fun H4 p R s4 np R1 RN h0 hmin e4 => ?_⟩
        have nDp : D ≠ p := ne_of_none eD np
        have s34 := s3.trans s4
        refine ⟨_, rfl, p, _, rfl, SqL.of e4, ?_⟩
        refine for_it (walk_enum (xs := natV (ringL g i R))) (fun j σ H5 => ∃ (T1 : List Int) (y5 y6 : Option V), σ = [some (.ref r), some (.int t), some (.ref D), some (.int (0 + (i : Int))), some (.ref p), y5, y6] ∧ Same H H5 ∧ H5 p = some (.lst (natV (ringL g i R))) ∧ H5 D = some (.lst (T1.map V.int)) ∧ TOk N g t i T1 ∧ (1 ≤ j → T1[i]? = some ((XM.ac N g i t : Nat) : Int)))
          ⟨T0, _, _, rfl, s34, e4, s4 _ _ eD, hT, fun h => by omega⟩ (fun j σ H5 _ ⟨_, _, _, _, _, ep, _⟩ => SqL.of ep) (fun j x σ H5 H6 hj ⟨T1, y5', y6', eσ, s5, ep, eD5, hT5, h1⟩ hy => ?_) (fun σ H5 ⟨T1, y5', y6', eσ, s5, ep, eD5, hT5, h1⟩ => ?_)
        · obtain ⟨Tt, x1, x2, rfl, nT, rfl, f1, f2⟩ := hy
          subst eσ
          rw [natV_len, ringL_len] at hj
          have hj2 : (ringL g i R)[j]? = some (XM.it g j i) := by
            unfold ringL
            rw [List.getElem?_map, List.getElem?_range hj]
            rfl
          cases (show some (V.int (j : Nat)) = some x1 from f1)
          cases (natV_at hj2).symm.trans f2
          have hyN : XM.it g j i < N := XM.it_lt gl hi
          have s6 := same_upd (o := .tup [.int (j : Nat), .int ((XM.it g j i : Nat) : Int)]) nT
          have ep6 := s6 _ _ ep
          have eD6 := s6 _ _ eD5
          have e6 : upd H5 Tt (.tup [.int (j : Nat), .int ((XM.it g j i : Nat) : Int)]) Tt = some (.tup [.int (j : Nat), .int ((XM.it g j i : Nat) : Int)]) := upd_same
          generalize upd H5 Tt (.tup [.int (j : Nat), .int ((XM.it g j i : Nat) : Int)]) = H6 at s6 ep6 eD6 e6 ⊢
          have m0 := Int.emod_nonneg ((j : Int) + t) (b := (R : Int)) (by omega)
          have m1 := Int.emod_lt_of_pos ((j : Int) + t) (b := (R : Int)) (by omega)
          have hu : ((j : Int) + t) % (R : Int) = (((((j : Int) + t) % (R : Int)).toNat : Nat) : Int) := by omega
          have hat : (ringL g i R)[(((j : Int) + t) % (R : Int)).toNat]? = some (XM.ac N g (XM.it g j i) t) := by
            unfold ringL
            rw [List.getElem?_map, List.getElem?_range (by omega)]
            show some (XM.it g (((j : Int) + t) % (R : Int)).toNat i) = _
            rw [ring_ac gl gi hi R1 h0 hmin hj t]
          have lr : ((natV (ringL g i R)).length : Int) = (R : Int) := by rw [natV_len, ringL_len]
          refine ⟨Tt, _, rfl, SqT.of e6, rfl, _, _, rfl, _, _, rfl, rfl, ?_⟩
          refine ⟨_, rfl, _, rfl, _, rfl, _, _, rfl, rfl, _, rfl, p, _, rfl, .inl (SqL.of ep6), _, _, rfl, rfl, ?_, ?_⟩
          · show (0 : Int) < ((natV (ringL g i R)).length : Int)
            omega
          refine ⟨p, _, _, _, rfl, rfl, SqL.of ep6, at_of (by rw [lr]; exact hu) (natV_at hat), ?_⟩
          refine ⟨_, rfl, _, rfl, D, _, _, XM.it g j i, rfl, rfl, eD6, ixN_of rfl (by rw [List.length_map, hT5.len]; exact hyN), ?_⟩
          have hset : (T1.map V.int).set (XM.it g j i) (.int ((XM.ac N g (XM.it g j i) t : Nat) : Int)) = (T1.set (XM.it g j i) ((XM.ac N g (XM.it g j i) t : Nat) : Int)).map V.int := by rw [List.map_set]
          refine ⟨T1.set (XM.it g j i) ((XM.ac N g (XM.it g j i) t : Nat) : Int), _, _, rfl, same_put (s5.trans s6) nD0, by rw [upd_ne nDp.symm]; exact ep6, by rw [upd_same, hset], hT5.set hyN, fun _ => ?_⟩
          rw [List.getElem?_set]
          by_cases e : XM.it g j i = i
          · rw [if_pos e, if_pos (by rw [hT5.len]; exact hyN), e]
          · rw [if_neg e]
            refine h1 ?_
            by_cases hj0 : j = 0
            · subst hj0
              exact absurd rfl e
            · omega
        · subst eσ
          refine ⟨T1, _, _, _, _, rfl, s5, eD5, hT5.len, hT5.any, fun y hy => ?_⟩
          by_cases hyi : y = i
          · rw [hyi]
            exact h1 (by rw [natV_len, ringL_len]; exact R1)
          · exact hT5.done y (by omega)
      · refine ⟨_, rfl, _, rfl, D, _, _, _, rfl, rfl, SqL.of eD, atT _ hz, _, _, rfl, rfl, _, rfl, ?_⟩
        rw [decide_eq_false (by omega)]
        refine iteF ⟨T0, _, _, _, _, rfl, s3, eD, hT.len, hT.any, fun y hy => ?_⟩
        by_cases hyi : y = i
        · rw [hyi]
          exact hz
        · exact hT.done y (by omega)
    · subst eσ
      rw [hT.end] at eD
      exact ⟨_, rfl, q H3 D s3 nD0 eD⟩
end
end XB
set_option Elab.async false
set_option linter.all false
set_option maxRecDepth 100000
set_option maxHeartbeats 4000000
namespace XB
open PySem PySem.Spec PyProof.Rows L2
theorem rowV_len {N : Nat} {g : Nat → Nat} : (rowV N g).length = N := by
  unfold rowV
  rw [List.length_map, List.length_range]
section
variable {P : Program} {w : World} {K : PySem.W.Frag} {mg : Str → Option Value} {base : Heap}
theorem ints_inv2 {H : Hp} {g : Nat → Nat} : ∀ {l : List Nat} {xs : List V}, DpAll K H xs (l.map fun x => PyData.int ((g x : Nat) : Int)) → xs = l.map fun x => V.int ((g x : Nat) : Int)
  | [], _, .nil => rfl
  | x :: l, _, .cons h t => by
    cases h
    rw [ints_inv2 t]
    rfl
theorem yardAt_of {H : Hp} {y : Addr} {F : Fld} {N : Nat} {f : Str → Nat → Nat} (h : Dp K H (.ref y) (dYard F N f)) : YardAt K H y F N f := by
  cases h with
  | tup hS hV =>
    have hl := hV.len
    rw [List.length_map] at hl
    refine ⟨_, hS, hl, fun i n hn => ?_⟩
    have lt := (List.getElem?_eq_some_iff.mp hn).1
    rename_i ys
    have gy : ys[i]? = some ys[i] := List.getElem?_eq_getElem (by omega)
    obtain ⟨d1, k1, p1⟩ := hV.get gy
    rw [List.getElem?_map, hn] at k1
    cases k1
    generalize ys[i] = v at gy p1
    cases p1 with
    | tup h1 h2 =>
      rw [ints_inv2 h2] at h1
      exact ⟨_, gy, h1⟩
/-- all spots, led by a script -/
def spAllLed (K : PySem.W.Frag) : Sp := fun vs H Q _ => ∃ (a y p : Addr) (F : Fld) (N : Nat) (f : Str → Nat → Nat) (l : List (Str × Int)), vs = [.ref a, .ref y, .ref p] ∧ Dp K H (.ref a) (dField F) ∧ F.Ok ∧ YardAt K H y F N f ∧ XM.Yd (OF F) (· ∈ F.names) N f ∧ 1 ≤ N ∧ N ≤ 2000 ∧
  Dp K H (.ref p) (dSteps l) ∧ Names F l ∧ ∀ H' r, Same H H' → H r = none → H' r = some (.lst (natV ((List.range N).map fun x => XM.leads N f x l))) → Q (.ref r) H'
theorem c_all_led (T : Tx K mg) : Cl P w K mg base CX0 3 "all_led" (spAllLed K) := by
  refine cl0 T.d_all_led (ps := ["field", "yard", "steps"]) (fun _ _ _ _ _ _ us hl => match us, hl with | [_, _, _], _ => rfl) sc_all_led (fun vs H Q E h => ?_) (fun fa cdv A outer st H vs Q E hr h => ?_)
  · obtain ⟨a, y, p, F, N, f, l, rfl, _⟩ := h
    rfl
  · obtain ⟨a, y, p, F, N, f, l, rfl, hF, ok, hY, Y, n1, n2, hL, hN, q⟩ := h
    have nd := sc_all_led.nd
    have hu := hu_of hr
    refine ⟨_, (pss_cons (ps_asg (pv 0) (pg_tup rfl (pgs_cons (pg_name (i := 3) nd rfl (.inl rfl)) (pgs_cons (pg_name (i := 4) nd rfl (.inl rfl)) pgs_nil))))
    (pss_cons (ps_set (i := 5) nd rfl (.inl rfl) (pe_dictZip (K := K) rfl rfl (by rfl) T.b_dict (by rfl) T.b_zip (pa_cons (pv 3) (pa_cons (pv 1) pa_nil))))
    (pss_cons (ps_set (i := 6) nd rfl (.inl rfl) (pe_listRg (by rfl) (by rfl) T.b_list (prg_1 (by rfl) T.b_range (pe_lenS (by rfl) T.b_len (pe_ix (ixk_tup (K := K) rfl) (pv 1) pe_int (fun _ _ => rfl))))))
    (pss_cons (ps_for PassesOwn.never rfl (pi_tup (pv 2)) (pg_tup rfl (pgs_cons (pg_name (i := 7) nd rfl (.inl rfl)) (pgs_cons (pg_name (i := 8) nd rfl (.inl rfl)) pgs_nil)))
    (pss_cons (ps_set (i := 9) nd rfl (.inr rfl) (pe_k (c_done_times T) hr (by decide) (by rfl) (pa_cons (pe_dget hu (pv 5) (pv 7) (fun _ _ => rfl)) (pa_cons (pv 8) pa_nil))))
    (pss_one (ps_setLc (i := 6) (own := [("spot", 10)]) (g := (gName 10)) (tt := tYes) rfl nd rfl rfl (sw_true rfl rfl rfl (by decide +kernel)) (pi_list (pv 6)) (blkOk_by (own := [("spot", 10)]) (N := ["field", "yard", "steps", "names", "_", "rows", "spots", "name", "times", "told", "spot"]) (sc := defScope s_all_led) (by decide +kernel)) (fun _ _ _ _ _ => (pg_name (i := 10) nd rfl (by first | exact Or.inl rfl | exact Or.inr rfl))) (fun _ _ _ _ _ => pts_nil) (fun _ _ _ _ _ => (pe_ix (ixk_list (K := K) rfl) (pv 9) (pv 10) (fun _ _ => rfl)))))))
    (pss_one (ps_ret (pv 6))))))), ?_⟩
    --@
    obtain ⟨_, n, p', ps, e, hA, hNm, hP, hD⟩ := hF.field
    cases e
    obtain ⟨ys, hys, lys, hrow⟩ := hY
    obtain ⟨_, vs, e, hS, hV⟩ := hL.steps
    cases e
    have hlx := hV.len
    rw [List.length_map] at hlx
    have f0 := ok.n0
    obtain ⟨b0, hb0, hr0⟩ := hrow 0 F.names[0] (List.getElem?_eq_getElem f0)
    refine ⟨_, rfl, a, _, rfl, hA, rfl, _, _, rfl, _, _, rfl, rfl, ?_⟩
    refine ⟨_, rfl, _, rfl, n, y, F.names, ys, rfl, hNm, hys, by omega, fun R nR => upd_gen nR fun H1 s1 e1 => ?_⟩
    refine ⟨_, rfl, y, _, _, _, rfl, rfl, (Tk.of s1).sqT hys, at_of (j := 0) rfl hb0, b0, _, rfl, .inr ((Tk.of s1).sqT hr0), ?_⟩
    rw [rowV_len]
    refine ⟨_, rfl, RgOk.of_le (by omega) (by omega) (by omega) (by omega), fun S0 nS0 => upd_gen nS0 fun H2 s2 e2 => ?_⟩
    have e2 : H2 S0 = some (.lst (natV ((List.range N).map fun x => XM.leads N f x (l.take 0)))) := by
      rw [e2]
      congr 2
      unfold rgV natV
      rw [show ((N : Int) - 0).toNat = N by omega, List.map_map]
      exact List.map_congr_left fun x _ => by
        rw [Int.zero_add]
        rfl
    refine ⟨_, rfl, p, rfl, ⟨_, (Tk.of (s1.trans s2)).sqT hS⟩, for_it (walk_tup (xs := vs)) (fun i σ H3 => ∃ (S : Addr) (y7 y8 y9 y10 : Option V), σ = [some (.ref a), some (.ref y), some (.ref p), some (.ref n), some (.ref p'), some (.ref R), some (.ref S), y7, y8, y9, y10] ∧ Same H1 H3 ∧ H S = none ∧ H3 S = some (.lst (natV ((List.range N).map fun x => XM.leads N f x (l.take i)))))
      ⟨S0, _, _, _, _, rfl, s2, fresh_of s1 nS0, e2⟩ (fun i σ H3 _ ⟨_, _, _, _, _, _, s3, _⟩ => (Tk.of (s1.trans s3)).sqT hS) (fun i x' σ H3 H4 hi ⟨S, y7, y8, y9, y10, eσ, s3, nS, eS⟩ hy => ?_) (fun σ H3 ⟨S, y7, y8, y9, y10, eσ, s3, nS, eS⟩ => ?_)⟩
    · obtain ⟨rfl, hx'⟩ := hy
      subst eσ
      obtain ⟨dd, g1, p1⟩ := hV.get hx'
      rw [List.getElem?_map] at g1
      obtain ⟨s, k1, rfl⟩ := Option.map_eq_some_iff.mp g1
      obtain ⟨b, rfl, cb⟩ := p1.step
      have ms := hN s (List.mem_of_getElem? k1)
      obtain ⟨ilt, iat⟩ := idx_lt ms
      obtain ⟨rb, hr1, hr2⟩ := hrow _ _ iat
      have s03 := s1.trans s3
      have g := DGet.k (k := Sum.inr s.1) (s3 _ _ e1)
      rw [valV_zip ok.pw iat hr1] at g
      have hlt := Y.lt s.1 ms
      have hinj := Y.inj s.1 ms
      refine ⟨b, _, rfl, (Tk.of s03).sqT cb, rfl, _, _, rfl, _, _, rfl, rfl, ?_⟩
      refine ⟨_, rfl, _, rfl, R, _, rfl, g, _, rfl, rb, s.2, N, f s.1, rfl, (Tk.of s03).sqT hr2, ⟨hlt, hinj⟩, n1, n2, fun H5 tp s5 ntp e5 => ?_⟩
      have eS5 := s5 _ _ eS
      refine ⟨_, rfl, S, rfl, ⟨_, SqL.of eS5⟩, fun D nD => ?_⟩
      have nx : ∀ x, x < N → XM.leads N f x (l.take (i + 1)) = XM.ac N (f s.1) (XM.leads N f x (l.take i)) s.2 := fun x _ => by
        rw [take_snoc k1, XM.leads_app]
        rfl
      have lt0 : ∀ x, x < N → XM.leads N f x (l.take i) < N := fun x hx => XM.leads_lt Y (fun z hz => hN z (List.mem_of_mem_take hz)) hx
      refine lc_it (walk_list (xs := natV ((List.range N).map fun x => XM.leads N f x (l.take i)))) (fun k H' => H' D = some (.lst (natV ((List.range k).map fun x => XM.leads N f x (l.take (i + 1))))) ∧ Same H5 H') ⟨upd_same, same_upd nD⟩ (fun _ _ _ ⟨_, s'⟩ => SqL.of (s' _ _ eS5)) (fun k v H6 H7 hk ⟨eD, s6⟩ hy => ?_) (fun H6 ⟨eD, s6⟩ => ?_)
      · obtain ⟨rfl, hv⟩ := hy
        rw [natV_len, List.length_map, List.length_range] at hk
        have gk : ((List.range N).map fun x => XM.leads N f x (l.take i))[k]? = some (XM.leads N f k (l.take i)) := by
          rw [List.getElem?_map, List.getElem?_range hk]
          rfl
        cases (natV_at gk).symm.trans hv
        have ga : ((List.range N).map fun x => XM.ac N (f s.1) x s.2)[XM.leads N f k (l.take i)]? = some (XM.ac N (f s.1) (XM.leads N f k (l.take i)) s.2) := by
          rw [List.getElem?_map, List.getElem?_range (lt0 k hk)]
          rfl
        refine ⟨rfl, yes_ ⟨_, rfl, _, rfl, tp, _, _, _, rfl, rfl, SqL.of (s6 _ _ e5), at_of (j := XM.leads N f k (l.take i)) rfl (natV_at ga), _, eD, ?_, ?_, same_put s6 nD⟩⟩
        · rw [natV_len, List.length_map, List.length_range, sizeLine_eq]
          omega
        · rw [upd_same, List.range_succ, List.map_append]
          unfold natV
          rw [List.map_append]
          show _ = some (HO.lst (_ ++ [V.int ((XM.leads N f k (l.take (i + 1)) : Nat) : Int)]))
          rw [nx k hk]
      · rw [natV_len, List.length_map, List.length_range] at eD
        exact ⟨D, _, _, _, _, rfl, s3.trans (s5.trans s6), fresh_of (s03.trans s5) nD, eD⟩
    · subst eσ
      rw [List.take_of_length_le (by omega)] at eS
      exact ⟨_, rfl, q H3 S (s1.trans s3) nS eS⟩
end
end XB
set_option Elab.async false
set_option linter.all false
set_option maxRecDepth 100000
set_option maxHeartbeats 4000000
namespace XB
open PySem PySem.Spec PyProof.Rows L2
/-- a spot of a yard -/
def spotD (N : Nat) : PyData → Option Nat
  | .int z => if 0 ≤ z ∧ z < (N : Int) then some z.toNat else none
  | _ => none
section
variable {P : Program} {w : World} {K : PySem.W.Frag} {mg : Str → Option Value} {base : Heap}
def OutS (K : PySem.W.Frag) (mg : Str → Option Value) (H : Hp) (Q : VK) (E : XK) (N : Nat) (f : Str → Nat → Nat) (l : List (Str × Int)) (sv : V) : Option Nat → Prop
  | some x => ∀ H', Same H H' → Q (.int ((XM.leads N f x l : Nat) : Int)) H'
  | none => ∀ C H' dx, mg "BadSpot" = some (.ref C) → ExcC K C → Same H H' → H' dx = some (.xd [("value", sv)]) → E (.ref C) (some dx) H'
/-- the first two of what is asked about a yard: it is wrong, or it is a yard, and the script is one -/
def spLed2 (K : PySem.W.Frag) (mg : Str → Option Value) : Sp := fun vs H Q E => ∃ (a : Addr) (v p sv : V) (F : Fld) (d : PyData), vs = [.ref a, v, p, sv] ∧ Dp K H (.ref a) (dField F) ∧ F.Ok ∧ Dp K H v d ∧ YSmall d ∧
  ((∃ wd, wrongD F d = some wd ∧ RefY K mg H E wd) ∨
   (∃ (y pa : Addr) (N : Nat) (f : Str → Nat → Nat) (l : List (Str × Int)) (e : PyData), v = .ref y ∧ p = .ref pa ∧ wrongD F d = none ∧ d = dYard F N f ∧ XM.Yd (OF F) (· ∈ F.names) N f ∧ 1 ≤ N ∧ N ≤ 2000 ∧ Dp K H (.ref pa) (dSteps l) ∧ GoodScript F l ∧ Dp K H sv e ∧ OutS K mg H Q E N f l sv (spotD N e)))
theorem c_led (T : Tx K mg) : Cl P w K mg base (L2.CX P w) 6 "led" (spLed2 K mg) := by
  refine clX T.d_led (ps := ["field", "yard", "deeds", "spot"]) (fun _ _ _ _ _ _ us hl => match us, hl with | [_, _, _, _], _ => rfl) sc_led (fun vs H Q E h => ?_) (fun fa cdv A outer st H vs Q E hr h => ?_)
  · obtain ⟨a, v, p, sv, F, d, rfl, _⟩ := h
    rfl
  · obtain ⟨a, v, p, sv, F, d, rfl, hF, ok, hd, sm, q⟩ := h
    have nd := sc_led.nd
    have tk : Takes (cxOf (L2.CX P w) P w K mg base ["field", "yard", "deeds", "spot"] "led" (defScope s_led) fa cdv A outer st H E) fun cls d _ H => E cls d H := takes_of rfl rfl rfl rfl
    refine ⟨_, (pss_cons (ps_expr (pe_kX (c_need_yard T) hr (by decide) tk (by rfl) (pa_cons (pv 0) (pa_cons (pv 1) pa_nil))))
    (pss_cons (ps_expr (pe_k (c_need_script T) hr (by decide) (by rfl) (pa_cons (pv 0) (pa_cons (pv 2) pa_nil))))
    (pss_cons (ps_if (PW.pt (pw_or (pt_not (pt_val (pe_k (c_is_wholeD T) hr (by decide) (by rfl) (pa_cons (pv 3) pa_nil)))) (pw_or1 (pt_not (pt_chain op_le op_lt pe_int (pv 3) (pe_lenS (by rfl) T.b_len (pe_ix (ixk_tup (K := K) rfl) (pv 1) pe_int (fun _ _ => rfl)))))))) (pss_one (ps_rs (K := K) (mg := mg) rfl rfl rfl tk (c_BadSpot T) hr (by decide) (by rfl) (pv 3))) pss_nil)
    (pss_one (ps_ret (pe_ix (ixk_list (K := K) rfl) (pe_k (c_all_led T) hr (by decide) (by rfl) (pa_cons (pv 0) (pa_cons (pv 1) (pa_cons (pv 2) pa_nil)))) (pv 3) (fun _ _ => rfl))))))), ?_⟩
    refine ⟨_, rfl, _, rfl, a, v, F, d, rfl, hF, ok, hd, sm, ?_⟩
    rcases q with ⟨wd, hw, q⟩ | ⟨y, pa, N, f, l, e, rfl, rfl, hw, rfl, Y, n1, n2, hL, gl, hs, q⟩
    · rw [hw]
      exact q
    · rw [hw]
      intro H1 s1
      refine ⟨_, rfl, _, rfl, a, pa, F, l, rfl, tF hF s1, ok, tS hL s1, gl, fun H2 s2 => ?_⟩
      have s12 := s1.trans s2
      refine ⟨_, rfl, sv, e, rfl, Dp.sm s12 _ hs, ?_⟩
      have no : spotD N e = none → ∀ H5, Same H2 H5 → ∀ C H6 dx, mg "BadSpot" = some (.ref C) → ExcC K C → Same H5 H6 → H6 dx = some (.xd [("value", sv)]) → E (.ref C) (some dx) H6 := fun hn H5 s5 C H6 dx hC hT s6 ed => by
        rw [hn] at q
        exact q C H6 dx hC hT (s12.trans (s5.trans s6)) ed
      refine ⟨_, rfl, ?_⟩
      cases e with
      | int z =>
        cases hs
        refine iteF ⟨_, rfl, _, _, rfl, rfl, _, rfl, ?_⟩
        have hY := yardAt_of (Dp.sm s12 _ hd)
        obtain ⟨ys, hys, lys, hrow⟩ := id hY
        have f0 := ok.n0
        obtain ⟨b0, hb0, hr0⟩ := hrow 0 F.names[0] (List.getElem?_eq_getElem f0)
        by_cases z0 : 0 ≤ z
        · rw [decide_eq_true z0]
          refine iteT ⟨_, rfl, y, _, _, _, rfl, rfl, hys, at_of (j := 0) rfl hb0, b0, _, rfl, .inr hr0, _, _, rfl, rfl, _, rfl, ?_⟩
          rw [rowV_len]
          by_cases zN : z < (N : Int)
          · rw [decide_eq_true zN]
            have hin : spotD N (.int z) = some z.toNat := if_pos ⟨z0, zN⟩
            rw [hin] at q
            refine iteF ⟨_, rfl, _, rfl, _, rfl, a, y, pa, F, N, f, l, rfl, tF hF s12, ok, hY, Y, n1, n2, tS hL s12, (fun s hs => (gl.2 s hs).1), fun H5 r s5 nr e5 => ?_⟩
            have ga : ((List.range N).map fun x => XM.leads N f x l)[z.toNat]? = some (XM.leads N f z.toNat l) := by
              rw [List.getElem?_map, List.getElem?_range (by omega)]
              rfl
            exact ⟨_, rfl, r, _, _, _, rfl, rfl, SqL.of e5, at_of (j := z.toNat) (by omega) (natV_at ga), q H5 (s12.trans s5)⟩
          · rw [decide_eq_false zN]
            exact iteT ⟨_, rfl, mk_at fun C H5 dx hC hT s5 ed => no (if_neg fun z => zN z.2) H2 (Same.refl _) C H5 dx hC hT s5 ed⟩
        · rw [decide_eq_false z0]
          exact iteF ⟨_, rfl, iteT ⟨_, rfl, mk_at fun C H5 dx hC hT s5 ed => no (if_neg fun z => z0 z.1) H2 (Same.refl _) C H5 dx hC hT s5 ed⟩⟩
      | _ => exact iteT ⟨_, rfl, mk_at fun C H5 dx hC hT s5 ed => no rfl H2 (Same.refl _) C H5 dx hC hT s5 ed⟩
def spDoAlike (K : PySem.W.Frag) (mg : Str → Option Value) : Sp := fun vs H Q E => ∃ (a : Addr) (v p1 p2 : V) (F : Fld) (d : PyData), vs = [.ref a, v, p1, p2] ∧ Dp K H (.ref a) (dField F) ∧ F.Ok ∧ Dp K H v d ∧ YSmall d ∧
  ((∃ wd, wrongD F d = some wd ∧ RefY K mg H E wd) ∨
   (∃ (y a1 a2 : Addr) (N : Nat) (f : Str → Nat → Nat) (l m : List (Str × Int)), v = .ref y ∧ p1 = .ref a1 ∧ p2 = .ref a2 ∧ wrongD F d = none ∧ d = dYard F N f ∧ XM.Yd (OF F) (· ∈ F.names) N f ∧ 1 ≤ N ∧ N ≤ 2000 ∧ Dp K H (.ref a1) (dSteps l) ∧ GoodScript F l ∧ Dp K H (.ref a2) (dSteps m) ∧ GoodScript F m ∧
     ∀ H', Same H H' → Q (.bl (decide (((List.range N).map fun x => XM.leads N f x l) = (List.range N).map fun x => XM.leads N f x m))) H'))
theorem c_do_alike_in (T : Tx K mg) : Cl P w K mg base (L2.CX P w) 6 "do_alike_in" (spDoAlike K mg) := by
  refine clX T.d_do_alike_in (ps := ["field", "yard", "one", "other"]) (fun _ _ _ _ _ _ us hl => match us, hl with | [_, _, _, _], _ => rfl) sc_do_alike_in (fun vs H Q E h => ?_) (fun fa cdv A outer st H vs Q E hr h => ?_)
  · obtain ⟨a, v, p1, p2, F, d, rfl, _⟩ := h
    rfl
  · obtain ⟨a, v, p1, p2, F, d, rfl, hF, ok, hd, sm, q⟩ := h
    have nd := sc_do_alike_in.nd
    have tk : Takes (cxOf (L2.CX P w) P w K mg base ["field", "yard", "one", "other"] "do_alike_in" (defScope s_do_alike_in) fa cdv A outer st H E) fun cls d _ H => E cls d H := takes_of rfl rfl rfl rfl
    refine ⟨_, (pss_cons (ps_expr (pe_kX (c_need_yard T) hr (by decide) tk (by rfl) (pa_cons (pv 0) (pa_cons (pv 1) pa_nil))))
    (pss_cons (ps_expr (pe_k (c_need_script T) hr (by decide) (by rfl) (pa_cons (pv 0) (pa_cons (pv 2) pa_nil))))
    (pss_cons (ps_expr (pe_k (c_need_script T) hr (by decide) (by rfl) (pa_cons (pv 0) (pa_cons (pv 3) pa_nil))))
    (pss_one (ps_ret (pe_cmpR (op_eqD hr.units) (pe_k (c_all_led T) hr (by decide) (by rfl) (pa_cons (pv 0) (pa_cons (pv 1) (pa_cons (pv 2) pa_nil)))) (pe_k (c_all_led T) hr (by decide) (by rfl) (pa_cons (pv 0) (pa_cons (pv 1) (pa_cons (pv 3) pa_nil)))) (nomark _))))))), ?_⟩
    refine ⟨_, rfl, _, rfl, a, v, F, d, rfl, hF, ok, hd, sm, ?_⟩
    rcases q with ⟨wd, hw, q⟩ | ⟨y, a1, a2, N, f, l, m, rfl, rfl, rfl, hw, rfl, Y, n1, n2, hL, gl, hM, gm, q⟩
    · rw [hw]
      exact q
    · rw [hw]
      intro H1 s1
      refine ⟨_, rfl, _, rfl, a, a1, F, l, rfl, tF hF s1, ok, tS hL s1, gl, fun H2 s2 => ?_⟩
      have s12 := s1.trans s2
      refine ⟨_, rfl, _, rfl, a, a2, F, m, rfl, tF hF s12, ok, tS hM s12, gm, fun H3 s3 => ?_⟩
      have s13 := s12.trans s3
      have hY := yardAt_of (Dp.sm s13 _ hd)
      refine ⟨_, rfl, _, rfl, _, rfl, a, y, a1, F, N, f, l, rfl, tF hF s13, ok, hY, Y, n1, n2, tS hL s13, (fun s hs => (gl.2 s hs).1), fun H4 r4 s4 nr4 e4 => ?_⟩
      have s14 := s13.trans s4
      refine ⟨_, rfl, _, rfl, _, rfl, a, y, a2, F, N, f, m, rfl, tF hF s14, ok, hY.tk (Tk.of s4), Y, n1, n2, tS hM s14, (fun s hs => (gm.2 s hs).1), fun H5 r5 s5 nr5 e5 => ?_⟩
      refine ⟨_, _, .lst (SqL.of (s5 _ _ e4)) (dp_natV _), .lst (SqL.of e5) (dp_natV _), sh_ints _, sh_ints _, ?_⟩
      rw [eqv_intsL, show decide ((((List.range N).map fun x => XM.leads N f x l).map Int.ofNat) = (((List.range N).map fun x => XM.leads N f x m).map Int.ofNat)) = decide (((List.range N).map fun x => XM.leads N f x l) = (List.range N).map fun x => XM.leads N f x m) from decide_eq_decide.mpr map_nat_eq]
      exact q H5 (s14.trans s5)
end
end XB
set_option Elab.async false
set_option linter.all false
set_option maxRecDepth 100000
set_option maxHeartbeats 8000000
namespace XB
open PySem PySem.Spec PyProof.Rows L2
theorem turn_len {N : Nat} {es : List PyData} (h : turnD N (.tuple es) = true) : es.length = N := by
  obtain ⟨e, p⟩ := turn_nats h
  injection e with e
  rw [e, List.length_map, List.length_map, p.length_eq, List.length_range]
theorem turn_some {N : Nat} {es : List PyData} {zs : List Int} (h : asInts es = some zs) : turnD N (.tuple es) = decide (sortZ zs = rgZ N) := by
  show (match asInts es with
    | some zs => decide (sortZ zs = rgZ N)
    | none => false) = _
  rw [h]
theorem turn_none {N : Nat} {es : List PyData} (h : asInts es = none) : turnD N (.tuple es) = false := by
  show (match asInts es with
    | some zs => decide (sortZ zs = rgZ N)
    | none => false) = _
  rw [h]
theorem filt_nil {es : List PyData} : (es.filter fun d => !wholeD d) = [] ↔ (asInts es).isSome = true := by
  rw [← all_whole, List.all_eq_true]
  constructor
  · intro h d hd
    cases hw : wholeD d with
    | true => rfl
    | false =>
      have : d ∈ es.filter fun d => !wholeD d := List.mem_filter.mpr ⟨hd, by rw [hw]; rfl⟩
      rw [h] at this
      cases this
  · intro h
    refine List.filter_eq_nil_iff.mpr fun d hd => ?_
    rw [h d hd]
    decide
theorem eqv_nil (ds : List PyData) : PyData.eqv (.list ds) (.list []) = ds.isEmpty := by
  cases ds <;> rfl
theorem lay_sub : ∀ {es fs : List PyData}, fs.Sublist es → PyData.canLayAll0 es = true → PyData.canLayAll0 fs = true
  | _, _, .slnil, _ => rfl
  | _, _, .cons a h, g => by
    rw [PyData.canLayAll0, Bool.and_eq_true] at g
    exact lay_sub h g.2
  | _, _, .cons₂ a h, g => by
    rw [PyData.canLayAll0, Bool.and_eq_true] at g ⊢
    exact ⟨g.1, lay_sub h g.2⟩
theorem deep_sub : ∀ {es fs : List PyData}, fs.Sublist es → PyData.depthAll fs ≤ PyData.depthAll es
  | _, _, .slnil => Nat.le_refl _
  | _, _, .cons a h => by
    rw [PyData.depthAll]
    have := deep_sub h
    omega
  | _, _, .cons₂ a h => by
    rw [PyData.depthAll, PyData.depthAll]
    have := deep_sub h
    omega
theorem sh_sub {es fs : List PyData} (h : fs.Sublist es) (g : SeqAt.shaped (.tuple es) = true) : SeqAt.shaped (.list fs) = true := by
  have g : (PyData.canLayAll0 es && decide (PyData.depthAll es + 1 ≤ 64)) = true := g
  rw [Bool.and_eq_true, decide_eq_true_eq] at g
  show (PyData.canLayAll0 fs && decide (PyData.depthAll fs + 1 ≤ 64)) = true
  rw [lay_sub h g.1, Bool.true_and]
  have := deep_sub h
  exact decide_eq_true (by omega)
theorem filter_take {α : Type} {p : α → Bool} {l : List α} {i : Nat} {x : α} (h : l[i]? = some x) : (l.take (i + 1)).filter p = (l.take i).filter p ++ (if p x = true then [x] else []) := filter_snoc h
theorem shaped_mem {d : PyData} {ds : List PyData} (h : SeqAt.shaped (.tuple ds) = true) (hd : d ∈ ds) : SeqAt.shaped d = true := by
  have h : (PyData.canLayAll0 ds && decide (PyData.depthAll ds + 1 ≤ 64)) = true := h
  rw [Bool.and_eq_true, decide_eq_true_eq] at h
  obtain ⟨h1, h2⟩ := h
  have gen : ∀ ds : List PyData, PyData.canLayAll0 ds = true → d ∈ ds → PyData.canLay0 d = true ∧ PyData.depth d ≤ PyData.depthAll ds := fun ds => by
    induction ds with
    | nil => exact fun _ h => nomatch h
    | cons e ds ih =>
      intro h hm
      rw [PyData.canLayAll0, Bool.and_eq_true] at h
      rw [PyData.depthAll]
      rcases List.mem_cons.mp hm with z | z
      · rw [z]
        exact ⟨h.1, by omega⟩
      · have := ih h.2 z
        exact ⟨this.1, by omega⟩
  obtain ⟨k1, k2⟩ := gen ds h1 hd
  show (PyData.canLay0 d && decide (PyData.depth d ≤ 64)) = true
  rw [k1, Bool.true_and]
  exact decide_eq_true (by omega)
def pickB (bs : List V) (es : List PyData) (k : Nat) : List V := (((bs.zip es).take k).filter fun z => !wholeD z.2).map (·.1)
theorem dpAll_filter {K : PySem.W.Frag} {H : Hp} {p : PyData → Bool} : ∀ {bs : List V} {es : List PyData}, DpAll K H bs es → DpAll K H (((bs.zip es).filter fun z => p z.2).map (·.1)) (es.filter p)
  | _, _, .nil => .nil
  | _, _, .cons (v := v) (d := d) h t => by
    rw [List.zip_cons_cons]
    by_cases hp : p d = true
    · rw [List.filter_cons_of_pos (by exact hp), List.filter_cons_of_pos hp]
      exact .cons h (dpAll_filter t)
    · rw [List.filter_cons_of_neg (by exact hp), List.filter_cons_of_neg hp]
      exact dpAll_filter t
theorem pickB_snoc {bs : List V} {es : List PyData} {k : Nat} {x : V} {d : PyData} (h1 : bs[k]? = some x) (h2 : es[k]? = some d) : pickB bs es (k + 1) = pickB bs es k ++ (if wholeD d = true then [] else [x]) := by
  unfold pickB
  have e : (bs.zip es)[k]? = some (x, d) := by
    rw [List.getElem?_zip_eq_some]
    exact ⟨h1, h2⟩
  rw [filter_snoc e, List.map_append]
  congr 1
  cases hw : wholeD d with
  | true => rfl
  | false => rfl
theorem pickB_len {bs : List V} {es : List PyData} {k : Nat} : (pickB bs es k).length ≤ k := by
  unfold pickB
  rw [List.length_map]
  refine Nat.le_trans (List.length_filter_le _ _) ?_
  rw [List.length_take]
  omega
def bdd (A B : List Nat) (k : Nat) : List Nat := (List.range k).filter fun x => decide (A.getD (B.getD x 0) 0 ≠ B.getD (A.getD x 0) 0)
theorem map_getD {A B : List Nat} {N : Nat} (h : B.length = N) : B.map (A.getD · 0) = (List.range N).map fun x => A.getD (B.getD x 0) 0 := by
  conv => lhs; rw [list_getD h]
  rw [List.map_map]
  rfl
theorem chg_bdd {A B : List Nat} {N : Nat} (hA : A.length = N) (hB : B.length = N) : chgD A B = (bdd A B N).isEmpty := by
  unfold chgD
  rw [map_getD hB, map_getD hA]
  rw [Bool.eq_iff_iff, decide_eq_true_eq, List.isEmpty_iff]
  unfold bdd
  rw [List.filter_eq_nil_iff, List.map_inj_left]
  constructor
  · intro h x hx
    rw [h x hx]
    simp
  · intro h x hx
    have := h x hx
    simpa using this
theorem bdd_len {A B : List Nat} {k : Nat} : (bdd A B k).length ≤ k := by
  unfold bdd
  refine Nat.le_trans (List.length_filter_le _ _) ?_
  rw [List.length_range]
  exact Nat.le_refl _
theorem bdd_succ {A B : List Nat} {k : Nat} : bdd A B (k + 1) = bdd A B k ++ (if A.getD (B.getD k 0) 0 = B.getD (A.getD k 0) 0 then [] else [k]) := by
  unfold bdd
  rw [List.range_succ, List.filter_append]
  congr 1
  by_cases h : A.getD (B.getD k 0) 0 = B.getD (A.getD k 0) 0
  · rw [if_pos h, List.filter_cons_of_neg (by rw [decide_eq_true_eq]; exact fun z => z h)]
    rfl
  · rw [if_neg h, List.filter_cons_of_pos (by rw [decide_eq_true_eq]; exact h)]
    rfl
def wV : Option Str → V
  | none => .non
  | some x => .str x
section
variable {P : Program} {w : World} {K : PySem.W.Frag} {mg : Str → Option Value} {base : Heap}
def spWrong (K : PySem.W.Frag) : Sp := fun vs H Q _ => ∃ (a : Addr) (v : V) (F : Fld) (d : PyData), vs = [.ref a, v] ∧ Dp K H (.ref a) (dField F) ∧ FNm K H a F ∧ F.Ok ∧ Dp K H v d ∧ YSmall d ∧ SeqAt.shaped d = true ∧ ∀ H', Same H H' → Q (wV (wrongD F d)) H'
theorem c__law_wrong (T : Tx K mg) : Cl P w K mg base CX0 1 "_law_wrong" (spWrong K) := by
  refine cl0 T.d__law_wrong (ps := ["field", "yard"]) (fun _ _ _ _ _ _ us hl => match us, hl with | [_, _], _ => rfl) sc__law_wrong (fun vs H Q E h => ?_) (fun fa cdv A outer st H vs Q E hr h => ?_)
  · obtain ⟨a, v, F, d, rfl, _⟩ := h
    rfl
  · obtain ⟨a, v, F, d, rfl, hF, hFN, ok, hd, sm, sh, q⟩ := h
    have nd := sc__law_wrong.nd
    have hu := u65 hr
    refine ⟨_, (pss_cons (ps_if (PW.pt (pw_or (pt_not (pt_val (pe_isT "tuple" (by rfl) T.b_isinstance (by rfl) T.b_tuple (by decide +kernel) (pv 1)))) (pw_or (pt_cmpR op_ne (pe_lenS (by rfl) T.b_len (pv 1)) (pe_lenS (by rfl) T.b_len (pe_ix (ixk_tup (K := K) rfl) (pv 0) pe_int (fun _ _ => rfl))) (nomark _)) (pw_or1 (pt_not (pt_val (pe_isT "tuple" (by rfl) T.b_isinstance (by rfl) T.b_tuple (by decide +kernel) (pe_ix (ixk_tup (K := K) rfl) (pv 1) pe_int (fun _ _ => rfl))))))))) (pss_one (ps_ret pe_str)) pss_nil)
    (pss_cons (ps_set (i := 2) nd rfl (.inl rfl) (pe_lenS (by rfl) T.b_len (pe_ix (ixk_tup (K := K) rfl) (pv 1) pe_int (fun _ _ => rfl))))
    (pss_cons (ps_if (pt_not (pt_chain op_le op_le pe_int (pv 2) pe_int)) (pss_one (ps_ret pe_str)) pss_nil)
    (pss_cons (ps_for PassesOwn.never rfl (pi_tup (pv 1)) (pg_name (i := 3) nd rfl (.inl rfl))
    (pss_cons (ps_if (PW.pt (pw_or (pt_not (pt_val (pe_isT "tuple" (by rfl) T.b_isinstance (by rfl) T.b_tuple (by decide +kernel) (pv 3)))) (pw_or1 (pt_cmpR op_ne (pe_lenS (by rfl) T.b_len (pv 3)) (pv 2) (nomark _))))) (pss_one (ps_ret pe_str)) pss_nil)
    (pss_cons (ps_if (pt_cmpR (op_neD hr.units) (pe_lc (own := [("spot", 8)]) (g := (gName 8)) (tt := _) (by rfl) nd (pi_tup (pv 3)) (blkOk_by (own := [("spot", 8)]) (N := ["field", "yard", "many", "row", "one", "other", "mine", "yours", "spot"]) (sc := defScope s__law_wrong) (by decide +kernel)) (fun _ _ _ _ _ => (pg_name (i := 8) nd rfl (by first | exact Or.inl rfl | exact Or.inr rfl))) (fun _ _ _ _ _ => pts_one (PW.pt (pw_or (pt_not (pt_val (pe_isTk (K := K) rfl "int" (by rfl) T.b_isinstance (by rfl) T.b_int (by decide +kernel) (pv 8)))) (pw_or1 (pt_val (pe_isTk (K := K) rfl "bool" (by rfl) T.b_isinstance (by rfl) T.b_bool (by decide +kernel) (pv 8))))))) (fun _ _ _ _ _ => (pv 8))) (pe_lst pa_nil) (nomark _)) (pss_one (ps_ret pe_str)) pss_nil)
    (pss_one (ps_if (pt_cmpR (op_neD hr.units) (pe_callB (cr_sortedD (K := K) rfl hu) (by rfl) T.b_sorted (by decide +kernel) (pa_cons (pv 3) pa_nil)) (pe_listRg (by rfl) (by rfl) T.b_list (prg_1 (by rfl) T.b_range (pv 2))) (nomark _)) (pss_one (ps_ret pe_str)) pss_nil)))))
    (pss_cons (ps_for PassesOwn.never rfl (pi_tup (pe_ix (ixk_tup (K := K) rfl) (pv 0) pe_int (fun _ _ => rfl))) (pg_tup rfl (pgs_cons (pg_name (i := 4) nd rfl (.inl rfl)) (pgs_cons (pg_name (i := 5) nd rfl (.inl rfl)) pgs_nil)))
    (pss_cons (ps_set (i := 6) nd rfl (.inr rfl) (pe_ix (ixk_tup (K := K) rfl) (pv 1) (pe_bmF PySem.F.slot_tuple_index PySem.F.type_tuple_index mt_tup_index (pe_ix (ixk_tup (K := K) rfl) (pv 0) pe_int (fun _ _ => rfl)) (pa_cons (pv 4) pa_nil)) (fun _ _ => rfl)))
    (pss_cons (ps_set (i := 7) nd rfl (.inr rfl) (pe_ix (ixk_tup (K := K) rfl) (pv 1) (pe_bmF PySem.F.slot_tuple_index PySem.F.type_tuple_index mt_tup_index (pe_ix (ixk_tup (K := K) rfl) (pv 0) pe_int (fun _ _ => rfl)) (pa_cons (pv 5) pa_nil)) (fun _ _ => rfl)))
    (pss_one (ps_if (pt_cmpR (op_neD hr.units) (pe_lc (own := [("spot", 8)]) (g := (gName 8)) (tt := _) (by rfl) nd (pi_range1 (by rfl) T.b_range (pa_cons (pv 2) pa_nil)) (blkOk_by (own := [("spot", 8)]) (N := ["field", "yard", "many", "row", "one", "other", "mine", "yours", "spot"]) (sc := defScope s__law_wrong) (by decide +kernel)) (fun _ _ _ _ _ => (pg_name (i := 8) nd rfl (by first | exact Or.inl rfl | exact Or.inr rfl))) (fun _ _ _ _ _ => pts_one (pt_cmpR op_ne (pe_ix (ixk_tup (K := K) rfl) (pv 6) (pe_ix (ixk_tup (K := K) rfl) (pv 7) (pv 8) (fun _ _ => rfl)) (fun _ _ => rfl)) (pe_ix (ixk_tup (K := K) rfl) (pv 7) (pe_ix (ixk_tup (K := K) rfl) (pv 6) (pv 8) (fun _ _ => rfl)) (fun _ _ => rfl)) (nomark _))) (fun _ _ _ _ _ => (pv 8))) (pe_lst pa_nil) (nomark _)) (pss_one (ps_ret pe_str)) pss_nil)))))
    (pss_one (ps_ret pe_non))))))), ?_⟩
    --@
    have qf : formD F.names.length d = false → Q (.str "form") H := fun h => by
      rw [wrong_form h] at q
      exact q H (Same.refl _)
    obtain ⟨_, n, p, ps, e, hA, hNm, hP, hD⟩ := hF.field
    cases e
    refine ⟨_, rfl, v, .ty "tuple", _, _, _, rfl, .ty _, tyx_data hd, kit_data (.inl rfl) hd, _, rfl, ?_⟩
    cases d with
    | tuple ds =>
      cases hd with
      | tup hS hV =>
      rename_i o os
      have hl := hV.len
      refine iteF ⟨_, rfl, _, _, rfl, .inr hS, _, rfl, ix0 hA ⟨n, _, rfl, .inr hNm, rfl, _, rfl, ?_⟩⟩
      rw [List.length_map, hl]
      by_cases e : ds.length = F.names.length
      · rw [decide_eq_true (show V.int (ds.length : Int) = V.int (F.names.length : Int) by rw [e])]
        refine iteF ?_
        cases ds with
        | nil =>
          have : (0 : Nat) = F.names.length := e
          have := ok.n0
          omega
        | cons d0 rs =>
        obtain ⟨v0, g0, h0⟩ : ∃ v0, os[0]? = some v0 ∧ Dp K H v0 d0 := by
          cases hV with
          | cons h t => exact ⟨_, rfl, h⟩
        refine ⟨_, rfl, _, _, _, v0, rfl, rfl, hS, at_of (j := 0) rfl g0, _, .ty "tuple", _, _, _, rfl, .ty _, tyx_data h0, kit_data (.inl rfl) h0, _, rfl, ?_⟩
        cases d0 with
        | tuple ss =>
          obtain ⟨o0, os0, ev, hS0, hl0⟩ : ∃ o0 os0, v0 = .ref o0 ∧ SqT K H o0 os0 ∧ os0.length = ss.length := by
            cases h0 with
            | tup h1 h2 => exact ⟨_, _, rfl, h1, h2.len⟩
          subst ev
          refine iteF ⟨_, rfl, _, _, _, _, rfl, rfl, hS, at_of (j := 0) rfl g0, o0, os0, rfl, .inr hS0, ?_⟩
          rw [hl0]
          refine ⟨_, rfl, _, _, rfl, rfl, _, rfl, ?_⟩
          have fd : formD F.names.length (.tuple (.tuple ss :: rs)) = (decide (rs.length + 1 = F.names.length) && (decide (1 ≤ ss.length) && decide (ss.length ≤ 2000))) := rfl
          by_cases e1 : 1 ≤ ss.length
          · rw [decide_eq_true (show (1 : Int) ≤ (ss.length : Int) by omega)]
            refine iteT ⟨_, _, rfl, rfl, _, rfl, ?_⟩
            by_cases e2 : ss.length ≤ 2000
            · rw [decide_eq_true (show (ss.length : Int) ≤ 2000 by omega)]
              refine iteF ?_
              have hf : formD F.names.length (.tuple (.tuple ss :: rs)) = true := by
                rw [fd, decide_eq_true (show rs.length + 1 = F.names.length from e), decide_eq_true e1, decide_eq_true e2]
                rfl
              rw [wrong_else hf] at q
              have smr := (sm _ rfl).2
              have lds : (PyData.tuple ss :: rs).length = F.names.length := e
              have ht0 : allTurn (.tuple ss :: rs) = (PyData.tuple ss :: rs).all (turnD ss.length) := rfl
              generalize (PyData.tuple ss :: rs) = ds at q smr lds ht0 hV hl sh
              have bad : ∀ {d1 : PyData}, d1 ∈ ds → turnD ss.length d1 = false → ∀ H', Same H H' → Q (.str "turn") H' := fun {d1} hm hb H' s' => by
                have : allTurn ds = false := by
                  rw [ht0, List.all_eq_false]
                  exact ⟨d1, hm, by rw [hb]; exact Bool.false_ne_true⟩
                rw [this, if_neg Bool.false_ne_true] at q
                exact q H' s'
              have shm : ∀ {d1 : PyData}, d1 ∈ ds → SeqAt.shaped d1 = true := fun hm => shaped_mem sh hm
              refine ⟨_, rfl, o, rfl, ⟨_, hS⟩, for_it (walk_tup (xs := os)) (fun i σ H2 => ∃ (y3 y4 y5 y6 y7 y8 : Option V), σ = [some (.ref a), some (.ref o), some (.int (ss.length : Int)), y3, y4, y5, y6, y7, y8] ∧ Same H H2 ∧ ∀ j d1, j < i → ds[j]? = some d1 → turnD ss.length d1 = true)
                ⟨_, _, _, _, _, _, rfl, Same.refl _, fun j d1 h => absurd h (Nat.not_lt_zero _)⟩ (fun i σ H2 _ ⟨_, _, _, _, _, _, _, s2, _⟩ => (Tk.of s2).sqT hS) (fun i x σ H2 H3 hi ⟨y3, y4, y5, y6, y7, y8, eσ, s2, hT⟩ hy => ?_) (fun σ H2 ⟨y3, y4, y5, y6, y7, y8, eσ, s2, hT⟩ => ?_)⟩
              · obtain ⟨rfl, hx⟩ := hy
                subst eσ
                obtain ⟨d1, k1, p1⟩ := hV.get hx
                have m1 := List.mem_of_getElem? k1
                have p2 := Dp.sm s2 _ p1
                refine ⟨_, rfl, x, .ty "tuple", _, _, _, rfl, .ty _, tyx_data p2, kit_data (.inl rfl) p2, _, rfl, ?_⟩
                cases d1 with
                | tuple es =>
                  obtain ⟨b, bs, ev, hSb, hVb⟩ : ∃ b bs, x = .ref b ∧ SqT K H3 b bs ∧ DpAll K H3 bs es := by
                    cases p2 with
                    | tup h1 h2 => exact ⟨_, _, rfl, h1, h2⟩
                  subst ev
                  have lb := hVb.len
                  refine iteF ⟨_, rfl, b, bs, rfl, .inr hSb, _, rfl, rfl, _, rfl, ?_⟩
                  rw [lb]
                  by_cases el : es.length = ss.length
                  · rw [decide_eq_true (show V.int (es.length : Int) = V.int (ss.length : Int) by rw [el])]
                    refine iteF ⟨_, rfl, b, rfl, ⟨_, hSb⟩, fun D nD => ?_⟩
                    have sle := smr _ m1 es rfl
                    refine lc_it (walk_tup (xs := bs)) (fun k H' => H' D = some (.lst (pickB bs es k)) ∧ Same H3 H') ⟨upd_same, same_upd nD⟩ (fun _ _ _ ⟨_, s'⟩ => (Tk.of s').sqT hSb) (fun k x H4 H5 hk ⟨eD, s'⟩ hy => ?_) (fun H4 ⟨eD, s'⟩ => ?_)
                    · obtain ⟨rfl, hx⟩ := hy
                      obtain ⟨d2, k2, q2⟩ := hVb.get hx
                      have q4 := Dp.sm s' _ q2
                      rw [pickB_snoc hx k2]
                      refine ⟨rfl, _, rfl, x, .ty "int", _, _, _, rfl, .ty _, tyx_data q4, kit_data (.inr (.inr (.inr (.inl rfl)))) q4, _, rfl, ?_⟩
                      have yes : wholeD d2 = false → ∃ acc, H5 D = some (.lst acc) ∧ acc.length < sizeLine ∧ upd H5 D (.lst (acc ++ [x])) D = some (.lst (pickB bs es k ++ (if wholeD d2 = true then [] else [x]))) ∧ Same H3 (upd H5 D (.lst (acc ++ [x]))) := fun hw => by
                        refine ⟨_, eD, ?_, ?_, same_put s' nD⟩
                        · have := pickB_len (bs := bs) (es := es) (k := k)
                          rw [sizeLine_eq]
                          omega
                        · rw [upd_same, hw]
                          rfl
                      by_cases h1 : isD "int" d2 = true
                      · rw [h1]
                        refine iteF ⟨_, rfl, x, .ty "bool", _, _, _, rfl, .ty _, tyx_data q4, kit_data (.inr (.inr (.inr (.inr rfl)))) q4, _, rfl, ?_⟩
                        have e : (isD "bool" d2) = !wholeD d2 := by
                          cases d2 <;> first | rfl | (exfalso; simp [isD, tyD] at h1)
                        rw [e]
                        cases hw : wholeD d2 with
                        | true =>
                          refine iteF ⟨?_, s'⟩
                          rw [eD, if_pos rfl, List.append_nil]
                        | false => 
                          have := yes hw
                          rw [hw] at this
                          exact iteT ⟨_, rfl, this⟩
                      · rw [Bool.eq_false_iff.mpr h1]
                        have hw : wholeD d2 = false := by
                          cases d2 <;> first | rfl | exact absurd rfl h1
                        exact iteT ⟨_, rfl, yes hw⟩
                    · have hZ := DpAll.sm s' _ (dpAll_filter (p := fun d => !wholeD d) hVb)
                      have eP : pickB bs es bs.length = ((bs.zip es).filter fun z => !wholeD z.2).map (·.1) := by
                        unfold pickB
                        rw [List.take_of_length_le (by rw [List.length_zip]; exact Nat.min_le_left _ _)]
                      rw [eP] at eD
                      refine ⟨Nat.zero_le _, fun E0 nE => upd_gen nE fun H6 s6 e6 => ?_⟩
                      have s36 := s'.trans s6
                      refine ⟨_, .list [], .lst (SqL.of (s6 _ _ eD)) (DpAll.sm s6 _ hZ), .lst (SqL.of e6) .nil, sh_sub List.filter_sublist (shm m1), rfl, ?_⟩
                      rw [eqv_nil]
                      cases he : asInts es with
                      | none =>
                        have : (es.filter fun d => !wholeD d).isEmpty = false := by
                          cases hx : (es.filter fun d => !wholeD d).isEmpty with
                          | false => rfl
                          | true =>
                            have := filt_nil.mp (List.isEmpty_iff.mp hx)
                            rw [he] at this
                            cases this
                        rw [this]
                        exact ⟨_, rfl, iteT (bad m1 (turn_none he) H6 (s2.trans s36))⟩
                      | some zs =>
                        have : (es.filter fun d => !wholeD d).isEmpty = true := List.isEmpty_iff.mpr (filt_nil.mpr (by rw [he]; rfl))
                        rw [this]
                        have ed := asInts_some he
                        subst ed
                        refine ⟨_, rfl, iteF ⟨_, rfl, b, bs, _, rfl, .inr ((Tk.of s36).sqT hSb), DpAll.sm s36 _ hVb, sort_ints zs, fun p2 vs2 np2 hz2 => upd_gen np2 fun H7 s7 e7 => ?_⟩⟩
                        refine ⟨_, rfl, _, rfl, RgOk.of_le (by omega) (by omega) (by omega) (by omega), fun L nL => upd_gen nL fun H8 s8 e8 => ?_⟩
                        rw [sortZ_data] at hz2
                        refine ⟨.list ((sortZ zs).map PyData.int), .list ((rgZ ss.length).map PyData.int), .lst (SqL.of (s8 _ _ e7)) (DpAll.sm (s7.trans s8) _ hz2), .lst (SqL.of e8) (dp_rgV _), sh_ints _, sh_ints _, ?_⟩
                        rw [eqv_intsL]
                        have s28 := s2.trans (s36.trans (s7.trans s8))
                        have et := turn_some (N := ss.length) (asInts_of zs)
                        by_cases hz : sortZ zs = rgZ ss.length
                        · rw [decide_eq_true hz]
                          rw [decide_eq_true hz] at et
                          refine ⟨_, rfl, iteF ⟨_, _, _, _, _, _, rfl, s28, fun j d1 hj hd1 => ?_⟩⟩
                          by_cases hji : j = i
                          · rw [hji, k1] at hd1
                            cases hd1
                            exact et
                          · exact hT j d1 (by omega) hd1
                        · rw [decide_eq_false hz]
                          rw [decide_eq_false hz] at et
                          exact ⟨_, rfl, iteT (bad m1 et H8 s28)⟩
                  · rw [decide_eq_false (fun z => el (by injection z with z; omega))]
                    refine iteT (bad m1 ?_ H3 s2)
                    cases ht : turnD ss.length (.tuple es) with
                    | false => rfl
                    | true => exact absurd (turn_len ht) el
                | _ => exact iteT (bad m1 rfl H3 s2)
              · subst eσ
                have hat : ∀ d1 ∈ ds, turnD ss.length d1 = true := fun d1 hm => by
                  obtain ⟨j, hj, ej⟩ := List.getElem_of_mem hm
                  exact hT j d1 (by omega) (by rw [List.getElem?_eq_getElem hj, ej])
                have hall : allTurn ds = true := by
                  rw [ht0, List.all_eq_true]
                  exact hat
                rw [hall, if_pos rfl] at q
                have f6 := ok.n6
                have row : ∀ m, m ∈ F.names → ∃ b : Addr, os[idxN F m]? = some (.ref b) ∧ SqT K H b (natV (rowI F ds m)) ∧ (rowI F ds m).Perm (List.range ss.length) := fun m hm => by
                  obtain ⟨ilt, iat⟩ := idx_lt hm
                  have go : os[idxN F m]? = some os[idxN F m] := List.getElem?_eq_getElem (by omega)
                  obtain ⟨d1, k1, p1⟩ := hV.get go
                  obtain ⟨b, eb, hb, pb⟩ := row_nats p1 (hat _ (List.mem_of_getElem? k1))
                  have er : rowI F ds m = natsD d1 := by
                    unfold rowI
                    rw [List.getD_eq_getElem?_getD, k1]
                    rfl
                  rw [er]
                  exact ⟨b, by rw [go, eb], hb, pb⟩
                have lps := hD.len
                rw [List.length_map] at lps
                have plen := ok.len
                refine ⟨_, rfl, ix1 ((Tk.of s2).sqT hA) ⟨p, rfl, ⟨_, (Tk.of s2).sqT hP⟩, ?_⟩⟩
                refine for_it (walk_tup (xs := ps)) (fun i σ H4 => ∃ (y3 y4 y5 y6 y7 y8 : Option V), σ = [some (.ref a), some (.ref o), some (.int (ss.length : Int)), y3, y4, y5, y6, y7, y8] ∧ Same H H4 ∧ ∀ j pr, j < i → F.pairs[j]? = some pr → chgD (rowI F ds pr.1) (rowI F ds pr.2) = true)
                  ⟨_, _, _, _, _, _, rfl, s2, fun j pr h => absurd h (Nat.not_lt_zero _)⟩ (fun i σ H4 _ ⟨_, _, _, _, _, _, _, s4, _⟩ => (Tk.of s4).sqT hP) (fun i x σ H4 H5 hi ⟨z3, z4, z5, z6, z7, z8, eσ, s4, hC⟩ hy => ?_) (fun σ H4 ⟨z3, z4, z5, z6, z7, z8, eσ, s4, hC⟩ => ?_)
                · obtain ⟨rfl, hx⟩ := hy
                  subst eσ
                  obtain ⟨d1, k1, p1⟩ := hD.get hx
                  rw [List.getElem?_map] at k1
                  obtain ⟨pr, kp, rfl⟩ := Option.map_eq_some_iff.mp k1
                  have mp := List.mem_of_getElem? kp
                  obtain ⟨m1, m2⟩ := ok.inN pr mp
                  obtain ⟨b1, g1, r1, q1⟩ := row _ m1
                  obtain ⟨b2, g2, r2, q2⟩ := row _ m2
                  have p6 := Dp.sm s4 _ p1
                  cases p6 with
                  | tup hT6 hTV =>
                  cases hTV with
                  | cons hx1 hTV =>
                  cases hTV with
                  | cons hx2 hTV =>
                  cases hTV
                  cases hx1
                  cases hx2
                  have u1 := perm_lt q1
                  have u2 := perm_lt q2
                  obtain ⟨n', p', hA4, hN4⟩ := hFN.tk (Tk.of s4)
                  obtain ⟨j1, hj1, hj1'⟩ := names_place ok m1
                  obtain ⟨j2, hj2, hj2'⟩ := names_place ok m2
                  rw [idx_at ok hj1] at g1
                  rw [idx_at ok hj2] at g2
                  have hS4 := (Tk.of s4).sqT hS
                  have r1' := (Tk.of s4).sqT r1
                  have r2' := (Tk.of s4).sqT r2
                  refine ⟨_, _, rfl, hT6, rfl, _, _, rfl, _, _, rfl, rfl, ?_⟩
                  refine ⟨_, rfl, _, rfl, ix0 hA4 ⟨⟨n', _, rfl, hN4⟩, _, rfl, n', F.names, pr.1, j1, rfl, rfl, hN4.sqT, hj1, hj1', o, os, _, .ref b1, rfl, rfl, hS4, atI_nat g1, ?_⟩⟩
                  refine ⟨_, rfl, _, rfl, ix0 hA4 ⟨⟨n', _, rfl, hN4⟩, _, rfl, n', F.names, pr.2, j2, rfl, rfl, hN4.sqT, hj2, hj2', o, os, _, .ref b2, rfl, rfl, hS4, atI_nat g2, ?_⟩⟩
                  have chg := chg_bdd u1.1 u2.1
                  refine ⟨_, rfl, ss.length, rfl, by omega, by omega, fun D nD => ?_⟩
                  refine lc_range (lo := 0) (n := ss.length) (fun k H' => H' D = some (.lst (natV (bdd (rowI F ds pr.1) (rowI F ds pr.2) k))) ∧ Same H5 H') ⟨upd_same, same_upd nD⟩ (fun k H6 hk ⟨eD, s'⟩ => ?_) (fun H6 ⟨eD, s'⟩ => ?_)
                  · have la : k < (rowI F ds pr.1).length := by rw [u1.1]; exact hk
                    have lb : k < (rowI F ds pr.2).length := by rw [u2.1]; exact hk
                    have va := u1.2 _ (List.mem_of_getElem? (getD_at la))
                    have vb := u2.2 _ (List.mem_of_getElem? (getD_at lb))
                    have ta := (Tk.of s').sqT r1'
                    have tb := (Tk.of s').sqT r2'
                    refine ⟨rfl, _, rfl, _, rfl, _, rfl, b2, _, _, _, rfl, rfl, tb, at_of (j := k) (by omega) (natV_at (getD_at lb)), b1, _, _, _, rfl, rfl, ta, at_of rfl (natV_at (getD_at (show (rowI F ds pr.2).getD k 0 < (rowI F ds pr.1).length by rw [u1.1]; exact vb))), ?_⟩
                    refine ⟨_, rfl, _, rfl, _, rfl, b1, _, _, _, rfl, rfl, ta, at_of (j := k) (by omega) (natV_at (getD_at la)), b2, _, _, _, rfl, rfl, tb, at_of rfl (natV_at (getD_at (show (rowI F ds pr.1).getD k 0 < (rowI F ds pr.2).length by rw [u2.1]; exact va))), rfl, _, rfl, ?_⟩
                    rw [dec_int, bdd_succ]
                    by_cases h : (rowI F ds pr.1).getD ((rowI F ds pr.2).getD k 0) 0 = (rowI F ds pr.2).getD ((rowI F ds pr.1).getD k 0) 0
                    · rw [if_pos h, List.append_nil, h, beq_self_eq_true]
                      exact iteF ⟨eD, s'⟩
                    · rw [if_neg h, show ((((rowI F ds pr.1).getD ((rowI F ds pr.2).getD k 0) 0 : Nat) : Int) == (((rowI F ds pr.2).getD ((rowI F ds pr.1).getD k 0) 0 : Nat) : Int)) = false from beq_eq_false_iff_ne.mpr fun z => h (Int.ofNat_inj.mp z)]
                      refine iteT ⟨_, rfl, _, eD, ?_, ?_, same_put s' nD⟩
                      · have := bdd_len (A := rowI F ds pr.1) (B := rowI F ds pr.2) (k := k)
                        rw [natV_len, sizeLine_eq]
                        omega
                      · rw [upd_same]
                        unfold natV
                        rw [List.map_append, Int.zero_add]
                        rfl
                  · refine ⟨Nat.zero_le _, fun E0 nE => upd_gen nE fun H7 s7 e7 => ?_⟩
                    refine ⟨_, .list [], .lst (SqL.of (s7 _ _ eD)) (dp_natV _), .lst (SqL.of e7) .nil, sh_ints _, rfl, ?_⟩
                    rw [eqv_nil, List.isEmpty_map, List.isEmpty_map, ← chg]
                    have s47 := s4.trans (s'.trans s7)
                    cases hc : chgD (rowI F ds pr.1) (rowI F ds pr.2) with
                    | true =>
                      refine ⟨_, rfl, iteF ⟨_, _, _, _, _, _, rfl, s47, fun j pr2 hj hp2 => ?_⟩⟩
                      by_cases hji : j = i
                      · rw [hji, kp] at hp2
                        cases hp2
                        exact hc
                      · exact hC j pr2 (by omega) hp2
                    | false =>
                      have hac : allChg F ds = false := by
                        unfold allChg
                        rw [List.all_eq_false]
                        exact ⟨pr, mp, by rw [hc]; exact Bool.false_ne_true⟩
                      rw [hac, if_neg Bool.false_ne_true] at q
                      exact ⟨_, rfl, iteT (q H7 s47)⟩
                · subst eσ
                  have hac : allChg F ds = true := by
                    unfold allChg
                    rw [List.all_eq_true]
                    intro pr hm
                    obtain ⟨j, hj, ej⟩ := List.getElem_of_mem hm
                    exact hC j pr (by omega) (by rw [List.getElem?_eq_getElem hj, ej])
                  rw [hac, if_pos rfl] at q
                  exact q H4 s4
            · rw [decide_eq_false (show ¬ (ss.length : Int) ≤ 2000 by omega)]
              refine iteT (qf ?_)
              rw [fd, decide_eq_false e2, Bool.and_false, Bool.and_false]
          · rw [decide_eq_false (show ¬ (1 : Int) ≤ (ss.length : Int) by omega)]
            refine iteF ⟨_, rfl, iteT (qf ?_)⟩
            rw [fd, decide_eq_false e1, Bool.false_and, Bool.and_false]
        | _ => exact iteT (qf rfl)
      · rw [decide_eq_false (fun z => e (by injection z with z; omega))]
        refine iteT (qf ?_)
        cases ds with
        | nil => rfl
        | cons d0 ds =>
          cases d0 with
          | tuple ss =>
            show (decide (ds.length + 1 = F.names.length) && _) = false
            rw [decide_eq_false (fun z => e (by rw [List.length_cons]; omega))]
            rfl
          | _ => rfl
    | _ => exact iteT (qf rfl)
end
end XB
set_option Elab.async false
set_option linter.all false
set_option maxRecDepth 100000
set_option maxHeartbeats 4000000
namespace XB
open PySem PySem.Spec PyProof.Rows L2
/-- data that can be laid and shown, so deep, so great -/
structure Okd (j n : Nat) (d : PyData) : Prop where
  lay : PyData.canLay0 d = true
  sh : d.showable = true
  nd : d.hasDict = false
  dp : d.depth ≤ j
  lv : d.leavesShort 60 = true
  bk : d.bulk ≤ n
theorem Okd.mono {j n j' n' : Nat} {d : PyData} (h : Okd j n d) (hj : j ≤ j') (hn : n ≤ n') : Okd j' n' d := ⟨h.lay, h.sh, h.nd, Nat.le_trans h.dp hj, h.lv, Nat.le_trans h.bk hn⟩
theorem Okd.sz {j n : Nat} {d : PyData} (h : Okd j n d) (hj : j ≤ 20) : Sz d n := ⟨h.sh, h.nd, Nat.le_trans h.dp hj, h.lv, h.bk⟩
theorem Okd.shaped {j n : Nat} {d : PyData} (h : Okd j n d) (hj : j ≤ 64) : SeqAt.shaped d = true := by
  have := h.dp
  show (PyData.canLay0 d && decide (PyData.depth d ≤ 64)) = true
  rw [h.lay, Bool.true_and]
  exact decide_eq_true (by omega)
theorem okd_dec {j n : Nat} {d : PyData} (h : (PyData.canLay0 d && (d.showable && !d.hasDict && decide (d.depth ≤ j) && d.leavesShort 60 && decide (d.bulk ≤ n))) = true) : Okd j n d := by
  simp only [Bool.and_eq_true, decide_eq_true_eq, Bool.not_eq_true'] at h
  exact ⟨h.1, h.2.1.1.1.1, h.2.1.1.1.2, h.2.1.1.2, h.2.1.2, h.2.2⟩
theorem okd_int {z : Int} (h : z.natAbs < 10 ^ 50) : Okd 0 0 (.int z) := by
  have s := sz_int h
  refine ⟨by rw [PyData.canLay0], s.sh, s.nd, by simp [PyData.depth], s.lv, s.bk⟩
theorem okd_all {j n : Nat} : ∀ {ds : List PyData}, (∀ d ∈ ds, Okd j n d) → PyData.canLayAll0 ds = true ∧ PyData.showableAll ds = true ∧ PyData.hasDictAll ds = false ∧ PyData.depthAll ds ≤ j ∧ PyData.leavesShortAll 60 ds = true ∧ PyData.bulkAll ds ≤ (n + 1) * ds.length
  | [], _ => ⟨rfl, rfl, rfl, Nat.zero_le _, rfl, Nat.le_refl _⟩
  | d :: ds, h => by
    obtain ⟨a, b, c, e, f, k⟩ := okd_all fun x hx => h x (List.mem_cons_of_mem _ hx)
    have hd := h d List.mem_cons_self
    refine ⟨?_, ?_, ?_, ?_, ?_, ?_⟩
    · rw [PyData.canLayAll0, hd.lay, a]
      rfl
    · rw [PyData.showableAll, hd.sh, b]
      rfl
    · rw [PyData.hasDictAll, hd.nd, c]
      rfl
    · rw [PyData.depthAll]
      have := hd.dp
      omega
    · rw [PyData.leavesShortAll, hd.lv, f]
      rfl
    · rw [PyData.bulkAll, List.length_cons, Nat.mul_add]
      have := hd.bk
      omega
theorem okd_tup {j n k : Nat} {ds : List PyData} (h : ∀ d ∈ ds, Okd j n d) (hl : ds.length ≤ k) : Okd (j + 1) ((n + 1) * k) (.tuple ds) := by
  obtain ⟨a, b, c, e, f, g⟩ := okd_all h
  have := Nat.mul_le_mul_left (n + 1) hl
  exact ⟨by rw [PyData.canLay0]; exact a, by rw [PyData.showable]; exact b, by rw [PyData.hasDict]; exact c, by rw [PyData.depth]; omega, by rw [PyData.leavesShort]; exact f, by rw [PyData.bulk]; omega⟩
theorem okd_lst {j n k : Nat} {ds : List PyData} (h : ∀ d ∈ ds, Okd j n d) (hl : ds.length ≤ k) : Okd (j + 1) ((n + 1) * k) (.list ds) := by
  obtain ⟨a, b, c, e, f, g⟩ := okd_all h
  have := Nat.mul_le_mul_left (n + 1) hl
  exact ⟨by rw [PyData.canLay0]; exact a, by rw [PyData.showable]; exact b, by rw [PyData.hasDict]; exact c, by rw [PyData.depth]; omega, by rw [PyData.leavesShort]; exact f, by rw [PyData.bulk]; omega⟩
theorem bulk_all : ∀ ds : List PyData, ds.length ≤ PyData.bulkAll ds ∧ ∀ d ∈ ds, PyData.bulk d ≤ PyData.bulkAll ds
  | [] => ⟨Nat.le_refl _, fun _ h => nomatch h⟩
  | d :: ds => by
    have ih := bulk_all ds
    rw [PyData.bulkAll, List.length_cons]
    refine ⟨by have := ih.1; omega, fun x hx => ?_⟩
    rcases List.mem_cons.mp hx with e | hx
    · rw [e]
      omega
    · have := ih.2 x hx
      omega
theorem Okd.small {j n : Nat} {d : PyData} (h : Okd j n d) (hn : n ≤ 5000) : YSmall d := fun ds e => by
  subst e
  have hb := h.bk
  rw [PyData.bulk] at hb
  have b := bulk_all ds
  refine ⟨by have := b.1; omega, fun r hr es er => ?_⟩
  subst er
  have h2 := b.2 _ hr
  rw [PyData.bulk] at h2
  have := (bulk_all es).1
  omega
section
variable {K : PySem.W.Frag}
def DV (K : PySem.W.Frag) (H : Hp) (j n : Nat) (v : V) : Prop := ∃ d, Dp K H v d ∧ Okd j n d
def DA (K : PySem.W.Frag) (H : Hp) (j n : Nat) (xs : List V) : Prop := ∃ ds, DpAll K H xs ds ∧ ∀ d ∈ ds, Okd j n d
theorem DV.mono {H : Hp} {j n j' n' : Nat} {v : V} (h : DV K H j n v) (hj : j ≤ j') (hn : n ≤ n') : DV K H j' n' v := by
  obtain ⟨d, a, b⟩ := h
  exact ⟨d, a, b.mono hj hn⟩
theorem DA.one {H : Hp} {j n : Nat} {v : V} (h : DV K H j n v) : DA K H j n [v] := by
  obtain ⟨d, a, b⟩ := h
  exact ⟨[d], .cons a .nil, fun x hx => by rw [List.mem_singleton.mp hx]; exact b⟩
theorem DA.app {H : Hp} {j n : Nat} {xs ys : List V} (h : DA K H j n xs) (g : DA K H j n ys) : DA K H j n (xs ++ ys) := by
  obtain ⟨ds, a, b⟩ := h
  obtain ⟨es, c, d⟩ := g
  exact ⟨ds ++ es, a.app c, fun x hx => (List.mem_append.mp hx).elim (b x) (d x)⟩
theorem DA.take {H : Hp} {j n : Nat} {xs : List V} (h : DA K H j n xs) (k : Nat) : DA K H j n (xs.take k) := by
  obtain ⟨ds, a, b⟩ := h
  exact ⟨ds.take k, a.take k, fun x hx => b x (List.mem_of_mem_take hx)⟩
theorem DA.drop {H : Hp} {j n : Nat} {xs : List V} (h : DA K H j n xs) (k : Nat) : DA K H j n (xs.drop k) := by
  obtain ⟨ds, a, b⟩ := h
  exact ⟨ds.drop k, a.drop k, fun x hx => b x (List.mem_of_mem_drop hx)⟩
theorem DA.tup {H : Hp} {j n k : Nat} {xs : List V} {p : Addr} (h : DA K H j n xs) (hS : SqT K H p xs) (hl : xs.length ≤ k) : DV K H (j + 1) ((n + 1) * k) (.ref p) := by
  obtain ⟨ds, a, b⟩ := h
  exact ⟨.tuple ds, .tup hS a, okd_tup b (by rw [← a.len]; exact hl)⟩
theorem DA.lst {H : Hp} {j n k : Nat} {xs : List V} {p : Addr} (h : DA K H j n xs) (hS : H p = some (.lst xs)) (hl : xs.length ≤ k) : DV K H (j + 1) ((n + 1) * k) (.ref p) := by
  obtain ⟨ds, a, b⟩ := h
  exact ⟨.list ds, .lst (SqL.of hS) a, okd_lst b (by rw [← a.len]; exact hl)⟩
theorem DA.at {H : Hp} {j n : Nat} {xs : List V} {i : Nat} {v : V} (h : DA K H j n xs) (e : xs[i]? = some v) : DV K H j n v := by
  obtain ⟨ds, a, b⟩ := h
  obtain ⟨d, k, p⟩ := a.get e
  exact ⟨d, p, b d (List.mem_of_getElem? k)⟩
theorem DA.nats {H : Hp} {l : List Nat} (h : ∀ x ∈ l, x < 10 ^ 40) : DA K H 0 0 (natV l) := by
  refine ⟨_, dp_natV l, fun d hd => ?_⟩
  rw [List.map_map] at hd
  obtain ⟨x, hx, rfl⟩ := List.mem_map.mp hd
  refine okd_int ?_
  have := h x hx
  show ((x : Nat) : Int).natAbs < 10 ^ 50
  have e : (10 : Nat) ^ 40 < 10 ^ 50 := by decide
  omega
theorem dpAll_rev {H : Hp} : ∀ {xs : List V} {ds : List PyData}, DpAll K H xs ds → DpAll K H xs.reverse ds.reverse
  | _, _, .nil => .nil
  | _, _, .cons h t => by
    rw [List.reverse_cons, List.reverse_cons]
    exact (dpAll_rev t).app (.cons h .nil)
theorem DA.rev {H : Hp} {j n : Nat} {xs : List V} (h : DA K H j n xs) : DA K H j n xs.reverse := by
  obtain ⟨ds, a, b⟩ := h
  exact ⟨ds.reverse, dpAll_rev a, fun x hx => b x (List.mem_reverse.mp hx)⟩
end
end XB
set_option Elab.async false
set_option linter.all false
set_option maxRecDepth 100000
set_option maxHeartbeats 4000000
namespace XB
open PySem PySem.Spec PyProof.Rows L2
/-- a pair of names that touch -/
structure PrV (K : PySem.W.Frag) (F : Fld) (H : Hp) (x : V) : Prop where
  ex : ∃ (b : Addr) (n1 n2 : Str), x = .ref b ∧ SqT K H b [.str n1, .str n2] ∧ n1 ∈ F.names ∧ n2 ∈ F.names ∧ apart F n1 n2 = false
theorem PrV.tk {K : PySem.W.Frag} {F : Fld} {H H' : Hp} {x : V} (h : PrV K F H x) (t : Tk H H') : PrV K F H' x := by
  obtain ⟨b, n1, n2, e, hs, r⟩ := h
  exact ⟨b, n1, n2, e, t.sqT hs, r⟩
/-- a block as it stands -/
structure BkV (K : PySem.W.Frag) (F : Fld) (m g B : Addr) (H : Hp) (x : V) (b : XM.Blk Str) : Prop where
  ex : ∃ (a d : Addr) (kvs : List (Key × V)), x = .ref a ∧ SqT K H a [.int (b.many : Int), .int (b.size : Int), .ref d] ∧ H d = some (.dK kvs) ∧ d ≠ m ∧ d ≠ g ∧ d ≠ B ∧
    ∀ n, n ∈ F.names → (∃ r, valV kvs (.inr n : Key) = some (V.ref r) ∧ r ≠ m ∧ r ≠ g ∧ r ≠ B ∧ H r = some (.lst (natV (b.turn n)))) ∨ (valV kvs (.inr n : Key) = none ∧ b.turn n = List.range b.many)
theorem BkV.stay {K : PySem.W.Frag} {F : Fld} {m g B : Addr} {H H' : Hp} {x : V} {b : XM.Blk Str} (h : BkV K F m g B H x b) (t : Tk H H') (k : ∀ a o, a ≠ m → a ≠ g → a ≠ B → H a = some o → H' a = some o) : BkV K F m g B H' x b := by
  obtain ⟨a, d, kvs, e, hs, hd, d1, d2, d3, q⟩ := h
  refine ⟨a, d, kvs, e, t.sqT hs, k _ _ d1 d2 d3 hd, d1, d2, d3, fun n hn => ?_⟩
  rcases q n hn with ⟨r, e1, r1, r2, r3, e2⟩ | h
  · exact .inl ⟨r, e1, r1, r2, r3, k _ _ r1 r2 r3 e2⟩
  · exact .inr h
theorem BkV.kp {K : PySem.W.Frag} {F : Fld} {m g B c : Addr} {s : Int} {H H' : Hp} {x : V} {b : XM.Blk Str} (h : BkV K F m g B H x b) (R : Dr H m c g s) (k : Kp m g H H') : BkV K F m g B H' x b :=
  h.stay (R.tk k) fun a o h1 h2 _ e => k a o h1 h2 e
theorem BkV.same {K : PySem.W.Frag} {F : Fld} {m g B : Addr} {H H' : Hp} {x : V} {b : XM.Blk Str} (h : BkV K F m g B H x b) (s : Same H H') : BkV K F m g B H' x b :=
  h.stay (Tk.of s) fun a o _ _ _ e => s a o e
theorem BkV.putB {K : PySem.W.Frag} {F : Fld} {m g B : Addr} {H : Hp} {x : V} {b : XM.Blk Str} {xs : List V} {o : HO} (h : BkV K F m g B H x b) (e : H B = some (.lst xs)) : BkV K F m g B (upd H B o) x b :=
  h.stay (Tk.refl.lst e) fun a o _ _ h3 e => by
    rw [upd_ne h3]
    exact e
def blkN (M w : Nat) (n1 n2 : Str) (t1 t2 : List Nat) : XM.Blk Str := ⟨M, w, fun n => if n = n2 then t2 else if n = n1 then t1 else List.range M⟩
theorem merge2 {k1 k2 : Key} {v1 v2 : V} (k : Key) : valV (mergeK [] [(k1, v1), (k2, v2)]) k = if k = k2 then some v2 else if k = k1 then some v1 else none := by
  unfold mergeK
  rw [List.foldl_cons, List.foldl_cons, List.foldl_nil, valV_put, valV_put]
  rfl
theorem BkV.new {K : PySem.W.Frag} {F : Fld} {m g B a d r1 r2 : Addr} {H : Hp} {M w : Nat} {n1 n2 : Str} {t1 t2 : List Nat} (ea : SqT K H a [.int (M : Int), .int (w : Int), .ref d])
    (ed : H d = some (.dK (mergeK [] [((.inr n1 : Key), V.ref r1), ((.inr n2 : Key), V.ref r2)]))) (hd : d ≠ m ∧ d ≠ g ∧ d ≠ B) (h1 : r1 ≠ m ∧ r1 ≠ g ∧ r1 ≠ B) (h2 : r2 ≠ m ∧ r2 ≠ g ∧ r2 ≠ B)
    (e1 : H r1 = some (.lst (natV t1))) (e2 : H r2 = some (.lst (natV t2))) : BkV K F m g B H (.ref a) (blkN M w n1 n2 t1 t2) := by
  refine ⟨a, d, _, rfl, ea, ed, hd.1, hd.2.1, hd.2.2, fun n hn => ?_⟩
  rw [merge2]
  show _ ∨ (_ ∧ (if n = n2 then t2 else if n = n1 then t1 else List.range M) = List.range M)
  by_cases q2 : n = n2
  · subst q2
    refine .inl ⟨r2, if_pos rfl, h2.1, h2.2.1, h2.2.2, ?_⟩
    rw [show (blkN M w n1 n t1 t2).turn n = t2 from if_pos rfl]
    exact e2
  · have q2' : ¬ (Sum.inr n : Key) = .inr n2 := fun q => q2 (Sum.inr.inj q)
    by_cases q1 : n = n1
    · subst q1
      refine .inl ⟨r1, by rw [if_neg q2', if_pos rfl], h1.1, h1.2.1, h1.2.2, ?_⟩
      rw [show (blkN M w n n2 t1 t2).turn n = t1 from (if_neg q2).trans (if_pos rfl)]
      exact e1
    · have q1' : ¬ (Sum.inr n : Key) = .inr n1 := fun q => q1 (Sum.inr.inj q)
      exact .inr ⟨by rw [if_neg q2', if_neg q1'], by rw [if_neg q2, if_neg q1]⟩
theorem blk_ok {F : Fld} (ok : F.Ok) {M w : Nat} {n1 n2 : Str} {t1 t2 : List Nat} (w0 : 0 < w) (m0 : 0 < M) (p1 : t1.Perm (List.range M)) (p2 : t2.Perm (List.range M)) (ha : apart F n1 n2 = false) :
    (blkN M w n1 n2 t1 t2).Ok (OF F) (· ∈ F.names) where
  sz := w0
  mn := m0
  pm := fun a _ => by
    show (if a = n2 then t2 else if a = n1 then t1 else List.range M).Perm (List.range M)
    split
    · exact p2
    · split
      · exact p1
      · exact List.Perm.refl _
  on := fun a c _ _ hac => by
    show (if a = n2 then t2 else if a = n1 then t1 else List.range M) = List.range M ∨ (if c = n2 then t2 else if c = n1 then t1 else List.range M) = List.range M
    rw [tc_eq ok] at hac
    have hac : apart F a c = true := by simpa using hac
    have hca : apart F c a = true := by
      unfold apart at hac ⊢
      rw [Bool.or_comm]
      exact hac
    by_cases a2 : a = n2
    · by_cases c2 : c = n2
      · rw [a2, c2, apart_ne ok] at hac
        cases hac
      · by_cases c1 : c = n1
        · rw [a2, c1, ha] at hca
          cases hca
        · exact .inr (by rw [if_neg c2, if_neg c1])
    · by_cases a1 : a = n1
      · by_cases c2 : c = n2
        · rw [a1, c2, ha] at hac
          cases hac
        · by_cases c1 : c = n1
          · rw [a1, c1, apart_ne ok] at hac
            cases hac
          · exact .inr (by rw [if_neg c2, if_neg c1])
      · exact .inl (by rw [if_neg a2, if_neg a1])
theorem blk_on (b : XM.Blk Str) (n : Str) (s : Nat) : XM.stN b.size b.many (fun h => (b.turn n).getD h 0) s = b.go n s := rfl
theorem goAll_snoc {bs : List (XM.Blk Str)} {j : Nat} {b : XM.Blk Str} (h : bs[j]? = some b) (n : Str) (s : Nat) : XM.goAll (bs.take (j + 1)) n s = b.go n (XM.goAll (bs.take j) n s) := by
  rw [take_snoc h]
  unfold XM.goAll
  rw [List.foldl_append]
  rfl
theorem touch_self {F : Fld} (ok : F.Ok) {n : Str} (h : n ∈ F.names) : 1 ≤ (touchL F n).length := by
  have : n ∈ touchL F n := List.mem_filter.mpr ⟨h, by rw [apart_ne ok]; rfl⟩
  exact List.length_pos_of_mem this
end XB
namespace XM
theorem chain_le {α : Type} [DecidableEq α] {O : Ord α} {P : α → Prop} : ∀ {bs : List (Blk α)} {w w' : Nat}, (∀ b ∈ bs, b.Ok O P) → Chain w bs w' → 0 < w → w ≤ w' ∧ ∀ b ∈ bs, b.size ≤ w'
  | [], w, w', _, h, _ => ⟨Nat.le_of_eq h, fun _ hb => nomatch hb⟩
  | b :: bs, w, w', ho, h, h0 => by
    have ob := ho b List.mem_cons_self
    have ih := chain_le (bs := bs) (fun c hc => ho c (List.mem_cons_of_mem _ hc)) h.2 (Nat.mul_pos h0 ob.mn)
    have : w ≤ w * b.many := Nat.le_mul_of_pos_right _ ob.mn
    refine ⟨Nat.le_trans this ih.1, fun c hc => ?_⟩
    rcases List.mem_cons.mp hc with e | hc
    · rw [e, h.1]
      exact Nat.le_trans this ih.1
    · exact ih.2 c hc
end XM
namespace XB
open PySem PySem.Spec PyProof.Rows L2
theorem rowV_succ {k : Nat} {g : Nat → Nat} : rowV (k + 1) g = rowV k g ++ [V.int ((g k : Nat) : Int)] := by
  unfold rowV
  rw [List.range_succ, List.map_append]
  rfl
theorem rg_natV {n : Nat} : rgV 0 (n : Int) = natV (List.range n) := by
  unfold rgV natV
  rw [show ((n : Int) - 0).toNat = n by omega]
  refine List.map_congr_left fun i _ => ?_
  rw [Int.zero_add]
theorem natV_rowV {n : Nat} : natV (List.range n) = rowV n fun x => x := rfl
end XB
set_option Elab.async false
set_option linter.all false
set_option maxRecDepth 100000
set_option maxHeartbeats 4000000
namespace XB
open PySem PySem.Spec PyProof.Rows L2
section
variable {P : Program} {w : World} {K : PySem.W.Frag} {mg : Str → Option Value} {base : Heap}
def spYard (K : PySem.W.Frag) : Sp := fun vs H Q _ => ∃ (m c g a : Addr) (s : Int) (F : Fld), vs = [.ref m, .ref a] ∧ Dr H m c g s ∧ Dp K H (.ref a) (dField F) ∧ F.Ok ∧ s < 900000000 ∧
  ∀ H' y N f s', Dr H' m c g s' → s' ≤ s + 30 → Kp m g H H' → YardAt K H' y F N f → XM.Yd (OF F) (· ∈ F.names) N f → 1 ≤ N → N ≤ 16 → Q (.ref y) H'
theorem c__law_yard (T : Tx K mg) : Cl P w K mg base CX0 4 "_law_yard" (spYard K) := by
  refine cl0 T.d__law_yard (ps := ["m", "field"]) (fun _ _ _ _ _ _ us hl => match us, hl with | [_, _], _ => rfl) sc__law_yard (fun vs H Q E h => ?_) (fun fa cdv A outer st H vs Q E hr h => ?_)
  · obtain ⟨m, c, g, a, s, F, rfl, _⟩ := h
    rfl
  · obtain ⟨m, c, g, a, s, F, rfl, R, hF, ok, hs9, q⟩ := h
    have nd := sc__law_yard.nd
    have hu : (A.deeper (envOfC "_law_yard" (defScope s__law_yard) st.heap.objs.size fa cdv)).units + 1 < cLine := by
      have := hr.units
      omega
    refine ⟨_, (pss_cons (ps_par3 (i := 2) (j := 3) (l := 4) rfl nd rfl rfl rfl (by decide) (by decide) (by decide) rfl rfl rfl (pa_cons (pe_lst pa_nil) (pa_cons (pe_lst pa_nil) (pa_cons pe_int pa_nil))) rfl)
    (pss_cons (ps_for PassesOwn.never rfl (pi_tup (pe_ix (ixk_tup (K := K) rfl) (pv 1) pe_int (fun _ _ => rfl))) (pg_name (i := 5) nd rfl (.inr rfl))
    (pss_one (ps_expr (pe_bm PySem.F.plainAttrs_list PySem.F.slot_list_extend PySem.F.type_list_extend mt_extend (pv 2) (pa_cons (pe_lc (own := [("other", 7)]) (g := (gName 7)) (tt := tYes) (by rfl) nd (pi_list (pe_k (c__law_touching T) hr (by decide) (by rfl) (pa_cons (pv 1) (pa_cons (pv 5) pa_nil)))) (blkOk_by (own := [("other", 7)]) (N := ["m", "field", "pairs_so", "blocks", "whole", "one", "turn", "other", "many", "rows", "name", "row", "size", "turns", "spot"]) (sc := defScope s__law_yard) (by decide +kernel)) (fun _ _ _ _ _ => (pg_name (i := 7) nd rfl (by first | exact Or.inl rfl | exact Or.inr rfl))) (fun _ _ _ _ _ => pts_nil) (fun _ _ _ _ _ => (pe_tup (pa_cons (pv 5) (pa_cons (pv 7) pa_nil))))) pa_nil)))))
    (pss_cons (ps_for PassesOwn.never rfl (pi_range1 (by rfl) T.b_range (pa_cons (pe_op op_add pe_int (pe_k (c_draw T) hr (by decide) (by rfl) (pa_cons (pv 0) (pa_cons pe_int pa_nil)))) pa_nil)) (pg_name (i := 6) nd rfl (.inr rfl))
    (pss_cons (ps_asg (pe_ix (ixk_list (K := K) rfl) (pv 2) (pe_k (c_draw T) hr (by decide) (by rfl) (pa_cons (pv 0) (pa_cons (pe_lenS (by rfl) T.b_len (pv 2)) pa_nil))) (fun _ _ => rfl)) (pg_tup rfl (pgs_cons (pg_name (i := 5) nd rfl (.inr rfl)) (pgs_cons (pg_name (i := 7) nd rfl (.inl rfl)) pgs_nil))))
    (pss_cons (ps_set (i := 8) nd rfl (.inr rfl) (pe_op op_add pe_int (pe_k (c_draw T) hr (by decide) (by rfl) (pa_cons (pv 0) (pa_cons pe_int pa_nil)))))
    (pss_cons (ps_expr (pe_bm PySem.F.plainAttrs_list PySem.F.slot_list_append PySem.F.type_list_append mt_append (pv 3) (pa_cons (pe_tup (pa_cons (pv 8) (pa_cons (pv 4) (pa_cons (pe_callTy (call_dictP rfl) (by rfl) T.b_dict (by decide +kernel) (pa_cons (pe_lst (pa_cons (pe_tup (pa_cons (pv 5) (pa_cons (pe_k (c__law_turn T) hr (by decide) (by rfl) (pa_cons (pv 0) (pa_cons (pv 8) pa_nil))) pa_nil))) (pa_cons (pe_tup (pa_cons (pv 7) (pa_cons (pe_k (c__law_turn T) hr (by decide) (by rfl) (pa_cons (pv 0) (pa_cons (pv 8) pa_nil))) pa_nil))) pa_nil))) pa_nil)) pa_nil)))) pa_nil)))
    (pss_one (ps_set (i := 4) nd rfl (.inl rfl) (pe_op op_mul (pv 4) (pv 8))))))))
    (pss_cons (ps_set (i := 9) nd rfl (.inl rfl) (pe_lst pa_nil))
    (pss_cons (ps_for PassesOwn.never rfl (pi_tup (pe_ix (ixk_tup (K := K) rfl) (pv 1) pe_int (fun _ _ => rfl))) (pg_name (i := 10) nd rfl (.inl rfl))
    (pss_cons (ps_set (i := 11) nd rfl (.inl rfl) (pe_listRg (by rfl) (by rfl) T.b_list (prg_1 (by rfl) T.b_range (pv 4))))
    (pss_cons (ps_for PassesOwn.never rfl (pi_list (pv 3)) (pg_tup rfl (pgs_cons (pg_name (i := 8) nd rfl (.inr rfl)) (pgs_cons (pg_name (i := 12) nd rfl (.inr rfl)) (pgs_cons (pg_name (i := 13) nd rfl (.inl rfl)) pgs_nil))))
    (pss_cons (ps_set (i := 6) nd rfl (.inr rfl) (pe_dget2 hu (pv 13) (pv 10) (pe_listRg (by rfl) (by rfl) T.b_list (prg_1 (by rfl) T.b_range (pv 8))) ⟨rfl, rfl, rfl, rfl⟩))
    (pss_one (ps_setLc (i := 11) (own := [("spot", 14)]) (g := (gName 14)) (tt := tYes) rfl nd rfl rfl (sw_true rfl rfl rfl (by decide +kernel)) (pi_list (pv 11)) (blkOk_by (own := [("spot", 14)]) (N := ["m", "field", "pairs_so", "blocks", "whole", "one", "turn", "other", "many", "rows", "name", "row", "size", "turns", "spot"]) (sc := defScope s__law_yard) (by decide +kernel)) (fun _ _ _ _ _ => (pg_name (i := 14) nd rfl (by first | exact Or.inl rfl | exact Or.inr rfl))) (fun _ _ _ _ _ => pts_nil) (fun _ _ _ _ _ => (pe_k (c__law_stepped T) hr (by decide) (by rfl) (pa_cons (pv 14) (pa_cons (pv 8) (pa_cons (pv 12) (pa_cons (pv 6) pa_nil))))))))))
    (pss_one (ps_expr (pe_bm PySem.F.plainAttrs_list PySem.F.slot_list_append PySem.F.type_list_append mt_append (pv 9) (pa_cons (pe_tupleOf (by rfl) T.b_tuple (pv 11)) pa_nil)))))))
    (pss_one (ps_ret (pe_tupleOf (by rfl) T.b_tuple (pv 9))))))))), ?_⟩
    obtain ⟨_, nm, p', ps, e, hA, hN, hP, hD⟩ := hF.field
    cases e
    have hl := ok.n6
    have hl0 := ok.n0
    refine ⟨Nat.zero_le _, fun P nP => upd_gen nP fun H1 s1 e1 => ⟨Nat.zero_le _, fun B nB => upd_gen nB fun H2 s2 e2 => ⟨_, _, _, rfl, ?_⟩⟩⟩
    have s12 := s1.trans s2
    have eP2 : H2 P = some (.lst []) := s2 _ _ e1
    have nB0 : H B = none := fresh_of s1 nB
    have hPB : B ≠ P := fun e => by
      rw [e, e1] at nB
      cases nB
    have mP := R.nm nP
    have mB := R.nm nB0
    refine ⟨_, rfl, ix0 ((Tk.of s12).sqT hA) ⟨nm, rfl, ⟨_, (Tk.of s12).sqT hN⟩, for_it (walk_tup (xs := F.names.map V.str)) (fun i σ H3 => ∃ (y5 : Option V) (ps : List V), σ = [some (.ref m), some (.ref a), some (.ref P), some (.ref B), some (.int 1), y5, none, none, none, none, none, none, none, none, none] ∧ Same H H3 ∧ H3 P = some (.lst ps) ∧ H3 B = some (.lst []) ∧ (∀ x ∈ ps, PrV K F H3 x) ∧ i ≤ ps.length ∧ ps.length ≤ 6 * i)
      ⟨none, [], rfl, s12, eP2, e2, (fun _ h => nomatch h), Nat.le_refl _, Nat.zero_le _⟩ (fun i σ H3 _ ⟨_, _, _, s3, _⟩ => (Tk.of s3).sqT hN) (fun i x σ H3 H3' hi ⟨y5, ps, eσ, s3, eP, eB, hps, hl1, hl2⟩ hy => ?_) (fun σ H3 ⟨y5, ps, eσ, s3, eP, eB, hps, hl1, hl2⟩ => ?_)⟩⟩
    · obtain ⟨rfl, hx⟩ := hy
      obtain ⟨o, ho, rfl⟩ := str_at hx
      subst eσ
      have mo := List.mem_of_getElem? ho
      have hi' : i < F.names.length := by rw [List.length_map] at hi; exact hi
      refine ⟨_, rfl, Or.inl ⟨rfl, _, SqL.of eP⟩, ?_⟩
      refine ⟨_, rfl, _, rfl, a, F, o, rfl, tF hF s3, ok, mo, fun H4 r s4 n4 e4 => ⟨r, rfl, ⟨_, SqL.of e4⟩, fun D nD => ?_⟩⟩
      have tl : (touchL F o).length ≤ 6 := Nat.le_trans (List.length_filter_le _ _) hl
      refine lc_it (walk_list (xs := (touchL F o).map V.str)) (fun j H' => ∃ ys, H' D = some (.lst ys) ∧ ys.length = j ∧ (∀ x ∈ ys, PrV K F H' x) ∧ Same H4 H') ⟨[], upd_same, rfl, (fun _ h => nomatch h), same_upd nD⟩ (fun _ _ _ ⟨_, _, _, _, s'⟩ => s'.seq (SqL.of e4)) (fun j x H5 H6 hj ⟨ys, eD, ly, hy, s5⟩ hx => ?_) (fun H5 ⟨ys, eD, ly, hy, s5⟩ => ?_)
      · obtain ⟨rfl, hx⟩ := hx
        obtain ⟨t, ht, rfl⟩ := str_at hx
        rw [List.length_map] at hj
        have mt := List.mem_filter.mp (List.mem_of_getElem? ht)
        refine ⟨rfl, yes_ ⟨_, rfl, _, rfl, two_sz, fun b nb => upd_gen nb fun H7 s7 e7 => ⟨_, s7 _ _ eD, small1000 (by omega), _, upd_same, by rw [List.length_append, ly]; rfl, fun z hz => ?_, same_put (s5.trans s7) nD⟩⟩⟩
        rcases List.mem_append.mp hz with hz | hz
        · exact (hy z hz).tk ((Tk.of s7).lst (s7 _ _ eD))
        · rw [List.mem_singleton.mp hz]
          exact PrV.tk ⟨b, o, t, rfl, SqT.of e7, mo, mt.1, by simpa using mt.2⟩ (Tk.refl.lst (s7 _ _ eD))
      · rw [List.length_map] at ly
        have hDP : D ≠ P := fun e => by
          rw [e, s4 _ _ eP] at nD
          cases nD
        have eP5 := s5 _ _ (s4 _ _ eP)
        have h1 := touch_self ok mo
        refine ⟨P, D, ps, ys, rfl, rfl, eP5, eD, Nat.le_of_lt (small1000 (by omega)), ?_⟩
        refine ⟨_, ps ++ ys, rfl, same_put ((s3.trans s4).trans s5) nP, upd_same, ?_, fun z hz => ?_, by rw [List.length_append]; omega, by rw [List.length_append]; omega⟩
        · rw [upd_ne hPB]
          exact s5 _ _ (s4 _ _ eB)
        · rcases List.mem_append.mp hz with hz | hz
          · exact (hps z hz).tk ((Tk.of (s4.trans s5)).lst eP5)
          · exact (hy z hz).tk (Tk.refl.lst eP5)
    · subst eσ
      rw [List.length_map] at hl1 hl2
      have R3 := R.same s3
      refine ⟨_, rfl, m, c, g, s, 2, rfl, R3, by decide, by decide, by omega, fun r1 H4 r10 r11 R4 k4 => ⟨_, _, rfl, rfl, ?_⟩⟩
      obtain ⟨n1, en1⟩ : ∃ n1 : Nat, 1 + r1 = (n1 : Int) := ⟨(1 + r1).toNat, by omega⟩
      refine ⟨(n1 : Int), (show [V.int (1 + r1)] = _ by rw [en1]), by omega, by omega, ?_⟩
      have eP4 := k4 _ _ mP.1 mP.2.2 eP
      have eB4 := k4 _ _ mB.1 mB.2.2 eB
      have hps4 : ∀ x ∈ ps, PrV K F H4 x := fun x hx => (hps x hx).tk (R3.tk k4)
      clear hps
      refine for_range (lo := 0) (n := n1) (fun i σ H5 => ∃ (y5 y6 y7 y8 : Option V) (N : Nat) (bs : List (XM.Blk Str)) (xs : List V) (s5 : Int), σ = [some (.ref m), some (.ref a), some (.ref P), some (.ref B), some (.int (N : Int)), y5, y6, y7, y8, none, none, none, none, none, none] ∧ Kp m g H H5 ∧ Dr H5 m c g s5 ∧ s5 ≤ s + 1 + 10 * i ∧ H5 P = some (.lst ps) ∧ (∀ x ∈ ps, PrV K F H5 x) ∧
          H5 B = some (.lst xs) ∧ Paired (BkV K F m g B H5) xs bs ∧ XM.Chain 1 bs N ∧ (∀ b ∈ bs, b.Ok (OF F) (· ∈ F.names)) ∧ (∀ b ∈ bs, b.many ≤ 4) ∧ bs.length = i ∧ N ≤ 4 ^ i ∧ 0 < N)
        ⟨_, _, _, _, 1, [], [], s + 1, rfl, (Kp.of s3).trans k4, R4, by omega, eP4, hps4, eB4, .nil, rfl, (fun _ h => nomatch h), (fun _ h => nomatch h), rfl, Nat.le_refl _, Nat.zero_lt_one⟩ (fun i σ H5 hi ⟨y5, y6, y7, y8, N, bs, xs, s5, eσ, k5, R5, hs5, eP5, hps5, eB5, hb, hc, hok, hm4, hbl, hN4, hN0⟩ => ?_) (fun σ H5 ⟨y5, y6, y7, y8, N, bs, xs, s5, eσ, k5, R5, hs5, eP5, hps5, eB5, hb, hc, hok, hm4, hbl, hN4, hN0⟩ => ?_)
      · subst eσ
        have hpl : 0 < ps.length := by omega
        refine ⟨_, rfl, _, rfl, _, rfl, P, ps, rfl, .inl (SqL.of eP5), m, c, g, s5, _, rfl, R5, by omega, by omega, by omega, fun r6 H6 r60 r61 R6 k6 => ?_⟩
        obtain ⟨jp, hjp⟩ : ∃ a : Nat, r6 = (a : Int) := ⟨r6.toNat, by omega⟩
        have hx : ps[jp]? = some ps[jp] := List.getElem?_eq_getElem (by omega)
        have hxm := List.mem_of_getElem? hx
        generalize ps[jp] = x at hx hxm
        have eP6 := k6 _ _ mP.1 mP.2.2 eP5
        have eB6 := k6 _ _ mB.1 mB.2.2 eB5
        obtain ⟨pb, o1, o2, rfl, hpb, mo1, mo2, hap⟩ := (hps5 x hxm).tk (R5.tk k6)
        refine ⟨P, ps, r6, .ref pb, rfl, rfl, SqL.of eP6, at_of hjp hx, pb, _, rfl, hpb, rfl, _, _, rfl, _, _, rfl, rfl, ?_⟩
        refine ⟨_, rfl, m, c, g, s5 + 1, 4, rfl, R6, by decide, by decide, by omega, fun r7 H7 r70 r71 R7 k7 => ⟨_, _, rfl, rfl, ?_⟩⟩
        obtain ⟨M, eM⟩ : ∃ M : Nat, 1 + r7 = (M : Int) := ⟨(1 + r7).toNat, by omega⟩
        show gName 8 (V.int (1 + r7)) _ _ _
        rw [eM]
        have eP7 := k7 _ _ mP.1 mP.2.2 eP6
        have eB7 := k7 _ _ mB.1 mB.2.2 eB6
        have t57 := (R5.tk k6).trans (R6.tk k7)
        have N4 : N ≤ 4 := by
          have : i ≤ 1 := by omega
          refine Nat.le_trans hN4 ?_
          rcases (show i = 0 ∨ i = 1 by omega) with h | h <;> rw [h] <;> decide
        refine ⟨_, rfl, Or.inl ⟨rfl, _, SqL.of eB7⟩, ?_⟩
        refine ⟨_, rfl, _, rfl, _, rfl, _, rfl, _, rfl, m, c, g, s5 + 1 + 1, M, rfl, R7, by omega, by omega, by omega, fun H8 ra t1 s8 R8 hs8 k8 n8 e8 p1 => ⟨two_sz, fun a1 na1 => upd_gen na1 fun H9 s9 e9 => ?_⟩⟩
        refine ⟨_, rfl, _, rfl, _, rfl, m, c, g, s8, M, rfl, R8.same s9, by omega, by omega, by omega, fun H10 rb t2 s10 R10 hs10 k10 n10 e10 p2 => ⟨two_sz, fun a2 na2 => upd_gen na2 fun H11 s11 e11 => ⟨two_sz, fun L nL => upd_gen nL fun H12 s12 e12 => ?_⟩⟩⟩
        have m8 := R7.nm n8
        have m10 := (R8.same s9).nm n10
        have R9 := R8.same s9
        have R12 := (R10.same s11).same s12
        have t912 := ((R9.tk k10).trans (Tk.of s11)).trans (Tk.of s12)
        refine ⟨L, [a1, a2], [((.inr o1 : Key), V.ref ra), ((.inr o2 : Key), V.ref rb)], rfl, SqL.of e12, .cons (t912.sqT (SqT.of e9)) (.cons ((Tk.of s12).sqT (SqT.of e11)) .nil), fun d nd' => upd_gen nd' fun H13 s13 e13 => ⟨three_sz, fun ab nab => upd_gen nab fun H14 s14 e14 => ?_⟩⟩
        have md := R12.nm nd'
        have k914 : Kp m g H9 H14 := (((k10.trans (Kp.of s11)).trans (Kp.of s12)).trans (Kp.of s13)).trans (Kp.of s14)
        have k814 : Kp m g H8 H14 := (Kp.of s9).trans k914
        have k714 : Kp m g H7 H14 := k8.trans k814
        have k1014 : Kp m g H10 H14 := (((Kp.of s11).trans (Kp.of s12)).trans (Kp.of s13)).trans (Kp.of s14)
        have k514 : Kp m g H5 H14 := (k6.trans k7).trans k714
        have R14 := (R12.same s13).same s14
        have eB14 := k714 _ _ mB.1 mB.2.2 eB7
        have eP14 := k714 _ _ mP.1 mP.2.2 eP7
        have eB12 : H12 B = some (.lst xs) := (((k8.trans (Kp.of s9)).trans k10).trans ((Kp.of s11).trans (Kp.of s12))) _ _ mB.1 mB.2.2 eB7
        have eB9 : H9 B = some (.lst xs) := (k8.trans (Kp.of s9)) _ _ mB.1 mB.2.2 eB7
        have raB : ra ≠ B := fun e => by
          rw [e, eB7] at n8
          cases n8
        have rbB : rb ≠ B := fun e => by
          rw [e, eB9] at n10
          cases n10
        have dB : d ≠ B := fun e => by
          rw [e, eB12] at nd'
          cases nd'
        have hlx : xs.length = bs.length := Paired.length hb
        have nb : BkV K F m g B H14 (.ref ab) (blkN M N o1 o2 t1 t2) := BkV.new (SqT.of e14) (s14 _ _ e13) ⟨md.1, md.2.2, dB⟩ ⟨m8.1, m8.2.2, raB⟩ ⟨m10.1, m10.2.2, rbB⟩ (k814 _ _ m8.1 m8.2.2 e8) (k1014 _ _ m10.1 m10.2.2 e10)
        have bk : (blkN M N o1 o2 t1 t2).Ok (OF F) (· ∈ F.names) := blk_ok ok hN0 (by omega) p1 p2 hap
        refine ⟨B, xs, _, rfl, rfl, eB14, small1000 (by omega), ?_⟩
        refine ⟨_, rfl, _, rfl, _, _, rfl, rfl, .inl ⟨by omega, by omega⟩, ?_⟩
        refine ⟨_, _, _, _, N * M, bs ++ [blkN M N o1 o2 t1 t2], xs ++ [.ref ab], _, rfl, Kp.put (k5.trans k514) nB0, R14.put mB, by omega, ?_, fun z hz => ?_, upd_same, ?_, ?_, fun b hb' => ?_, fun b hb' => ?_, by rw [List.length_append, hbl]; rfl, ?_, Nat.mul_pos hN0 (by omega)⟩
        · rw [upd_ne hPB.symm]
          exact eP14
        · exact ((hps5 z hz).tk (R5.tk k514)).tk (Tk.refl.lst eB14)
        · exact Paired.snoc (Paired.mono (fun _ _ h => (h.kp R5 k514).putB eB14) hb) (nb.putB eB14)
        · exact XM.chain_snoc hc rfl
        · rcases List.mem_append.mp hb' with h | h
          · exact hok b h
          · rw [List.mem_singleton.mp h]
            exact bk
        · rcases List.mem_append.mp hb' with h | h
          · exact hm4 b h
          · rw [List.mem_singleton.mp h]
            show M ≤ 4
            omega
        · rw [Nat.pow_succ]
          exact Nat.mul_le_mul hN4 (by omega)
      · subst eσ
        have h16 : N ≤ 16 := by
          refine Nat.le_trans hN4 ?_
          rcases (show n1 = 0 ∨ n1 = 1 ∨ n1 = 2 by omega) with h | h | h <;> rw [h] <;> decide
        have hsz := (XM.chain_le hok hc Nat.zero_lt_one).2
        have Y := XM.yd_of hok hc
        refine ⟨Nat.zero_le _, fun D nD => upd_gen nD fun H6 s6 e6 => ?_⟩
        have t6 : Tk H H6 := (R.tk k5).trans (Tk.of s6)
        have nDB : D ≠ B := fun e => by
          rw [e, eB5] at nD
          cases nD
        refine ⟨_, rfl, ix0 (t6.sqT hA) ⟨nm, rfl, ⟨_, t6.sqT hN⟩, for_it (walk_tup (xs := F.names.map V.str)) (fun i σ H7 => ∃ (y6 y8 y10 y11 y12 y13 : Option V) (ys : List V), σ = [some (.ref m), some (.ref a), some (.ref P), some (.ref B), some (.int (N : Int)), y5, y6, y7, y8, some (.ref D), y10, y11, y12, y13, none] ∧ Same H5 H7 ∧ H7 D = some (.lst ys) ∧ ys.length = i ∧
            (∀ j n, j < i → F.names[j]? = some n → ∃ b, ys[j]? = some (.ref b) ∧ SqT K H7 b (rowV N (XM.goAll bs n))))
          ⟨_, _, _, _, _, _, [], rfl, s6, e6, rfl, (fun j n h => absurd h (Nat.not_lt_zero _))⟩ (fun i σ H7 _ ⟨_, _, _, _, _, _, _, _, s7, _⟩ => ((R.tk k5).trans (Tk.of s7)).sqT hN) (fun i x σ H7 H7' hi ⟨y6, y8, y10, y11, y12, y13, ys, eσ, s7, eD, hly, hrow⟩ hy => ?_) (fun σ H7 ⟨y6, y8, y10, y11, y12, y13, ys, eσ, s7, eD, hly, hrow⟩ => ?_)⟩⟩
        · obtain ⟨rfl, hx⟩ := hy
          obtain ⟨n, hn, rfl⟩ := str_at hx
          subst eσ
          have mn := List.mem_of_getElem? hn
          rw [List.length_map] at hi
          refine ⟨_, rfl, _, rfl, RgOk.of_le (by omega) (by omega) (by omega) (by omega), fun r8 n8 => upd_gen n8 fun H8 s8 e8 => ?_⟩
          rw [rg_natV, natV_rowV] at e8
          have s58 := s7.trans s8
          have hb8 := Paired.mono (fun _ _ h => BkV.same h s58) hb
          refine ⟨_, rfl, B, rfl, ⟨_, SqL.of (s58 _ _ eB5)⟩, for_it (walk_list (xs := xs)) (fun j σ H9 => ∃ (y6 y8 y12 y13 : Option V) (r9 : Addr), σ = [some (.ref m), some (.ref a), some (.ref P), some (.ref B), some (.int (N : Int)), y5, y6, y7, y8, some (.ref D), some (.str n), some (.ref r9), y12, y13, none] ∧ Same H8 H9 ∧ H9 r9 = some (.lst (rowV N (XM.goAll (bs.take j) n))))
            ⟨_, _, _, _, r8, rfl, Same.refl _, e8⟩ (fun j σ H9 _ ⟨_, _, _, _, _, _, s9, _⟩ => SqL.of ((s58.trans s9) _ _ eB5)) (fun j x σ H9 H9' hj ⟨z6, z8, z12, z13, r9, eσ, s9, e9⟩ hy => ?_) (fun σ H9 ⟨z6, z8, z12, z13, r9, eσ, s9, e9⟩ => ?_)⟩
          · obtain ⟨rfl, hx⟩ := hy
            subst eσ
            obtain ⟨b, hbj, hbv⟩ := Paired.get hb8 hx
            have mb := List.mem_of_getElem? hbj
            have okb := hok b mb
            have m4 := hm4 b mb
            have sb := hsz b mb
            obtain ⟨ab, d, kvs, rfl, hab, hd, _, _, _, hturn⟩ := hbv.same s9
            refine ⟨ab, _, rfl, hab, rfl, _, _, rfl, _, _, rfl, _, _, rfl, rfl, ?_⟩
            refine ⟨_, rfl, d, rfl, .inl ⟨kvs, .inl hd⟩, _, rfl, _, rfl, _, rfl, RgOk.of_le (by omega) (by omega) (by omega) (by omega), fun L nL => upd_gen nL fun H10 s10 e10 => ⟨valV kvs (.inr n : Key), DGet.k (k := (.inr n : Key)) (s10 _ _ hd), ?_⟩⟩
            rw [rg_natV] at e10
            obtain ⟨rt, ert, et⟩ : ∃ rt, (valV kvs (.inr n : Key)).getD (.ref L) = V.ref rt ∧ H10 rt = some (.lst (natV (b.turn n))) := by
              rcases hturn n mn with ⟨r, e1, _, _, _, e2⟩ | ⟨e1, e2⟩
              · exact ⟨r, by rw [e1]; rfl, s10 _ _ e2⟩
              · exact ⟨L, by rw [e1]; rfl, by rw [e2]; exact e10⟩
            show gName 6 ((valV kvs (.inr n : Key)).getD (.ref L)) _ _ _
            rw [ert]
            have e9' : H10 r9 = some (.lst (rowV N (XM.goAll (bs.take j) n))) := s10 _ _ e9
            refine ⟨_, rfl, r9, rfl, ⟨_, SqL.of e9'⟩, fun D9 nD9 => ?_⟩
            refine lc_it (walk_list (xs := rowV N (XM.goAll (bs.take j) n))) (fun k H' => H' D9 = some (.lst (rowV k (XM.goAll (bs.take (j + 1)) n))) ∧ Same H10 H') ⟨upd_same, same_upd nD9⟩ (fun _ _ _ ⟨_, s'⟩ => SqL.of (s' _ _ e9')) (fun k y H11 H12 hk ⟨eD9, s11⟩ hy => ?_) (fun H11 ⟨eD9, s11⟩ => ?_)
            · obtain ⟨rfl, hy⟩ := hy
              rw [rowV_len] at hk
              rw [rowV_at hk] at hy
              cases hy
              refine ⟨rfl, yes_ ⟨_, rfl, _, rfl, _, rfl, _, rfl, _, b.many, b.size, rt, b.turn n, rfl, okb.mn, by omega, okb.sz, by omega, okb.pm n mn, s11 _ _ et, ?_⟩⟩
              refine ⟨_, eD9, by rw [rowV_len]; exact small1000 (by omega), ?_, same_put s11 nD9⟩
              rw [upd_same, rowV_succ, goAll_snoc hbj]
              rfl
            · rw [rowV_len] at eD9
              exact ⟨_, _, _, _, D9, rfl, (s9.trans s10).trans s11, eD9⟩
          · subst eσ
            have hxl : xs.length = bs.length := Paired.length hb
            rw [hxl, List.take_length] at e9
            have s59 := s58.trans s9
            have eD9 : H9 D = some (.lst ys) := (s8.trans s9) _ _ eD
            refine ⟨_, rfl, .inl ⟨rfl, _, SqL.of eD9⟩, _, rfl, .inl ⟨r9, _, rfl, SqL.of e9, fun y ny => upd_gen ny fun H10 s10 e10 => ?_⟩⟩
            have eD10 := s10 _ _ eD9
            refine ⟨D, ys, _, rfl, rfl, eD10, small1000 (by omega), ?_⟩
            refine ⟨_, _, _, _, _, _, ys ++ [.ref y], rfl, same_put (s59.trans s10) nD, upd_same, by rw [List.length_append, hly]; rfl, fun k nn hk hnn => ?_⟩
            by_cases hki : k < i
            · obtain ⟨b, h1, h2⟩ := hrow k nn hki hnn
              exact ⟨b, by rw [List.getElem?_append_left (by omega)]; exact h1, (((Tk.of (s8.trans s9)).trans (Tk.of s10)).lst eD10).sqT h2⟩
            · have : k = i := by omega
              subst this
              rw [hn] at hnn
              cases hnn
              exact ⟨y, by rw [← hly, List.getElem?_concat_length], (Tk.refl.lst eD10).sqT (SqT.of e10)⟩
        · subst eσ
          rw [List.length_map] at hly
          refine ⟨_, rfl, .inl ⟨D, ys, rfl, SqL.of eD, fun y ny => upd_gen ny fun H9 s9 e9 => ?_⟩⟩
          refine q H9 y N (XM.goAll bs) _ ((R5.same s7).same s9) (by omega) (k5.trans ((Kp.of s7).trans (Kp.of s9))) ⟨ys, SqT.of e9, hly, fun j nn hj => ?_⟩ Y hN0 h16
          have hjl : j < F.names.length := (List.getElem?_eq_some_iff.mp hj).1
          obtain ⟨b, h1, h2⟩ := hrow j nn (by rw [List.length_map]; exact hjl) hj
          exact ⟨b, h1, (Tk.of s9).sqT h2⟩
end
end XB
set_option Elab.async false
set_option linter.all false
set_option maxRecDepth 100000
set_option maxHeartbeats 8000000
namespace XB
open PySem PySem.Spec PyProof.Rows L2
/-- all but the draws' state and one list stands -/
def KR (m g r : Addr) (H H' : Hp) : Prop := ∀ b o, b ≠ m → b ≠ g → b ≠ r → H b = some o → H' b = some o
theorem KR.refl {m g r : Addr} {H : Hp} : KR m g r H H := fun _ _ _ _ _ e => e
theorem KR.same {m g r : Addr} {H H1 H2 : Hp} (a : KR m g r H H1) (s : Same H1 H2) : KR m g r H H2 := fun b o n1 n2 n3 e => s b o (a b o n1 n2 n3 e)
theorem KR.kp {m g r : Addr} {H H1 H2 : Hp} (a : KR m g r H H1) (s : Kp m g H1 H2) : KR m g r H H2 := fun b o n1 n2 n3 e => s b o n1 n2 (a b o n1 n2 n3 e)
theorem KR.put {m g r : Addr} {H H1 : Hp} {o : HO} (a : KR m g r H H1) : KR m g r H (upd H1 r o) := fun b u n1 n2 n3 e => by
  rw [upd_ne n3]
  exact a b u n1 n2 n3 e
section
variable {K : PySem.W.Frag}
theorem sufI {H : Hp} {a : Addr} {xs : List V} {k : Nat} {z : Int} {Q : VK} (hz : z = (k : Int)) (h : SqT K H a xs) (q : ∀ H' p, Same H H' → SqT K H' p (xs.drop k) → Q (.ref p) H') : rSlA K (.ref a) (some z) none H Q := by
  subst hz
  exact sl_suf h q
theorem DA.mono {H : Hp} {j n j' n' : Nat} {xs : List V} (h : DA K H j n xs) (hj : j ≤ j') (hn : n ≤ n') : DA K H j' n' xs := by
  obtain ⟨ds, a, b⟩ := h
  exact ⟨ds, a, fun d hd => (b d hd).mono hj hn⟩
theorem dpAll_get {H : Hp} : ∀ {xs : List V} {ds : List PyData}, xs.length = ds.length → (∀ (i : Nat) v d, xs[i]? = some v → ds[i]? = some d → Dp K H v d) → DpAll K H xs ds
  | [], [], _, _ => .nil
  | x :: xs, d :: ds, hl, h => .cons (h 0 x d rfl rfl) (dpAll_get (by simpa using hl) fun i v e h1 h2 => h (i + 1) v e h1 h2)
theorem rowV_dp {H : Hp} {N : Nat} {g : Nat → Nat} : DpAll K H (rowV N g) ((List.range N).map fun x => PyData.int ((g x : Nat) : Int)) := by
  unfold rowV
  generalize List.range N = l
  induction l with
  | nil => exact .nil
  | cons x l ih => exact .cons (.int _) ih
theorem rowV_ok {N : Nat} {g : Nat → Nat} (lt : ∀ x, x < N → g x < N) (n16 : N ≤ 16) : ∀ d ∈ ((List.range N).map fun x => PyData.int ((g x : Nat) : Int)), Okd 0 0 d := fun d hd => by
  obtain ⟨x, hx, rfl⟩ := List.mem_map.mp hd
  have := lt x (List.mem_range.mp hx)
  refine okd_int ?_
  show ((g x : Nat) : Int).natAbs < 10 ^ 50
  have e : (16 : Nat) < 10 ^ 50 := by decide
  omega
theorem rowV_DA {H : Hp} {N : Nat} {g : Nat → Nat} (lt : ∀ x, x < N → g x < N) (n16 : N ≤ 16) : DA K H 2 20 (rowV N g) := ⟨_, rowV_dp, fun d hd => (rowV_ok lt n16 d hd).mono (by decide) (by decide)⟩
theorem yard_dp {H : Hp} {ys : List V} {F : Fld} {N : Nat} {f : Str → Nat → Nat} (lys : ys.length = F.names.length) (hrow : ∀ (i : Nat) (n : Str), F.names[i]? = some n → ∃ b, ys[i]? = some (.ref b) ∧ SqT K H b (rowV N (f n))) : DpAll K H ys (F.names.map fun n => dRowN N (f n)) := by
  refine dpAll_get (by rw [lys, List.length_map]) fun i v d h1 h2 => ?_
  rw [List.getElem?_map] at h2
  obtain ⟨n, hn, rfl⟩ := Option.map_eq_some_iff.mp h2
  obtain ⟨b, e1, e2⟩ := hrow i n hn
  cases e1.symm.trans h1
  exact .tup e2 rowV_dp
theorem yard_ok {F : Fld} {N : Nat} {f : Str → Nat → Nat} (lt : ∀ n ∈ F.names, ∀ x, x < N → f n x < N) (n16 : N ≤ 16) : ∀ d ∈ (F.names.map fun n => dRowN N (f n)), Okd 3 400 d := fun d hd => by
  obtain ⟨n, hn, rfl⟩ := List.mem_map.mp hd
  exact (okd_tup (rowV_ok (lt n hn) n16) (k := 16) (by rw [List.length_map, List.length_range]; exact n16)).mono (by decide) (by decide)
theorem yard_DA {H : Hp} {ys : List V} {F : Fld} {N : Nat} {f : Str → Nat → Nat} (lys : ys.length = F.names.length) (hrow : ∀ (i : Nat) (n : Str), F.names[i]? = some n → ∃ b, ys[i]? = some (.ref b) ∧ SqT K H b (rowV N (f n))) (lt : ∀ n ∈ F.names, ∀ x, x < N → f n x < N) (n16 : N ≤ 16) : DA K H 3 400 ys :=
  ⟨_, yard_dp lys hrow, yard_ok lt n16⟩
end
section
variable {P : Program} {w : World} {K : PySem.W.Frag} {mg : Str → Option Value} {base : Heap}
def spBent (K : PySem.W.Frag) : Sp := fun vs H Q _ => ∃ (m c g y : Addr) (s : Int) (F : Fld) (N : Nat) (f : Str → Nat → Nat), vs = [.ref m, .ref y] ∧ Dr H m c g s ∧ F.Ok ∧ YardAt K H y F N f ∧ XM.Yd (OF F) (· ∈ F.names) N f ∧ 1 ≤ N ∧ N ≤ 16 ∧ s < 900000000 ∧
  ∀ H' v d s', Dr H' m c g s' → s' ≤ s + 20 → Kp m g H H' → Dp K H' v d → Okd 4 3000 d → Q v H'
theorem c__law_bent (T : Tx K mg) : Cl P w K mg base CX0 4 "_law_bent" (spBent K) := by
  refine cl0 T.d__law_bent (ps := ["m", "yard"]) (fun _ _ _ _ _ _ us hl => match us, hl with | [_, _], _ => rfl) sc__law_bent (fun vs H Q E h => ?_) (fun fa cdv A outer st H vs Q E hr h => ?_)
  · obtain ⟨m, c, g, y, s, F, N, f, rfl, _⟩ := h
    rfl
  · obtain ⟨m, c, g, y, s, F, N, f, rfl, R, ok, hY, Y, n1, n2, hs9, q⟩ := h
    have nd := sc__law_bent.nd
    refine ⟨_, (pss_cons (ps_par (i := 2) (j := 3) rfl nd rfl rfl (by decide) rfl rfl (pa_cons (pe_k (c_draw T) hr (by decide) (by rfl) (pa_cons (pv 0) (pa_cons (pe_lenS (by rfl) T.b_len (pv 1)) pa_nil))) (pa_cons (pe_lenS (by rfl) T.b_len (pe_ix (ixk_tup (K := K) rfl) (pv 1) pe_int (fun _ _ => rfl))) pa_nil)) rfl)
    (pss_cons (ps_set (i := 4) nd rfl (.inl rfl) (pe_ix (ixk_list (K := K) rfl) (pe_lst (pa_cons pe_non (pa_cons pe_int (pa_cons (pe_tup pa_nil) (pa_cons (pe_lst (pa_cons pe_int pa_nil)) (pa_cons pe_str (pa_cons (pe_tup (pa_cons pe_int pa_nil)) (pa_cons (pe_tup (pa_cons pe_bl pa_nil)) (pa_cons (pe_tup (pa_cons pe_int (pa_cons pe_int pa_nil))) (pa_cons (pe_tup (pa_cons (pv 3) pa_nil)) pa_nil)))))))))) (pe_k (c_draw T) hr (by decide) (by rfl) (pa_cons (pv 0) (pa_cons pe_int pa_nil))) (fun _ _ => rfl)))
    (pss_cons (ps_set (i := 5) nd rfl (.inl rfl) (pe_lst (pa_cons (pv 4) (pa_cons (pe_callTy call_list_of (by rfl) T.b_list (by decide +kernel) (pa_cons (pv 1) pa_nil)) (pa_cons (pe_op (op_catAk (K := K) rfl) (pe_op (op_catAk (K := K) rfl) (pe_slice sl_tupA (pv 1) po_none (po_some (pv 2))) (pe_tup (pa_cons (pv 4) pa_nil))) (pe_slice sl_tupA (pv 1) (po_some (pe_op op_add (pv 2) pe_int)) po_none)) (pa_cons (pe_op (op_catAk (K := K) rfl) (pv 1) (pe_tup (pa_cons (pe_ix (ixk_tup (K := K) rfl) (pv 1) pe_int (fun _ _ => rfl)) pa_nil))) (pa_cons (pe_slice sl_tupA (pv 1) (po_some pe_int) po_none) (pa_cons (pe_op (op_catAk (K := K) rfl) (pe_tup (pa_cons (pv 4) pa_nil)) (pe_slice sl_tupA (pv 1) (po_some pe_int) po_none)) pa_nil))))))))
    (pss_cons (ps_par (i := 6) (j := 7) rfl nd rfl rfl (by decide) rfl rfl (pa_cons (pe_k (c_draw T) hr (by decide) (by rfl) (pa_cons (pv 0) (pa_cons (pv 3) pa_nil))) (pa_cons (pe_ix (ixk_tup (K := K) rfl) (pv 1) (pv 2) (fun _ _ => rfl)) pa_nil)) rfl)
    (pss_cons (ps_expr (pe_bm PySem.F.plainAttrs_list PySem.F.slot_list_append PySem.F.type_list_append mt_append (pv 5) (pa_cons (pe_op (op_catAk (K := K) rfl) (pe_op (op_catAk (K := K) rfl) (pe_slice sl_tupA (pv 1) po_none (po_some (pv 2))) (pe_tup (pa_cons (pe_op (op_catAk (K := K) rfl) (pe_op (op_catAk (K := K) rfl) (pe_slice sl_tupA (pv 7) po_none (po_some (pv 6))) (pe_tup (pa_cons (pv 4) pa_nil))) (pe_slice sl_tupA (pv 7) (po_some (pe_op op_add (pv 6) pe_int)) po_none)) pa_nil))) (pe_slice sl_tupA (pv 1) (po_some (pe_op op_add (pv 2) pe_int)) po_none)) pa_nil)))
    (pss_cons (ps_expr (pe_bm PySem.F.plainAttrs_list PySem.F.slot_list_append PySem.F.type_list_append mt_append (pv 5) (pa_cons (pe_op (op_catAk (K := K) rfl) (pe_op (op_catAk (K := K) rfl) (pe_slice sl_tupA (pv 1) po_none (po_some (pv 2))) (pe_tup (pa_cons (pe_op (op_catAk (K := K) rfl) (pe_op (op_catAk (K := K) rfl) (pe_slice sl_tupA (pv 7) po_none (po_some (pv 6))) (pe_tup (pa_cons (pe_ix (ixk_tup (K := K) rfl) (pv 7) pe_int (fun _ _ => rfl)) pa_nil))) (pe_slice sl_tupA (pv 7) (po_some (pe_op op_add (pv 6) pe_int)) po_none)) pa_nil))) (pe_slice sl_tupA (pv 1) (po_some (pe_op op_add (pv 2) pe_int)) po_none)) pa_nil)))
    (pss_cons (ps_expr (pe_bm PySem.F.plainAttrs_list PySem.F.slot_list_append PySem.F.type_list_append mt_append (pv 5) (pa_cons (pe_op (op_catAk (K := K) rfl) (pe_op (op_catAk (K := K) rfl) (pe_slice sl_tupA (pv 1) po_none (po_some (pv 2))) (pe_tup (pa_cons (pe_tupleOf (by rfl) T.b_tuple (pe_k (c__law_turn T) hr (by decide) (by rfl) (pa_cons (pv 0) (pa_cons (pv 3) pa_nil)))) pa_nil))) (pe_slice sl_tupA (pv 1) (po_some (pe_op op_add (pv 2) pe_int)) po_none)) pa_nil)))
    (pss_one (ps_ret (pe_ix (ixk_list (K := K) rfl) (pe_op op_cat (pv 5) (pe_lst (pa_cons (pe_op (op_catAk (K := K) rfl) (pe_op (op_catAk (K := K) rfl) (pe_slice sl_tupA (pv 1) po_none (po_some (pv 2))) (pe_tup (pa_cons (pe_revT (pv 7)) pa_nil))) (pe_slice sl_tupA (pv 1) (po_some (pe_op op_add (pv 2) pe_int)) po_none)) pa_nil))) (pe_k (c_draw T) hr (by decide) (by rfl) (pa_cons (pv 0) (pa_cons pe_int pa_nil))) (fun _ _ => rfl))))))))))), ?_⟩
    --@
    obtain ⟨ys, hys, lys, hrow⟩ := hY
    have f0 := ok.n0
    have f6 := ok.n6
    obtain ⟨b0, hb0, hr0⟩ := hrow 0 F.names[0] (List.getElem?_eq_getElem f0)
    refine ⟨_, rfl, _, rfl, y, ys, rfl, .inr hys, m, c, g, s, _, rfl, R, by omega, by omega, by omega, fun r1 H1 r10 r11 R1 k1 => ?_⟩
    obtain ⟨k, rfl⟩ : ∃ k : Nat, r1 = (k : Int) := ⟨r1.toNat, by omega⟩
    have t1 := R.tk k1
    refine ⟨_, rfl, y, _, _, _, rfl, rfl, t1.sqT hys, at_of (j := 0) rfl hb0, b0, _, rfl, .inr (t1.sqT hr0), _, _, rfl, ?_⟩
    rw [rowV_len]
    refine ⟨Nat.zero_le _, fun a1 n1' => upd_gen n1' fun J1 j1 e1 => ⟨one_sz, fun a2 n2' => upd_gen n2' fun J2 j2 e2 => ⟨one_sz, fun a3 n3' => upd_gen n3' fun J3 j3 e3 => ⟨one_sz, fun a4 n4' => upd_gen n4' fun J4 j4 e4 => ⟨two_sz, fun a5 n5' => upd_gen n5' fun J5 j5 e5 => ⟨_, rfl, one_sz, fun a6 n6' => upd_gen n6' fun J6 j6 e6 => ⟨(show 9 ≤ sizeLine by decide), fun O nO => upd_gen nO fun J7 j7 e7 => ?_⟩⟩⟩⟩⟩⟩⟩
    have R7 := R1.same (j1.trans (j2.trans (j3.trans (j4.trans (j5.trans (j6.trans j7))))))
    have nO' := (R1.same (j1.trans (j2.trans (j3.trans (j4.trans (j5.trans j6)))))).nm nO
    refine ⟨_, rfl, m, c, g, s + 1, 9, rfl, R7, by omega, by omega, by omega, fun r2 H2 r20 r21 R2 k2 => ?_⟩
    obtain ⟨i2, rfl⟩ : ∃ a : Nat, r2 = (a : Int) := ⟨r2.toNat, by omega⟩
    have e7' := k2 _ _ nO'.1 nO'.2.2 e7
    have t72 : Tk J7 H2 := R7.tk k2
    have t62 : Tk J6 H2 := (Tk.of j7).trans t72
    have t52 : Tk J5 H2 := (Tk.of j6).trans t62
    have t42 : Tk J4 H2 := (Tk.of j5).trans t52
    have t32 : Tk J3 H2 := (Tk.of j4).trans t42
    have t12 : Tk J1 H2 := (Tk.of (j2.trans j3)).trans t32
    have nb2 := (R1.same j1).nm n2'
    have eb2 : H2 a2 = some (.lst [.int 0]) := k2 _ _ nb2.1 nb2.2.2 ((j3.trans (j4.trans (j5.trans (j6.trans j7)))) _ _ e2)
    have hi9 : i2 < 9 := by omega
    obtain ⟨ov, hov⟩ : ∃ ov, ([.non, .int 5, .ref a1, .ref a2, .str "a", .ref a3, .ref a4, .ref a5, .ref a6] : List V)[i2]? = some ov := ⟨_, List.getElem?_eq_getElem hi9⟩
    have hO : (∃ d, flatD d = true ∧ Dp K H2 ov d ∧ Okd 2 20 d) ∨ ∃ b, ov = .ref b ∧ H2 b = some (.lst [.int 0]) ∧ b ≠ m ∧ b ≠ g := by
      rcases (show i2 = 0 ∨ i2 = 1 ∨ i2 = 2 ∨ i2 = 3 ∨ i2 = 4 ∨ i2 = 5 ∨ i2 = 6 ∨ i2 = 7 ∨ i2 = 8 by omega) with e | e | e | e | e | e | e | e | e <;> subst e <;> cases hov
      · exact .inl ⟨.none, rfl, .non, okd_dec (by decide +kernel)⟩
      · exact .inl ⟨.int 5, rfl, .int _, okd_dec (by decide +kernel)⟩
      · exact .inl ⟨.tuple [], rfl, .tup (t12.sqT (SqT.of e1)) .nil, okd_dec (by decide +kernel)⟩
      · exact .inr ⟨a2, rfl, eb2, nb2.1, nb2.2.2⟩
      · exact .inl ⟨.str "a", rfl, .str _, okd_dec (by decide +kernel)⟩
      · exact .inl ⟨.tuple [.int 0], rfl, .tup (t32.sqT (SqT.of e3)) (.cons (.int _) .nil), okd_dec (by decide +kernel)⟩
      · exact .inl ⟨.tuple [.bool true], rfl, .tup (t42.sqT (SqT.of e4)) (.cons (.bl _) .nil), okd_dec (by decide +kernel)⟩
      · exact .inl ⟨.tuple [.int 0, .int 0], rfl, .tup (t52.sqT (SqT.of e5)) (.cons (.int _) (.cons (.int _) .nil)), okd_dec (by decide +kernel)⟩
      · refine .inl ⟨.tuple [.int (N : Int)], rfl, .tup (t62.sqT (SqT.of e6)) (.cons (.int _) .nil), ?_⟩
        refine (okd_tup (j := 0) (n := 0) (k := 1) (fun d hd => ?_) (Nat.le_refl _)).mono (by decide) (by decide)
        rw [List.mem_singleton.mp hd]
        refine okd_int ?_
        have e : (16 : Nat) < 10 ^ 50 := by decide
        show ((N : Nat) : Int).natAbs < 10 ^ 50
        omega
    have s17 := j1.trans (j2.trans (j3.trans (j4.trans (j5.trans (j6.trans j7)))))
    have k02 : Kp m g H H2 := (k1.trans (Kp.of s17)).trans k2
    have t02 := R.tk k02
    have hys2 := t02.sqT hys
    have hkn : k < F.names.length := by omega
    have gkn : F.names[k]? = some F.names[k] := List.getElem?_eq_getElem hkn
    have mkn := List.mem_of_getElem? gkn
    generalize F.names[k] = nk at gkn mkn
    obtain ⟨bk, hbk, hrk⟩ := hrow k nk gkn
    have hrk2 := t02.sqT hrk
    have ylt := Y.lt
    refine ⟨_, _, _, ov, rfl, rfl, SqL.of e7', at_of (j := i2) rfl hov, ?_⟩
    clear t12 t32 t42 t52 t62 t72 e1 e2 e3 e4 e5 e6 e7 e7' hov
    have nL0 := R2
    refine ⟨_, rfl, _, rfl, y, ys, rfl, .inr hys2, fun Ly nLy => upd_gen nLy fun G1 g1 eLy => ?_⟩
    have wH2 := Tk.refl (H := H2)
    have nL := R2.nm nLy
    have u1 : Tk H2 G1 := Tk.of g1
    have w1 := wH2.trans u1
    have R1x := R2.same g1
    have sb1 := Same.refl G1
    refine ⟨_, rfl, noPart ⟨_, rfl, _, rfl, sl_pre (k := k) (w1.sqT hys2) fun G2 p2 g2 h2 => ?_⟩⟩
    have u2 : Tk G1 G2 := Tk.of g2
    have w2 := w1.trans u2
    have R2x := R1x.same g2
    have sb2 := sb1.trans g2
    refine ⟨_, rfl, one_sz, fun p3 m3 => upd_gen m3 fun G3 g3 f3 => ?_⟩
    have u3 : Tk G2 G3 := Tk.of g3
    have w3 := w2.trans u3
    have R3x := R2x.same g3
    have sb3 := sb2.trans g3
    have h3 := SqT.of (K := K) f3
    refine catA (u3.sqT h2) h3 (Nat.le_of_lt (small1000 (by simp only [List.length_append, List.length_take, List.length_drop, List.length_cons, List.length_nil, List.length_reverse, rowV_len, natV_len]; omega))) fun G4 p4 g4 h4 => ?_
    have u4 : Tk G3 G4 := Tk.of g4
    have w4 := w3.trans u4
    have R4x := R3x.same g4
    have sb4 := sb3.trans g4
    refine ⟨_, rfl, _, rfl, _, _, rfl, rfl, _, rfl, noPart (sufI (k := k + 1) (by omega) (w4.sqT hys2) fun G5 p5 g5 h5 => ?_)⟩
    have u5 : Tk G4 G5 := Tk.of g5
    have w5 := w4.trans u5
    have R5x := R4x.same g5
    have sb5 := sb4.trans g5
    refine catA (u5.sqT h4) h5 (Nat.le_of_lt (small1000 (by simp only [List.length_append, List.length_take, List.length_drop, List.length_cons, List.length_nil, List.length_reverse, rowV_len, natV_len]; omega))) fun G6 p6 g6 h6 => ?_
    have u6 : Tk G5 G6 := Tk.of g6
    have w6 := w5.trans u6
    have R6x := R5x.same g6
    have sb6 := sb5.trans g6
    refine ⟨_, rfl, _, rfl, y, _, _, _, rfl, rfl, (w6.sqT hys2), at_of (j := 0) rfl hb0, one_sz, fun p7 m7 => upd_gen m7 fun G7 g7 f7 => ?_⟩
    have u7 : Tk G6 G7 := Tk.of g7
    have w7 := w6.trans u7
    have R7x := R6x.same g7
    have sb7 := sb6.trans g7
    have h7 := SqT.of (K := K) f7
    refine catA (w7.sqT hys2) h7 (Nat.le_of_lt (small1000 (by simp only [List.length_append, List.length_take, List.length_drop, List.length_cons, List.length_nil, List.length_reverse, rowV_len, natV_len]; omega))) fun G8 p8 g8 h8 => ?_
    have u8 : Tk G7 G8 := Tk.of g8
    have w8 := w7.trans u8
    have R8x := R7x.same g8
    have sb8 := sb7.trans g8
    refine ⟨_, rfl, 1, rfl, noPart (sufI (k := 1) rfl (w8.sqT hys2) fun G9 p9 g9 h9 => ?_)⟩
    have u9 : Tk G8 G9 := Tk.of g9
    have w9 := w8.trans u9
    have R9x := R8x.same g9
    have sb9 := sb8.trans g9
    refine ⟨_, rfl, one_sz, fun p10 m10 => upd_gen m10 fun G10 g10 f10 => ?_⟩
    have u10 : Tk G9 G10 := Tk.of g10
    have w10 := w9.trans u10
    have R10x := R9x.same g10
    have sb10 := sb9.trans g10
    have h10 := SqT.of (K := K) f10
    refine ⟨_, rfl, 1, rfl, noPart (sufI (k := 1) rfl (w10.sqT hys2) fun G11 p11 g11 h11 => ?_)⟩
    have u11 : Tk G10 G11 := Tk.of g11
    have w11 := w10.trans u11
    have R11x := R10x.same g11
    have sb11 := sb10.trans g11
    refine catA (u11.sqT h10) h11 (Nat.le_of_lt (small1000 (by simp only [List.length_append, List.length_take, List.length_drop, List.length_cons, List.length_nil, List.length_reverse, rowV_len, natV_len]; omega))) fun G12 p12 g12 h12 => ?_
    have u12 : Tk G11 G12 := Tk.of g12
    have w12 := w11.trans u12
    have R12x := R11x.same g12
    have sb12 := sb11.trans g12
    refine ⟨(show 6 ≤ sizeLine by decide), fun Rr nRr => upd_gen nRr fun G13 g13 eR => ?_⟩
    have nR := R12x.nm nRr
    have u13 : Tk G12 G13 := Tk.of g13
    have w13 := w12.trans u13
    have R13x := R12x.same g13
    have sb13 := sb12.trans g13
    have eLy2 := sb13 _ _ eLy
    have nLR : Ly ≠ Rr := ne_of_none (sb12 _ _ eLy) nRr
    have hO2 : (∃ d, flatD d = true ∧ Dp K G13 ov d ∧ Okd 2 20 d) ∨ ∃ b, ov = .ref b ∧ G13 b = some (.lst [.int 0]) ∧ b ≠ m ∧ b ≠ g ∧ b ≠ Rr := by
      rcases hO with ⟨d, a1, a2, a3⟩ | ⟨b, a1, a2, a3, a4⟩
      · exact .inl ⟨d, a1, Dp.tk w13 _ a1 a2, a3⟩
      · exact .inr ⟨b, a1, sb13 _ _ (g1 _ _ a2), a3, a4, ne_of_none (sb12 _ _ (g1 _ _ a2)) nRr⟩
    have kr13 : KR m g Rr G13 G13 := KR.refl
    refine ⟨_, rfl, _, rfl, m, c, g, s + 1 + 1, (N : Int), rfl, R13x, by omega, by omega, by omega, fun r3 G14 r30 r31 R14x k14 => ?_⟩
    obtain ⟨sp, rfl⟩ : ∃ a : Nat, r3 = (a : Int) := ⟨r3.toNat, by omega⟩
    have u14 : Tk G13 G14 := R13x.tk k14
    have w14 := w13.trans u14
    have eR14 := k14 _ _ nR.1 nR.2.2 eR
    have kr14 := kr13.kp k14
    refine ⟨_, rfl, _, rfl, y, _, _, .ref bk, rfl, rfl, (w14.sqT hys2), at_of (j := k) rfl hbk, _, _, rfl, ?_⟩
    refine ⟨_, rfl, .inl ⟨rfl, _, SqL.of eR14⟩, _, rfl, noPart ⟨_, rfl, _, rfl, sl_pre (k := k) (w14.sqT hys2) fun G15 p15 g15 h15 => ?_⟩⟩
    have u15 : Tk G14 G15 := Tk.of g15
    have w15 := w14.trans u15
    have R15x := R14x.same g15
    have kr15 := kr14.same g15
    have eR15 := g15 _ _ eR14
    refine ⟨_, rfl, noPart ⟨_, rfl, _, rfl, sl_pre (k := sp) (w15.sqT hrk2) fun G16 p16 g16 h16 => ?_⟩⟩
    have u16 : Tk G15 G16 := Tk.of g16
    have w16 := w15.trans u16
    have R16x := R15x.same g16
    have kr16 := kr15.same g16
    have eR16 := g16 _ _ eR15
    refine ⟨_, rfl, one_sz, fun p17 m17 => upd_gen m17 fun G17 g17 f17 => ?_⟩
    have u17 : Tk G16 G17 := Tk.of g17
    have w17 := w16.trans u17
    have R17x := R16x.same g17
    have kr17 := kr16.same g17
    have eR17 := g17 _ _ eR16
    have h17 := SqT.of (K := K) f17
    refine catA (u17.sqT h16) h17 (Nat.le_of_lt (small1000 (by simp only [List.length_append, List.length_take, List.length_drop, List.length_cons, List.length_nil, List.length_reverse, rowV_len, natV_len]; omega))) fun G18 p18 g18 h18 => ?_
    have u18 : Tk G17 G18 := Tk.of g18
    have w18 := w17.trans u18
    have R18x := R17x.same g18
    have kr18 := kr17.same g18
    have eR18 := g18 _ _ eR17
    refine ⟨_, rfl, _, rfl, _, _, rfl, rfl, _, rfl, noPart (sufI (k := sp + 1) (by omega) (w18.sqT hrk2) fun G19 p19 g19 h19 => ?_)⟩
    have u19 : Tk G18 G19 := Tk.of g19
    have w19 := w18.trans u19
    have R19x := R18x.same g19
    have kr19 := kr18.same g19
    have eR19 := g19 _ _ eR18
    refine catA (u19.sqT h18) h19 (Nat.le_of_lt (small1000 (by simp only [List.length_append, List.length_take, List.length_drop, List.length_cons, List.length_nil, List.length_reverse, rowV_len, natV_len]; omega))) fun G20 p20 g20 h20 => ?_
    have u20 : Tk G19 G20 := Tk.of g20
    have w20 := w19.trans u20
    have R20x := R19x.same g20
    have kr20 := kr19.same g20
    have eR20 := g20 _ _ eR19
    refine ⟨one_sz, fun p21 m21 => upd_gen m21 fun G21 g21 f21 => ?_⟩
    have u21 : Tk G20 G21 := Tk.of g21
    have w21 := w20.trans u21
    have R21x := R20x.same g21
    have kr21 := kr20.same g21
    have eR21 := g21 _ _ eR20
    have h21 := SqT.of (K := K) f21
    refine catA (u21.sqT (u20.sqT (u19.sqT (u18.sqT (u17.sqT (u16.sqT h15)))))) h21 (Nat.le_of_lt (small1000 (by simp only [List.length_append, List.length_take, List.length_drop, List.length_cons, List.length_nil, List.length_reverse, rowV_len, natV_len]; omega))) fun G22 p22 g22 h22 => ?_
    have u22 : Tk G21 G22 := Tk.of g22
    have w22 := w21.trans u22
    have R22x := R21x.same g22
    have kr22 := kr21.same g22
    have eR22 := g22 _ _ eR21
    refine ⟨_, rfl, _, rfl, _, _, rfl, rfl, _, rfl, noPart (sufI (k := k + 1) (by omega) (w22.sqT hys2) fun G23 p23 g23 h23 => ?_)⟩
    have u23 : Tk G22 G23 := Tk.of g23
    have w23 := w22.trans u23
    have R23x := R22x.same g23
    have kr23 := kr22.same g23
    have eR23 := g23 _ _ eR22
    refine catA (u23.sqT h22) h23 (Nat.le_of_lt (small1000 (by simp only [List.length_append, List.length_take, List.length_drop, List.length_cons, List.length_nil, List.length_reverse, rowV_len, natV_len]; omega))) fun G24 p24 g24 h24 => ?_
    have u24 : Tk G23 G24 := Tk.of g24
    have w24 := w23.trans u24
    have R24x := R23x.same g24
    have kr24 := kr23.same g24
    have eR24 := g24 _ _ eR23
    refine ⟨Rr, _, _, rfl, rfl, eR24, small1000 (by simp), ?_⟩
    generalize hG25 : upd G24 Rr (.lst ([ov, V.ref Ly, .ref p6, .ref p8, .ref p9, .ref p12] ++ [V.ref p24])) = G25
    have u25 : Tk G24 G25 := by
      rw [← hG25]
      exact Tk.refl.lst eR24
    have w25 := w24.trans u25
    have R25x : Dr G25 m c g (s + 1 + 1 + 1) := by
      rw [← hG25]
      exact R24x.put nR
    have kr25 : KR m g Rr G13 G25 := by
      rw [← hG25]
      exact kr24.put
    have eR25 : G25 Rr = some (.lst ([ov, V.ref Ly, .ref p6, .ref p8, .ref p9, .ref p12] ++ [V.ref p24])) := by
      rw [← hG25]
      exact upd_same
    refine ⟨_, rfl, .inl ⟨rfl, _, SqL.of eR25⟩, _, rfl, noPart ⟨_, rfl, _, rfl, sl_pre (k := k) (w25.sqT hys2) fun G26 p26 g26 h26 => ?_⟩⟩
    have u26 : Tk G25 G26 := Tk.of g26
    have w26 := w25.trans u26
    have R26x := R25x.same g26
    have kr26 := kr25.same g26
    have eR26 := g26 _ _ eR25
    refine ⟨_, rfl, noPart ⟨_, rfl, _, rfl, sl_pre (k := sp) (w26.sqT hrk2) fun G27 p27 g27 h27 => ?_⟩⟩
    have u27 : Tk G26 G27 := Tk.of g27
    have w27 := w26.trans u27
    have R27x := R26x.same g27
    have kr27 := kr26.same g27
    have eR27 := g27 _ _ eR26
    refine ⟨_, rfl, bk, _, _, _, rfl, rfl, (w27.sqT hrk2), at_of (j := 0) rfl (rowV_at n1), one_sz, fun p28 m28 => upd_gen m28 fun G28 g28 f28 => ?_⟩
    have u28 : Tk G27 G28 := Tk.of g28
    have w28 := w27.trans u28
    have R28x := R27x.same g28
    have kr28 := kr27.same g28
    have eR28 := g28 _ _ eR27
    have h28 := SqT.of (K := K) f28
    refine catA (u28.sqT h27) h28 (Nat.le_of_lt (small1000 (by simp only [List.length_append, List.length_take, List.length_drop, List.length_cons, List.length_nil, List.length_reverse, rowV_len, natV_len]; omega))) fun G29 p29 g29 h29 => ?_
    have u29 : Tk G28 G29 := Tk.of g29
    have w29 := w28.trans u29
    have R29x := R28x.same g29
    have kr29 := kr28.same g29
    have eR29 := g29 _ _ eR28
    refine ⟨_, rfl, _, rfl, _, _, rfl, rfl, _, rfl, noPart (sufI (k := sp + 1) (by omega) (w29.sqT hrk2) fun G30 p30 g30 h30 => ?_)⟩
    have u30 : Tk G29 G30 := Tk.of g30
    have w30 := w29.trans u30
    have R30x := R29x.same g30
    have kr30 := kr29.same g30
    have eR30 := g30 _ _ eR29
    refine catA (u30.sqT h29) h30 (Nat.le_of_lt (small1000 (by simp only [List.length_append, List.length_take, List.length_drop, List.length_cons, List.length_nil, List.length_reverse, rowV_len, natV_len]; omega))) fun G31 p31 g31 h31 => ?_
    have u31 : Tk G30 G31 := Tk.of g31
    have w31 := w30.trans u31
    have R31x := R30x.same g31
    have kr31 := kr30.same g31
    have eR31 := g31 _ _ eR30
    refine ⟨one_sz, fun p32 m32 => upd_gen m32 fun G32 g32 f32 => ?_⟩
    have u32 : Tk G31 G32 := Tk.of g32
    have w32 := w31.trans u32
    have R32x := R31x.same g32
    have kr32 := kr31.same g32
    have eR32 := g32 _ _ eR31
    have h32 := SqT.of (K := K) f32
    refine catA (u32.sqT (u31.sqT (u30.sqT (u29.sqT (u28.sqT (u27.sqT h26)))))) h32 (Nat.le_of_lt (small1000 (by simp only [List.length_append, List.length_take, List.length_drop, List.length_cons, List.length_nil, List.length_reverse, rowV_len, natV_len]; omega))) fun G33 p33 g33 h33 => ?_
    have u33 : Tk G32 G33 := Tk.of g33
    have w33 := w32.trans u33
    have R33x := R32x.same g33
    have kr33 := kr32.same g33
    have eR33 := g33 _ _ eR32
    refine ⟨_, rfl, _, rfl, _, _, rfl, rfl, _, rfl, noPart (sufI (k := k + 1) (by omega) (w33.sqT hys2) fun G34 p34 g34 h34 => ?_)⟩
    have u34 : Tk G33 G34 := Tk.of g34
    have w34 := w33.trans u34
    have R34x := R33x.same g34
    have kr34 := kr33.same g34
    have eR34 := g34 _ _ eR33
    refine catA (u34.sqT h33) h34 (Nat.le_of_lt (small1000 (by simp only [List.length_append, List.length_take, List.length_drop, List.length_cons, List.length_nil, List.length_reverse, rowV_len, natV_len]; omega))) fun G35 p35 g35 h35 => ?_
    have u35 : Tk G34 G35 := Tk.of g35
    have w35 := w34.trans u35
    have R35x := R34x.same g35
    have kr35 := kr34.same g35
    have eR35 := g35 _ _ eR34
    refine ⟨Rr, _, _, rfl, rfl, eR35, small1000 (by simp), ?_⟩
    generalize hG36 : upd G35 Rr (.lst (([ov, V.ref Ly, .ref p6, .ref p8, .ref p9, .ref p12] ++ [V.ref p24]) ++ [V.ref p35])) = G36
    have u36 : Tk G35 G36 := by
      rw [← hG36]
      exact Tk.refl.lst eR35
    have w36 := w35.trans u36
    have R36x : Dr G36 m c g (s + 1 + 1 + 1) := by
      rw [← hG36]
      exact R35x.put nR
    have kr36 : KR m g Rr G13 G36 := by
      rw [← hG36]
      exact kr35.put
    have eR36 : G36 Rr = some (.lst (([ov, V.ref Ly, .ref p6, .ref p8, .ref p9, .ref p12] ++ [V.ref p24]) ++ [V.ref p35])) := by
      rw [← hG36]
      exact upd_same
    refine ⟨_, rfl, .inl ⟨rfl, _, SqL.of eR36⟩, _, rfl, noPart ⟨_, rfl, _, rfl, sl_pre (k := k) (w36.sqT hys2) fun G37 p37 g37 h37 => ?_⟩⟩
    have u37 : Tk G36 G37 := Tk.of g37
    have w37 := w36.trans u37
    have R37x := R36x.same g37
    have kr37 := kr36.same g37
    have eR37 := g37 _ _ eR36
    refine ⟨_, rfl, _, rfl, m, c, g, s + 1 + 1 + 1, N, rfl, R37x, n1, n2, by omega, fun G38 rt tl st R38x hst k38 nrt ert tperm => ?_⟩
    have u38 : Tk G37 G38 := R37x.tk k38
    have w38 := w37.trans u38
    have eR38 := k38 _ _ nR.1 nR.2.2 eR37
    have kr38 := kr37.kp k38
    refine .inl ⟨rt, _, rfl, SqL.of ert, fun p39 m39 => upd_gen m39 fun G39 g39 f39 => ?_⟩
    have u39 : Tk G38 G39 := Tk.of g39
    have w39 := w38.trans u39
    have R39x := R38x.same g39
    have kr39 := kr38.same g39
    have eR39 := g39 _ _ eR38
    have h39 := SqT.of (K := K) f39
    refine ⟨one_sz, fun p40 m40 => upd_gen m40 fun G40 g40 f40 => ?_⟩
    have u40 : Tk G39 G40 := Tk.of g40
    have w40 := w39.trans u40
    have R40x := R39x.same g40
    have kr40 := kr39.same g40
    have eR40 := g40 _ _ eR39
    have h40 := SqT.of (K := K) f40
    refine catA (u40.sqT (u39.sqT (u38.sqT h37))) h40 (Nat.le_of_lt (small1000 (by simp only [List.length_append, List.length_take, List.length_drop, List.length_cons, List.length_nil, List.length_reverse, rowV_len, natV_len]; omega))) fun G41 p41 g41 h41 => ?_
    have u41 : Tk G40 G41 := Tk.of g41
    have w41 := w40.trans u41
    have R41x := R40x.same g41
    have kr41 := kr40.same g41
    have eR41 := g41 _ _ eR40
    refine ⟨_, rfl, _, rfl, _, _, rfl, rfl, _, rfl, noPart (sufI (k := k + 1) (by omega) (w41.sqT hys2) fun G42 p42 g42 h42 => ?_)⟩
    have u42 : Tk G41 G42 := Tk.of g42
    have w42 := w41.trans u42
    have R42x := R41x.same g42
    have kr42 := kr41.same g42
    have eR42 := g42 _ _ eR41
    refine catA (u42.sqT h41) h42 (Nat.le_of_lt (small1000 (by simp only [List.length_append, List.length_take, List.length_drop, List.length_cons, List.length_nil, List.length_reverse, rowV_len, natV_len]; omega))) fun G43 p43 g43 h43 => ?_
    have u43 : Tk G42 G43 := Tk.of g43
    have w43 := w42.trans u43
    have R43x := R42x.same g43
    have kr43 := kr42.same g43
    have eR43 := g43 _ _ eR42
    refine ⟨Rr, _, _, rfl, rfl, eR43, small1000 (by simp), ?_⟩
    generalize hG44 : upd G43 Rr (.lst ((([ov, V.ref Ly, .ref p6, .ref p8, .ref p9, .ref p12] ++ [V.ref p24]) ++ [V.ref p35]) ++ [V.ref p43])) = G44
    have u44 : Tk G43 G44 := by
      rw [← hG44]
      exact Tk.refl.lst eR43
    have w44 := w43.trans u44
    have R44x : Dr G44 m c g (st) := by
      rw [← hG44]
      exact R43x.put nR
    have kr44 : KR m g Rr G13 G44 := by
      rw [← hG44]
      exact kr43.put
    have eR44 : G44 Rr = some (.lst ((([ov, V.ref Ly, .ref p6, .ref p8, .ref p9, .ref p12] ++ [V.ref p24]) ++ [V.ref p35]) ++ [V.ref p43])) := by
      rw [← hG44]
      exact upd_same
    refine ⟨_, rfl, _, rfl, noPart ⟨_, rfl, _, rfl, sl_pre (k := k) (w44.sqT hys2) fun G45 p45 g45 h45 => ?_⟩⟩
    have u45 : Tk G44 G45 := Tk.of g45
    have w45 := w44.trans u45
    have R45x := R44x.same g45
    have kr45 := kr44.same g45
    have eR45 := g45 _ _ eR44
    refine ⟨_, rfl, bk, _, rfl, (w45.sqT hrk2), fun p46 m46 => upd_gen m46 fun G46 g46 f46 => ?_⟩
    have u46 : Tk G45 G46 := Tk.of g46
    have w46 := w45.trans u46
    have R46x := R45x.same g46
    have kr46 := kr45.same g46
    have eR46 := g46 _ _ eR45
    have h46 := SqT.of (K := K) f46
    refine ⟨one_sz, fun p47 m47 => upd_gen m47 fun G47 g47 f47 => ?_⟩
    have u47 : Tk G46 G47 := Tk.of g47
    have w47 := w46.trans u47
    have R47x := R46x.same g47
    have kr47 := kr46.same g47
    have eR47 := g47 _ _ eR46
    have h47 := SqT.of (K := K) f47
    refine catA (u47.sqT (u46.sqT h45)) h47 (Nat.le_of_lt (small1000 (by simp only [List.length_append, List.length_take, List.length_drop, List.length_cons, List.length_nil, List.length_reverse, rowV_len, natV_len]; omega))) fun G48 p48 g48 h48 => ?_
    have u48 : Tk G47 G48 := Tk.of g48
    have w48 := w47.trans u48
    have R48x := R47x.same g48
    have kr48 := kr47.same g48
    have eR48 := g48 _ _ eR47
    refine ⟨_, rfl, _, rfl, _, _, rfl, rfl, _, rfl, noPart (sufI (k := k + 1) (by omega) (w48.sqT hys2) fun G49 p49 g49 h49 => ?_)⟩
    have u49 : Tk G48 G49 := Tk.of g49
    have w49 := w48.trans u49
    have R49x := R48x.same g49
    have kr49 := kr48.same g49
    have eR49 := g49 _ _ eR48
    refine catA (u49.sqT h48) h49 (Nat.le_of_lt (small1000 (by simp only [List.length_append, List.length_take, List.length_drop, List.length_cons, List.length_nil, List.length_reverse, rowV_len, natV_len]; omega))) fun G50 p50 g50 h50 => ?_
    have u50 : Tk G49 G50 := Tk.of g50
    have w50 := w49.trans u50
    have R50x := R49x.same g50
    have kr50 := kr49.same g50
    have eR50 := g50 _ _ eR49
    refine ⟨one_sz, fun L9 nL9 => upd_gen nL9 fun G51 g51 eL9 => ?_⟩
    have u51 : Tk G50 G51 := Tk.of g51
    have w51 := w50.trans u51
    have R51x := R50x.same g51
    have kr51 := kr50.same g51
    have eR51 := g51 _ _ eR50
    refine catL eR51 eL9 (show 9 + 1 ≤ sizeLine by decide) fun G52 pA g52 nA eA => ?_
    have mA := R51x.nm nA
    have u52 : Tk G51 G52 := Tk.of g52
    have w52 := w51.trans u52
    have R52x := R51x.same g52
    have kr52 := kr51.same g52
    have eR52 := g52 _ _ eR51
    refine ⟨_, rfl, m, c, g, st, 10, rfl, R52x, by omega, by omega, by omega, fun r9 G53 r90 r91 R53x k53 => ?_⟩
    have eA2 := k53 _ _ mA.1 mA.2.2 eA
    have u53 : Tk G52 G53 := R52x.tk k53
    have w53 := w52.trans u53
    have eR53 := k53 _ _ nR.1 nR.2.2 eR52
    have kr53 := kr52.kp k53
    obtain ⟨b, rfl⟩ : ∃ a : Nat, r9 = (a : Int) := ⟨r9.toNat, by omega⟩
    have v53 := Tk.refl (H := G53)
    have v52 := u53.trans v53
    have v51 := u52.trans v52
    have v50 := u51.trans v51
    have v49 := u50.trans v50
    have v48 := u49.trans v49
    have v47 := u48.trans v48
    have v46 := u47.trans v47
    have v45 := u46.trans v46
    have v44 := u45.trans v45
    have v43 := u44.trans v44
    have v42 := u43.trans v43
    have v41 := u42.trans v42
    have v40 := u41.trans v41
    have v39 := u40.trans v40
    have v38 := u39.trans v39
    have v37 := u38.trans v38
    have v36 := u37.trans v37
    have v35 := u36.trans v36
    have v34 := u35.trans v35
    have v33 := u34.trans v34
    have v32 := u33.trans v33
    have v31 := u32.trans v32
    have v30 := u31.trans v31
    have v29 := u30.trans v30
    have v28 := u29.trans v29
    have v27 := u28.trans v28
    have v26 := u27.trans v27
    have v25 := u26.trans v26
    have v24 := u25.trans v25
    have v23 := u24.trans v24
    have v22 := u23.trans v23
    have v21 := u22.trans v22
    have v20 := u21.trans v21
    have v19 := u20.trans v20
    have v18 := u19.trans v19
    have v17 := u18.trans v18
    have v16 := u17.trans v17
    have v15 := u16.trans v16
    have v14 := u15.trans v15
    have v13 := u14.trans v14
    have v12 := u13.trans v13
    have v11 := u12.trans v12
    have v10 := u11.trans v11
    have v9 := u10.trans v10
    have v8 := u9.trans v9
    have v7 := u8.trans v8
    have v6 := u7.trans v7
    have v5 := u6.trans v6
    have v4 := u5.trans v5
    have v3 := u4.trans v4
    have v2 := u3.trans v3
    have v1 := u2.trans v2
    have vH2 := u1.trans v1
    have kGr : Kp m g H G13 := (k02.trans (Kp.of g1)).trans (Kp.of (sb13))
    have nR0 : H Rr = none := by
      cases hx : H Rr with
      | none => rfl
      | some o =>
        have := ((k02.trans (Kp.of g1)).trans (Kp.of sb12)) _ _ nR.1 nR.2.2 hx
        rw [nRr] at this
        cases this
    have kf := kr53
    have kall : Kp m g H G53 := fun b o n1 n2 e => kf b o n1 n2 (ne_of_none e nR0) (kGr b o n1 n2 e)
    have eLyf : G53 Ly = some (.lst ys) := kf _ _ nL.1 nL.2.2 nLR eLy2
    have dvo : DV K G53 2 20 ov := by
      rcases hO2 with ⟨d, a1, a2, a3⟩ | ⟨b, a1, a2, a3, a4, a5⟩
      · exact ⟨d, Dp.tk v13 _ a1 a2, a3⟩
      · exact ⟨.list [.int 0], by rw [a1]; exact .lst (SqL.of (kf _ _ a3 a4 a5 a2)) (.cons (.int _) .nil), okd_dec (by decide +kernel)⟩
    have day : DA K G53 3 400 ys := yard_DA lys (fun i n hn => by
      obtain ⟨b, e1, e2⟩ := hrow i n hn
      exact ⟨b, e1, vH2.sqT (t02.sqT e2)⟩) ylt n2
    have dar : DA K G53 2 20 (rowV N (f nk)) := rowV_DA (ylt nk mkn) n2
    have six : ∀ l : List V, (ys.take k ++ l ++ ys.drop (k + 1)).length ≤ 6 + l.length := fun l => by
      simp only [List.length_append, List.length_take, List.length_drop]
      omega
    have cy : ∀ (p : Addr) (l : List V), SqT K G53 p (ys.take k ++ l ++ ys.drop (k + 1)) → l.length ≤ 1 → DA K G53 3 400 l → DV K G53 4 3000 (.ref p) := fun p l hS hl hD => ((((day.take k).app hD).app (day.drop (k + 1))).tup hS (k := 7) (by have := six l; omega)).mono (by decide) (by decide)
    have cr : ∀ (p : Addr) (l : List V), SqT K G53 p l → l.length ≤ 18 → DA K G53 2 20 l → DA K G53 3 400 [.ref p] := fun p l hS hl hD => DA.one ((hD.tup hS (k := 18) hl).mono (by decide) (by decide))
    refine ⟨_, _, _, _, rfl, rfl, SqL.of eA2, at_of (j := b) rfl (List.getElem?_eq_getElem (show b < 10 by omega)), ?_⟩
    suffices hdv : DV K G53 4 3000 ((((([ov, V.ref Ly, .ref p6, .ref p8, .ref p9, .ref p12] ++ [V.ref p24]) ++ [V.ref p35]) ++ [V.ref p43]) ++ [V.ref p50])[b]'(by show b < 10; omega)) by
      obtain ⟨d, a1, a2⟩ := hdv
      exact q G53 _ d _ R53x (by omega) kall a1 a2
    rcases (show b = 0 ∨ b = 1 ∨ b = 2 ∨ b = 3 ∨ b = 4 ∨ b = 5 ∨ b = 6 ∨ b = 7 ∨ b = 8 ∨ b = 9 by omega) with e | e | e | e | e | e | e | e | e | e <;> subst e
    · exact dvo.mono (by decide) (by decide)
    · exact (day.lst eLyf (k := 7) (by omega)).mono (by decide) (by decide)
    · exact cy _ _ (v6.sqT h6) (Nat.le_refl _) (DA.one (dvo.mono (by decide) (by decide)))
    · exact ((day.app (DA.one (day.at hb0))).tup (v8.sqT h8) (k := 7) (by rw [List.length_append]; show ys.length + 1 ≤ 7; omega)).mono (by decide) (by decide)
    · exact ((day.drop 1).tup (v9.sqT h9) (k := 7) (by rw [List.length_drop]; omega)).mono (by decide) (by decide)
    · exact (((DA.one (dvo.mono (by decide) (by decide))).app (day.drop 1)).tup (v12.sqT h12) (k := 7) (by rw [List.length_append, List.length_drop]; show 1 + _ ≤ 7; omega)).mono (by decide) (by decide)
    · exact cy _ _ (v24.sqT h24) (Nat.le_refl _) (cr _ _ (v20.sqT h20) (by simp only [List.length_append, List.length_take, List.length_drop, List.length_cons, List.length_nil, rowV_len]; omega) (((dar.take sp).app (DA.one dvo)).app (dar.drop (sp + 1))))
    · exact cy _ _ (v35.sqT h35) (Nat.le_refl _) (cr _ _ (v31.sqT h31) (by simp only [List.length_append, List.length_take, List.length_drop, List.length_cons, List.length_nil, rowV_len]; omega) (((dar.take sp).app (DA.one (dar.at (rowV_at n1)))).app (dar.drop (sp + 1))))
    · exact cy _ _ (v43.sqT h43) (Nat.le_refl _) (cr _ _ (v39.sqT h39) (by rw [natV_len, tperm.length_eq, List.length_range]; omega) ((DA.nats fun x hx => Nat.lt_trans (List.mem_range.mp (tperm.mem_iff.mp hx)) (by omega)).mono (by decide) (by decide)))
    · exact cy _ _ (v50.sqT h50) (Nat.le_refl _) (cr _ _ (v46.sqT h46) (by rw [List.length_reverse, rowV_len]; omega) dar.rev)
end
end XB
set_option Elab.async false
set_option linter.all false
set_option maxRecDepth 100000
set_option maxHeartbeats 4000000
namespace XB
open PySem PySem.Spec PyProof.Rows L2
theorem rgZ_pw (N : Nat) : (rgZ N).Pairwise (· ≤ ·) := by
  unfold rgZ
  rw [List.pairwise_map]
  exact List.pairwise_lt_range.imp fun {a b} h => by
    show (a : Int) ≤ (b : Int)
    omega
theorem sortZ_pw (zs : List Int) : (sortZ zs).Pairwise (· ≤ ·) := by
  have h := List.pairwise_mergeSort (le := PySem.W.dataLe false PyData.int) (l := zs) (fun a b c h1 h2 => ?_) (fun a b => ?_)
  · unfold sortZ
    refine h.imp fun {a b} e => ?_
    rw [show PySem.W.dataLe false PyData.int = fun a b => decide (a ≤ b) from PySem.W.dataLe_int id] at e
    exact of_decide_eq_true e
  · rw [show PySem.W.dataLe false PyData.int = fun a b => decide (a ≤ b) from PySem.W.dataLe_int id] at *
    have h1 := of_decide_eq_true h1
    have h2 := of_decide_eq_true h2
    exact decide_eq_true (by omega)
  · rw [show PySem.W.dataLe false PyData.int = fun a b => decide (a ≤ b) from PySem.W.dataLe_int id]
    rw [Bool.or_eq_true, decide_eq_true_eq, decide_eq_true_eq]
    omega
theorem sortZ_rg {zs : List Int} {N : Nat} (h : zs.Perm (rgZ N)) : sortZ zs = rgZ N :=
  List.Perm.eq_of_pairwise (le := fun a b => a ≤ b) (fun a b _ _ h1 h2 => by omega) (sortZ_pw zs) (rgZ_pw N) ((sortZ_perm zs).trans h)
theorem prm_onto {N : Nat} {g : Nat → Nat} (h : Prm N g) {y : Nat} (hy : y < N) : ∃ x, x < N ∧ g x = y := by
  obtain ⟨L, L1, _, L3⟩ := XM.per h.1 h.2 hy
  refine ⟨XM.it g (L - 1) y, XM.it_lt h.1 hy, ?_⟩
  rw [← XM.it_succ g, show L - 1 + 1 = L by omega]
  exact L3
theorem prm_perm {N : Nat} {g : Nat → Nat} (h : Prm N g) : ((List.range N).map g).Perm (List.range N) := by
  have nd : (List.range N).Nodup := List.nodup_range
  refine (List.perm_ext_iff_of_nodup ?_ nd).mpr fun y => ?_
  · refine List.pairwise_map.mpr (nd.imp_of_mem fun {a b} ha hb hne e => hne (h.2 a b (List.mem_range.mp ha) (List.mem_range.mp hb) e))
  · rw [List.mem_map, List.mem_range]
    constructor
    · rintro ⟨x, hx, rfl⟩
      exact h.1 x (List.mem_range.mp hx)
    · intro hy
      obtain ⟨x, hx, e⟩ := prm_onto h hy
      exact ⟨x, List.mem_range.mpr hx, e⟩
theorem dRowN_ints (N : Nat) (g : Nat → Nat) : dRowN N g = .tuple ((((List.range N).map g).map Int.ofNat).map .int) := by
  unfold dRowN
  rw [List.map_map, List.map_map]
  rfl
theorem turn_row {N : Nat} {g : Nat → Nat} (h : Prm N g) : turnD N (dRowN N g) = true := by
  rw [dRowN_ints, turn_some (asInts_of _)]
  exact decide_eq_true (sortZ_rg ((prm_perm h).map Int.ofNat))
theorem nats_row (N : Nat) (g : Nat → Nat) : natsD (dRowN N g) = (List.range N).map g := by
  rw [dRowN_ints]
  show ((asInts ((((List.range N).map g).map Int.ofNat).map .int)).getD []).map Int.toNat = _
  rw [asInts_of]
  show (((List.range N).map g).map Int.ofNat).map Int.toNat = _
  rw [List.map_map]
  exact (List.map_congr_left fun x _ => rfl).trans (List.map_id _)
/-- a yard of a field is right -/
theorem yard_right {F : Fld} (ok : F.Ok) {N : Nat} {f : Str → Nat → Nat} (Y : XM.Yd (OF F) (· ∈ F.names) N f) (n1 : 1 ≤ N) (n2 : N ≤ 2000) : wrongD F (dYard F N f) = none := by
  have f0 := ok.n0
  obtain ⟨a, ns, ea⟩ : ∃ a ns, F.names = a :: ns := by
    cases hn : F.names with
    | nil => rw [hn] at f0; cases f0
    | cons a ns => exact ⟨a, ns, rfl⟩
  have ed : (F.names.map fun n => dRowN N (f n)) = dRowN N (f a) :: (ns.map fun n => dRowN N (f n)) := by rw [ea]; rfl
  have len0 : ((List.range N).map fun x => PyData.int ((f a x : Nat) : Int)).length = N := by rw [List.length_map, List.length_range]
  have hf : formD F.names.length (.tuple (F.names.map fun n => dRowN N (f n))) = true := by
    rw [ed]
    show (decide ((ns.map fun n => dRowN N (f n)).length + 1 = F.names.length) && (decide (1 ≤ ((List.range N).map fun x => PyData.int ((f a x : Nat) : Int)).length) && decide (((List.range N).map fun x => PyData.int ((f a x : Nat) : Int)).length ≤ 2000))) = true
    rw [len0, List.length_map, ea, decide_eq_true (show ns.length + 1 = (a :: ns).length from rfl), decide_eq_true n1, decide_eq_true n2]
    rfl
  have prm : ∀ n ∈ F.names, Prm N (f n) := fun n hn => ⟨Y.lt n hn, Y.inj n hn⟩
  have ht : allTurn (F.names.map fun n => dRowN N (f n)) = true := by
    have e1 : firstLen (F.names.map fun n => dRowN N (f n)) = N := by
      rw [ed]
      exact len0
    unfold allTurn
    rw [e1, List.all_eq_true]
    intro d hd
    obtain ⟨n, hn, rfl⟩ := List.mem_map.mp hd
    exact turn_row (prm n hn)
  have rowE : ∀ n ∈ F.names, rowI F (F.names.map fun n => dRowN N (f n)) n = (List.range N).map (f n) := fun n hn => by
    unfold rowI
    rw [List.getD_eq_getElem?_getD, List.getElem?_map, (idx_lt hn).2]
    exact nats_row N (f n)
  have hc : allChg F (F.names.map fun n => dRowN N (f n)) = true := by
    unfold allChg
    rw [List.all_eq_true]
    intro p hp
    obtain ⟨m1, m2⟩ := ok.inN p hp
    rw [rowE _ m1, rowE _ m2]
    unfold chgD
    refine decide_eq_true ?_
    rw [List.map_map, List.map_map]
    refine List.map_congr_left fun x hx => ?_
    have hx := List.mem_range.mp hx
    have at_ : ∀ (g : Nat → Nat) (z : Nat), z < N → ((List.range N).map g).getD z 0 = g z := fun g z hz => by
      rw [List.getD_eq_getElem?_getD, List.getElem?_map, List.getElem?_range hz]
      rfl
    show ((List.range N).map (f p.1)).getD (f p.2 x) 0 = ((List.range N).map (f p.2)).getD (f p.1 x) 0
    rw [at_ _ _ (Y.lt _ m2 x hx), at_ _ _ (Y.lt _ m1 x hx)]
    refine Y.comm _ _ m1 m2 ?_ x hx
    rw [tc_eq ok]
    unfold apart
    rw [List.contains_iff_mem.mpr (show (p.1, p.2) ∈ F.pairs from hp)]
    rfl
  show wrongD F (.tuple (F.names.map fun n => dRowN N (f n))) = none
  rw [wrong_else hf, ht, hc]
  rfl
/-! ### the great yard by hand -/
def F2 : Fld := ⟨["a", "b"], [("a", "b")]⟩
theorem F2_ok : F2.Ok := by
  constructor <;> decide +kernel
def fG (n : Str) (x : Nat) : Nat := if n = "a" then (x + 1) % 2000 else x
theorem fG_a (x : Nat) : fG "a" x = (x + 1) % 2000 := if_pos rfl
theorem fG_b (x : Nat) : fG "b" x = x := if_neg (by decide)
theorem F2_mem {n : Str} (h : n ∈ F2.names) : n = "a" ∨ n = "b" := by
  have h : n ∈ (["a", "b"] : List Str) := h
  simp only [List.mem_cons, List.not_mem_nil, or_false] at h
  exact h
theorem ydG : XM.Yd (OF F2) (· ∈ F2.names) 2000 fG := by
  refine ⟨fun n hn x hx => ?_, fun n hn x y hx hy e => ?_, fun a b ha hb _ x hx => ?_⟩
  · rcases F2_mem hn with rfl | rfl
    · rw [fG_a]
      exact Nat.mod_lt _ (by decide)
    · rw [fG_b]
      exact hx
  · rcases F2_mem hn with rfl | rfl
    · rw [fG_a, fG_a] at e
      omega
    · rw [fG_b, fG_b] at e
      exact e
  · rcases F2_mem ha with rfl | rfl <;> rcases F2_mem hb with rfl | rfl <;> simp only [fG_a, fG_b]
theorem itG (k : Nat) : ∀ x, x < 2000 → XM.it (fG "a") k x = (x + k) % 2000 := by
  induction k with
  | zero => intro x hx; show x = _; omega
  | succ k ih =>
    intro x hx
    show XM.it (fG "a") k (fG "a" x) = _
    rw [fG_a, ih _ (Nat.mod_lt _ (by decide))]
    omega
theorem itB (k : Nat) : ∀ x, XM.it (fG "b") k x = x := by
  induction k with
  | zero => intro x; rfl
  | succ k ih =>
    intro x
    show XM.it (fG "b") k (fG "b" x) = _
    rw [fG_b, ih]
theorem acB (N x : Nat) (t : Int) : XM.ac N (fG "b") x t = x := by
  unfold XM.ac
  exact itB _ _
theorem ledG : XM.leads 2000 fG 1999 [("a", 10 ^ 30), ("b", 5)] = 1999 := by
  have ma : ("a" : Str) ∈ F2.names := by decide
  have e1 : XM.ac 2000 (fG "a") 1999 (10 ^ 30) = 1999 := by
    rw [← XM.ac_ring (R := 2000) (ydG.lt _ ma) (ydG.inj _ ma) (by decide) (by decide) (by rw [itG _ _ (by decide)]) (fun i h1 h2 => by rw [itG _ _ (by decide)]; omega) (10 ^ 30)]
    rw [show ((10 ^ 30 : Int) % ((2000 : Nat) : Int)).toNat = 0 by decide]
    rfl
  unfold XM.leads
  rw [List.foldl_cons, List.foldl_cons, List.foldl_nil, acB]
  exact e1
end XB
set_option Elab.async false
set_option linter.all false
namespace XB
open PySem PySem.Spec PyProof.Rows L2
/-- a def called without arguments -/
theorem pe_k0 {X : Cx} {k j : Nat} {x : Str} {sp : Sp} {p pos : Pos} (c : Cl X.prog X.w X.K X.mg X.base CX0 k x sp) (hr : Room j X.A) (hk : k ≤ j) (hg : Gl X x)
    (hdb : (x == ("__debug__" : Str)) = false := by decide) : PE X (.Call (.Name x p) [] [] pos) (tCall sp [] E0 tNil) := by
  obtain ⟨f, fd, ps, F, hm, kp, b⟩ := c.ex
  exact pe_call0 F (hr.mono hk) hg hm kp b .nil pass0 hdb
end XB
set_option Elab.async false
set_option linter.all false
set_option maxRecDepth 100000
set_option maxHeartbeats 8000000
namespace XB
open PySem PySem.Spec PyProof.Rows L2
/-- the law's listener, called with a lambda, some tables being known -/
theorem pe_heardT {X : Cx} {TT : List (Addr × Str)} {tab c : Addr} {k : Nat} {params : Arguments} {body : Expr} {scope : Scope} {t : XK → TE} {p lpos pos : Pos} (T : Tx X.K X.mg) (hg : Gl X "_law_heard") (TB : LamX.TabB X.base X.mg c tab) (hcode : X.env.code = .ref c)
    (hm : (tab, X.env.qual ++ "<lambda>") ∈ TT) (hu : ∀ y ∈ TT, y.1 = tab → y.2 = X.env.qual ++ "<lambda>") (hr : Room (k + 2) X.A) (L : LamX.LamS X.env.scope scope)
    (hdef : defaultsOf params X.env = ([], [])) (hbind : ∀ (q : Str) (cl : List (Str × Addr)) (pm cv ctv : Value), bindArgs (PySem.W.kla_fn "<lambda>" q params body scope cl pm cv ctv) ⟨[], []⟩ = pure [])
    (hbody : ∀ (A : Around) (outer : List Env) (s : Shared) (H : Hp) (E : XK) (f c' : Addr), Room k (A.deeper (LamX.lamEnv X scope s.heap.objs.size f c')) → PE (LamX.lamCx X A outer s H E scope f c') body (t E)) :
    PE X (.Call (.Name "_law_heard" p) [.Lambda params body scope lpos] [] pos) (LamX.tLam TT (TTheard X.K X.mg) t) := by
  obtain ⟨g, fd, F, mgF⟩ := T.d__law_heard.ex
  obtain ⟨oc, od, kV, doc, pm, an, cdv, ct, osl, rfl, lk, hcd⟩ := F.ex
  have hb := F.binds (ps := ["call"]) fun _ _ _ _ _ _ us hl => match us, hl with | [_], _ => rfl
  exact LamX.pe_lamcall (a := "call") (Ng := ["call", "heard", "error", "e", "kinds_so", "words", "found", "one", "is_so"]) (sg := defScope s__law_heard) hg mgF F.kp lk hcd hb sc__law_heard rfl (.inl (by decide +kernel)) (heard_gives T) TB hcode hm hu hr L hdef hbind hbody
theorem tabs_put {TT : List (Addr × Str)} {H : Hp} {L : Addr} {xs : List V} {o : HO} (t : LamX.Tabs TT H) (e : H L = some (.lst xs)) : LamX.Tabs TT (upd H L o) := fun p hp => by
  obtain ⟨ps, h1, h2, h3⟩ := t p hp
  have n1 : p.1 ≠ L := fun z => by
    rw [z, e] at h1
    cases h1
  refine ⟨ps, by rw [upd_ne n1]; exact h1, h2, fun pos cv hc => ?_⟩
  obtain ⟨c, e1, e2⟩ := h3 pos cv hc
  refine ⟨c, e1, ?_⟩
  rw [upd_ne fun z => by
    rw [z, e] at e2
    unfold LamX.CodeO at e2
    cases e2]
  exact e2
theorem good_by {F : Fld} {l : List (Str × Int)} (h : (decide (l.length ≤ 60) && l.all fun s => F.names.contains s.1 && (decide (s.2 ≠ 0) && (decide (-(10 ^ 30) ≤ s.2) && decide (s.2 ≤ 10 ^ 30)))) = true) : GoodScript F l := by
  rw [Bool.and_eq_true, List.all_eq_true] at h
  refine ⟨of_decide_eq_true h.1, fun s hs => ?_⟩
  have := h.2 s hs
  rw [Bool.and_eq_true, Bool.and_eq_true, Bool.and_eq_true] at this
  exact ⟨List.contains_iff_mem.mp this.1, of_decide_eq_true this.2.1, of_decide_eq_true this.2.2.1, of_decide_eq_true this.2.2.2⟩
theorem Dr.ext {H H' : Hp} {m c g : Addr} {s : Int} (R : Dr H m c g s) (x : LamX.ExtN H H') : Dr H' m c g s := by
  obtain ⟨⟨cs, gs, em, ec, eg, gc, gl⟩, n, s0⟩ := R
  exact ⟨⟨cs, gs, x _ _ em (fun ps z => nomatch z), extN_lst x ec, extN_lst x eg, gc, gl⟩, n, s0⟩
theorem tabs_kp {TT : List (Addr × Str)} {H H' : Hp} {m c g : Addr} {s : Int} (t : LamX.Tabs TT H) (R : Dr H m c g s) (k : Kp m g H H') : LamX.Tabs TT H' := fun p hp => by
  obtain ⟨⟨cs, gs, em, ec, eg, gc, gl⟩, n, s0⟩ := R
  obtain ⟨ps, h1, h2, h3⟩ := t p hp
  refine ⟨ps, k _ _ (fun z => by rw [z, em] at h1; cases h1) (fun z => by rw [z, eg] at h1; cases h1) h1, h2, fun pos cv hc => ?_⟩
  obtain ⟨c', e1, e2⟩ := h3 pos cv hc
  refine ⟨c', e1, k _ _ (fun z => ?_) (fun z => ?_) e2⟩
  · rw [z, em] at e2
    unfold LamX.CodeO at e2
    cases e2
  · rw [z, eg] at e2
    unfold LamX.CodeO at e2
    cases e2
theorem pe_tupleOfK {X : Cx} {K : PySem.W.Frag} {a : Expr} {ta : TE} {p pos : Pos} (hk : X.K = K) (hg : Gl X "tuple") (hm : X.mg "tuple" = none) (ha : PE X a ta) (na : starEach [a] X.env = (false, eval a X.env) :: starEach [] X.env := by rfl) : PE X (.Call (.Name "tuple" p) [a] [] pos) (tThen ta (kTup K)) := by
  subst hk
  exact pe_tupleOf hg hm ha na
section
variable {K : PySem.W.Frag} {mg : Str → Option Value}
/-- what is called returns a thing -/
theorem heard_ret {tl : XK → Hp → VK → Prop} {H : Hp} {Q : VK} {v : V} (h : ∀ (E : XK) (H0 : Hp) (Qx : VK), Same H H0 → (∀ H', Same H H' → Qx v H') → tl E H0 Qx) (q : ∀ H' r, Same H H' → H r = none → H' r = some (.lst [v]) → Q (.ref r) H') : TTheard K mg tl H Q :=
  ⟨fun _ _ _ => False, fun H0 Qx s0 hQ => h _ H0 Qx s0 fun H' s' => hQ v H' fun H2 r s2 n e => q H2 r (s'.trans s2) (fresh_of s' n) e, fun _ _ _ z => z.elim⟩
/-- what is called refuses -/
theorem heard_ref {tl : XK → Hp → VK → Prop} {H : Hp} {Q : VK} {x f word : Str} {y : V} (hm : ((x, f, word) : Str × Str × Str) ∈ ([("BadField", "part", "field"), ("BadScript", "place", "script"), ("BadYard", "part", "yard"), ("BadSpot", "value", "spot")] : List (Str × Str × Str)))
    (h : ∀ (E : XK) (H0 : Hp) (Qx : VK), Same H H0 → (∀ C H' dx, mg x = some (.ref C) → ExcC K C → Same H H' → H' dx = some (.xd [(f, y)]) → E (.ref C) (some dx) H') → tl E H0 Qx) (q : ∀ H' r, Same H H' → SqT K H' r [.str word, y] → Q (.ref r) H') : TTheard K mg tl H Q :=
  ⟨fun cls d H' => ∃ C dx : Addr, cls = .ref C ∧ d = some dx ∧ mg x = some (.ref C) ∧ ExcC K C ∧ Same H H' ∧ H' dx = some (.xd [(f, y)]),
    fun H0 Qx s0 _ => h _ H0 Qx s0 fun C H' dx hg hC s' e => ⟨C, dx, rfl, rfl, hg, hC, s', e⟩,
    fun cls d H' ⟨C, dx, e1, e2, hg, hC, s', e⟩ => ⟨word, y, ⟨x, f, C, dx, hm, hg, hC, e1, e2, e⟩, fun H2 r s2 hr => q H2 r (s'.trans s2) hr⟩⟩
end
theorem eqv_row (N : Nat) (g : Nat → Nat) : PyData.eqv (dRowN N g) (dRowN N g) = true := by
  rw [dRowN_ints, PyData.eqv, eqv_ints]
  exact decide_eq_true rfl
theorem eqv_yard (F : Fld) (N : Nat) (f : Str → Nat → Nat) : PyData.eqv (dYard F N f) (dYard F N f) = true := by
  unfold dYard
  rw [PyData.eqv]
  generalize F.names = l
  induction l with
  | nil => rfl
  | cons a l ih =>
    rw [List.map_cons, PyData.eqvAll, eqv_row, ih]
    rfl
theorem sh_yard (F : Fld) (N : Nat) (f : Str → Nat → Nat) : SeqAt.shaped (dYard F N f) = true := by
  have h : PyData.canLayAll0 (F.names.map fun n => dRowN N (f n)) = true ∧ PyData.depthAll (F.names.map fun n => dRowN N (f n)) ≤ 1 := by
    generalize F.names = l
    induction l with
    | nil => exact ⟨rfl, Nat.zero_le _⟩
    | cons a l ih =>
      rw [List.map_cons, PyData.canLayAll0, PyData.depthAll, dRowN_ints, PyData.canLay0, PyData.depth, layInts, deepInts, ih.1]
      exact ⟨rfl, by have := ih.2; omega⟩
  show (PyData.canLayAll0 (F.names.map fun n => dRowN N (f n)) && decide (PyData.depthAll (F.names.map fun n => dRowN N (f n)) + 1 ≤ 64)) = true
  rw [h.1, Bool.true_and]
  have := h.2
  exact decide_eq_true (by omega)
theorem ringG : rgV 1 2000 ++ [V.int 0] = rowV 2000 (fG "a") := by
  unfold rgV rowV
  rw [show ((2000 : Int) - 1).toNat = 1999 by decide, show (2000 : Nat) = 1999 + 1 by rfl, List.range_succ, List.map_append]
  congr 1
theorem sameG : rgV 0 2000 = rowV 2000 (fG "b") := by
  unfold rgV rowV
  rw [show ((2000 : Int) - 0).toNat = 2000 by decide]
  refine List.map_congr_left fun x hx => ?_
  rw [fG_b]
  congr 1
  omega
def rgI (a b : Int) : List Int := (List.range (b - a).toNat).map fun i => a + (i : Nat)
theorem rgV_ints (a b : Int) : rgV a b = (rgI a b).map V.int := by
  unfold rgV rgI
  rw [List.map_map]
  rfl
theorem rgI_len (a b : Int) : (rgI a b).length = (b - a).toNat := by
  unfold rgI
  rw [List.length_map, List.length_range]
/-- a yard with one spot too many -/
def dLong : PyData := .tuple [.tuple ((rgI 1 2001 ++ [0]).map .int), .tuple ((rgI 0 2001).map .int)]
theorem long_wrong : wrongD F2 dLong = some ("form" : Str) := by
  refine wrong_form ?_
  have e : ((rgI 1 2001 ++ [0]).map PyData.int).length = 2001 := by
    rw [List.length_map, List.length_append, rgI_len]
    rfl
  show (decide (([PyData.tuple ((rgI 0 2001).map .int)] : List PyData).length + 1 = F2.names.length) && (decide (1 ≤ ((rgI 1 2001 ++ [0]).map PyData.int).length) && decide (((rgI 1 2001 ++ [0]).map PyData.int).length ≤ 2000))) = false
  rw [e]
  simp
theorem long_small : YSmall dLong := fun ds e => by
  unfold dLong at e
  cases e
  refine ⟨by decide, fun r hr es er => ?_⟩
  simp only [List.mem_cons, List.not_mem_nil, or_false] at hr
  rcases hr with h | h <;> rw [h] at er <;> cases er
  · rw [List.length_map, List.length_append, rgI_len]
    decide
  · rw [List.length_map, rgI_len]
    decide
theorem yardG_small : YSmall (dYard F2 2000 fG) := fun ds e => by
  unfold dYard at e
  cases e
  refine ⟨by decide, fun r hr es er => ?_⟩
  obtain ⟨n, _, rfl⟩ := List.mem_map.mp hr
  cases er
  rw [List.length_map, List.length_range]
  decide
end XB
set_option Elab.async false
set_option linter.all false
set_option maxRecDepth 100000
set_option maxHeartbeats 8000000
namespace XB
open PySem PySem.Spec PyProof.Rows L2
section
variable {P : Program} {w : World} {K : PySem.W.Frag} {mg : Str → Option Value} {base : Heap}
def qGR : Str := "_law_great_right" ++ ".<locals>." ++ "<lambda>"
def spGR (K : PySem.W.Frag) (TT : List (Addr × Str)) : Sp := fun vs H Q _ => vs = [] ∧ LamX.Tabs TT H ∧ ∀ H', Q (.bl true) H'
theorem c__law_great_right (T : Tx K mg) {c tab : Addr} {TT : List (Addr × Str)} (CT : CodeT K mg base "_law_great_right" c tab) (hmT : (tab, qGR) ∈ TT) (huT : ∀ y ∈ TT, y.1 = tab → y.2 = qGR) : Cl P w K mg base CX0 9 "_law_great_right" (spGR K TT) := by
  refine clC T.d__law_great_right CT (ps := []) (fun _ _ _ _ _ _ us hl => match us, hl with | [], _ => rfl) sc__law_great_right (fun vs H Q E h => ?_) (fun f A outer st H vs Q E hr h => ?_)
  · obtain ⟨rfl, _⟩ := h
    rfl
  · obtain ⟨rfl, hT, q⟩ := h
    have nd := sc__law_great_right.nd
    have C30 : CPow 10 30 := ⟨by decide, by decide, by decide⟩
    refine ⟨_, (pss_cons (ps_set (i := 0) nd rfl (.inl rfl) (pe_tupleOf (by rfl) T.b_tuple (pe_op op_cat (pe_listRg (by rfl) (by rfl) T.b_list (prg_2 (by rfl) T.b_range pe_int pe_int)) (pe_lst (pa_cons pe_int pa_nil)))))
    (pss_cons (ps_asg (pe_tup (pa_cons (pe_tup (pa_cons (pe_tup (pa_cons pe_str (pa_cons pe_str pa_nil))) (pa_cons (pe_tup (pa_cons (pe_tup (pa_cons pe_str (pa_cons pe_str pa_nil))) pa_nil)) pa_nil))) (pa_cons (pe_tup (pa_cons (pv 0) (pa_cons (pe_tupRg (by rfl) (by rfl) T.b_tuple (prg_1 (by rfl) T.b_range pe_int)) pa_nil))) pa_nil))) (pg_tup rfl (pgs_cons (pg_name (i := 1) nd rfl (.inr rfl)) (pgs_cons (pg_name (i := 2) nd rfl (.inl rfl)) pgs_nil))))
    (pss_cons (ps_if (PW.pt (pw_or (pt_cmpR (op_neD hr.units) (pe_kL (c_need_yard T) hr (by decide) (by rfl) (pa_cons (pv 1) (pa_cons (pv 2) pa_nil))) (pv 2) (nomark _)) (pw_or1 (pt_cmpR op_ne (pe_kL (c_led T) hr (by decide) (by rfl) (pa_cons (pv 1) (pa_cons (pv 2) (pa_cons (pe_tup (pa_cons (pe_tup (pa_cons pe_str (pa_cons (pe_op op_pow pe_int pe_int) pa_nil))) (pa_cons (pe_tup (pa_cons pe_str (pa_cons pe_int pa_nil))) pa_nil))) (pa_cons pe_int pa_nil))))) pe_int (nomark _))))) pss_never pss_nil)
    (pss_cons (ps_set (i := 3) nd rfl (.inr rfl) (pe_tup (pa_cons (pe_tupleOf (by rfl) T.b_tuple (pe_op op_cat (pe_listRg (by rfl) (by rfl) T.b_list (prg_2 (by rfl) T.b_range pe_int pe_int)) (pe_lst (pa_cons pe_int pa_nil)))) (pa_cons (pe_tupRg (by rfl) (by rfl) T.b_tuple (prg_1 (by rfl) T.b_range pe_int)) pa_nil))))
    (pss_one (ps_ret (pe_cmpR (op_eqD hr.units) (pe_heardT T (by rfl) CT.tb rfl hmT huT hr (LamX.lamS_by (sc := defScope s__law_great_right) (by decide +kernel)) rfl (fun _ _ _ _ _ => rfl) (fun A2 outer2 st2 H2 E2 f2 c2 hr2 => (pe_kX (c_need_yard T) hr2 (by decide) (takes_of rfl rfl rfl rfl) (by rfl) (pa_cons (pv 1) (pa_cons (pv 3) pa_nil))))) (pe_tup (pa_cons pe_str (pa_cons pe_str pa_nil))) (nomark _)))))))), ?_⟩
    --@
    have lR : (rgV 1 2000).length = 1999 := by rw [rgV_length]; decide
    refine ⟨1, 2000, rfl, rfl, RgOk.of_le (by decide) (by decide) (by decide) (by decide), fun a1 m1 => upd_gen m1 fun L1 l1 f1 => ⟨one_sz, fun a2 m2 => upd_gen m2 fun L2 l2 f2 => ?_⟩⟩
    refine catL (l2 _ _ f1) f2 (by rw [lR, sizeLine_eq]; decide) fun L3 a3 l3 n3 f3 => ?_
    refine .inl ⟨a3, _, rfl, SqL.of f3, fun r1 m4 => upd_gen m4 fun L4 l4 f4 => ?_⟩
    have hR1 : SqT K L4 r1 (rowV 2000 (fG "a")) := by
      rw [← ringG]
      exact SqT.of f4
    refine ⟨two_sz, fun p1 n1 => upd_gen n1 fun J1 j1 e1 => ⟨two_sz, fun p2 n2 => upd_gen n2 fun J2 j2 e2 => ⟨one_sz, fun p3 n3 => upd_gen n3 fun J3 j3 e3 => ⟨two_sz, fun p4 n4 => upd_gen n4 fun J4 j4 e4 => ?_⟩⟩⟩⟩
    refine ⟨_, rfl, 2000, rfl, RgOk.of_le (by decide) (by decide) (by decide) (by decide), fun r2 n5 => upd_gen n5 fun J5 j5 e5 => ⟨two_sz, fun y n6 => upd_gen n6 fun J6 j6 e6 => ⟨two_sz, fun z n7 => upd_gen n7 fun J7 j7 e7 => ?_⟩⟩⟩
    refine ⟨z, _, rfl, SqT.of e7, rfl, _, _, rfl, _, _, rfl, rfl, ?_⟩
    have j57 : Same J5 J7 := j6.trans j7
    have j47 := j5.trans j57
    have j37 := j4.trans j47
    have j27 := j3.trans j37
    have j17 := j2.trans j27
    have hF : Dp K J7 (.ref p4) (dField F2) := .tup ((Tk.of j47).sqT (SqT.of e4)) (.cons (.tup ((Tk.of j17).sqT (SqT.of e1)) (.cons (.str _) (.cons (.str _) .nil))) (.cons (.tup ((Tk.of j37).sqT (SqT.of e3)) (.cons (.tup ((Tk.of j27).sqT (SqT.of e2)) (.cons (.str _) (.cons (.str _) .nil))) .nil)) .nil))
    have hR2 : SqT K J5 r2 (rowV 2000 (fG "b")) := by
      rw [← sameG]
      exact SqT.of e5
    have hY : Dp K J7 (.ref y) (dYard F2 2000 fG) := .tup ((Tk.of j7).sqT (SqT.of e6)) (.cons (.tup ((Tk.of (j1.trans j17)).sqT hR1) rowV_dp) (.cons (.tup ((Tk.of j57).sqT hR2) rowV_dp) .nil))
    have hT7 := hT.ext ((l1.trans (l2.trans (l3.trans l4))).trans (j1.trans j17))
    have right := yard_right F2_ok ydG (by decide) (by decide)
    clear e1 e2 e3 e4 e5 e6 e7 f1 f2 f3 f4
    refine ⟨_, rfl, _, rfl, p4, .ref y, F2, dYard F2 2000 fG, rfl, hF, F2_ok, hY, yardG_small, ?_⟩
    rw [right]
    intro H8 s8
    have hF8 := tF hF s8
    have hY8 := Dp.sm s8 _ hY
    refine ⟨_, rfl, _, _, hY8, hY8, sh_yard F2 2000 fG, sh_yard F2 2000 fG, ?_⟩
    rw [eqv_yard]
    refine ⟨_, rfl, iteF ?_⟩
    refine ⟨_, rfl, _, rfl, _, _, rfl, rfl, C30, two_sz, fun b1 m1 => upd_gen m1 fun L1 l1 f1 => ⟨two_sz, fun b2 m2 => upd_gen m2 fun L2 l2 f2 => ⟨two_sz, fun b3 m3 => upd_gen m3 fun L3 l3 f3 => ?_⟩⟩⟩
    have l13 := l1.trans (l2.trans l3)
    have dS : Dp K L3 (.ref b3) (dSteps [("a", 10 ^ 30), ("b", 5)]) := .tup (SqT.of f3) (.cons (Dp.of_step (s := ("a", 10 ^ 30)) ((Tk.of (l2.trans l3)).sqT (SqT.of f1))) (.cons (Dp.of_step (s := ("b", 5)) ((Tk.of l3).sqT (SqT.of f2))) .nil))
    refine ⟨p4, .ref y, .ref b3, .int 1999, F2, dYard F2 2000 fG, rfl, tF hF8 l13, F2_ok, Dp.sm l13 _ hY8, yardG_small, .inr ⟨y, b3, 2000, fG, _, .int 1999, rfl, rfl, right, rfl, ydG, by decide, by decide, dS, good_by (by decide +kernel), .int _, ?_⟩⟩
    rw [show spotD 2000 (.int 1999) = some 1999 by decide]
    intro H9 s9
    rw [ledG]
    refine ⟨rfl, _, rfl, iteF ?_⟩
    have hF9 := tF hF8 (l13.trans s9)
    have hT9 := hT7.ext (s8.trans (l13.trans s9))
    clear hF hF8 hY hY8 dS f1 f2 f3 hT7
    have lR2 : (rgV 1 2001).length = 2000 := by rw [rgV_length]; decide
    refine ⟨1, 2001, rfl, rfl, RgOk.of_le (by decide) (by decide) (by decide) (by decide), fun a1 m1 => upd_gen m1 fun L1 l1 f1 => ⟨one_sz, fun a2 m2 => upd_gen m2 fun L2 l2 f2 => ?_⟩⟩
    refine catL (l2 _ _ f1) f2 (by rw [lR2, sizeLine_eq]; decide) fun L3 a3 l3 n3 f3 => ?_
    refine .inl ⟨a3, _, rfl, SqL.of f3, fun r3 m4 => upd_gen m4 fun L4 l4 f4 => ?_⟩
    refine ⟨2001, rfl, RgOk.of_le (by decide) (by decide) (by decide) (by decide), fun r4 n5 => upd_gen n5 fun L5 l5 f5 => ⟨two_sz, fun lg n6 => upd_gen n6 fun L6 l6 f6 => ?_⟩⟩
    have l56 := l5.trans l6
    have dL : Dp K L6 (.ref lg) dLong := by
      refine .tup (SqT.of f6) (.cons (.tup (((Tk.of l56)).sqT (SqT.of f4)) ?_) (.cons (.tup ((Tk.of l6).sqT (SqT.of f5)) ?_) .nil))
      · rw [rgV_ints, show ([V.int 0] : List V) = ([0] : List Int).map V.int from rfl, ← List.map_append]
        exact dpInts _
      · rw [rgV_ints]
        exact dpInts _
    have l16 := l1.trans (l2.trans (l3.trans (l4.trans l56)))
    have hF10 := tF hF9 l16
    have hT10 := hT9.ext l16
    clear hF9 hT9 f1 f2 f3 f4 f5 f6
    refine ⟨hT10, fun K1 x1 T1 => heard_ref (x := "BadYard") (f := "part") (word := "yard") (y := .str "form") (by simp) (fun E1 M0 Qx s0 o => ?_) (fun M1 r s1 hr1 => ?_)⟩
    · refine ⟨_, rfl, _, rfl, p4, .ref lg, F2, dLong, rfl, tF (Dp.ext x1 _ hF10) s0, F2_ok, Dp.sm s0 _ (Dp.ext x1 _ dL), long_small, ?_⟩
      rw [long_wrong]
      exact fun C H' dx hC hT s' e => o C H' dx hC hT (s0.trans s') e
    · refine ⟨two_sz, fun t1 m1 => upd_gen m1 fun M2 s2 g2 => ?_⟩
      refine ⟨.tuple [.str "yard", .str "form"], .tuple [.str "yard", .str "form"], .tup ((Tk.of s2).sqT hr1) (.cons (.str _) (.cons (.str _) .nil)), .tup (SqT.of g2) (.cons (.str _) (.cons (.str _) .nil)), by decide +kernel, by decide +kernel, ?_⟩
      exact q _
end
end XB
set_option Elab.async false
set_option linter.all false
set_option maxRecDepth 100000
set_option maxHeartbeats 8000000
namespace XB
open PySem PySem.Spec PyProof.Rows L2
/-- what is due of a thing as a yard -/
def dDue (d : PyData) : Option Str → PyData
  | none => .list [d]
  | some x => .tuple [.str "yard", .str x]
theorem wrong_words {F : Fld} {d : PyData} {x : Str} (h : wrongD F d = some x) : x = "form" ∨ x = "turn" ∨ x = "change" := by
  unfold wrongD at h
  split at h
  · split at h
    · split at h
      · split at h
        · cases h
        · cases h
          exact .inr (.inr rfl)
      · cases h
        exact .inr (.inl rfl)
    · cases h
      exact .inl rfl
  · cases h
    exact .inl rfl
theorem due_okd {F : Fld} {d : PyData} (hd : Okd 4 3000 d) : Okd 5 4000 (dDue d (wrongD F d)) := by
  cases h : wrongD F d with
  | none => exact (okd_lst (k := 1) (fun x hx => by rw [List.mem_singleton.mp hx]; exact hd) (Nat.le_refl _)).mono (by decide) (by decide)
  | some x =>
    have e : ∀ x : Str, Okd 5 4000 (.tuple [.str "yard", .str x]) → Okd 5 4000 (dDue d (some x)) := fun _ h => h
    rcases wrong_words h with rfl | rfl | rfl <;> exact e _ (okd_dec (by decide +kernel))
theorem due_eqv {F : Fld} {d : PyData} {x : Str} (h : wrongD F d = some x) : PyData.eqv (.tuple [.str "yard", .str x]) (.tuple [.str "yard", .str x]) = true ∧ SeqAt.shaped (.tuple [.str "yard", .str x]) = true := by
  rcases wrong_words h with rfl | rfl | rfl <;> exact ⟨by decide +kernel, by decide +kernel⟩
theorem rowV_suc {k : Nat} {g : Nat → Nat} : rowV (k + 1) g = rowV k g ++ [V.int ((g k : Nat) : Int)] := by
  unfold rowV
  rw [List.range_succ, List.map_append]
  rfl
theorem flat_yard (F : Fld) (N : Nat) (f : Str → Nat → Nat) : flatD (dYard F N f) = true := by
  unfold dYard
  rw [flatD]
  refine flatAll_of fun d hd => ?_
  obtain ⟨n, _, rfl⟩ := List.mem_map.mp hd
  unfold dRowN
  rw [flatD]
  refine flatAll_of fun d hd => ?_
  obtain ⟨x, _, rfl⟩ := List.mem_map.mp hd
  rfl
/-- the list of where all spots lead -/
def dLedL (N : Nat) (f : Str → Nat → Nat) (l : List (Str × Int)) : PyData := .list ((List.range N).map fun x => .int ((XM.leads N f x l : Nat) : Int))
theorem led_okd {F : Fld} {N : Nat} {f : Str → Nat → Nat} {l : List (Str × Int)} (Y : XM.Yd (OF F) (fun x => x ∈ F.names) N f) (hN : Names F l) (n16 : N ≤ 16) : Okd 1 20 (dLedL N f l) :=
  (okd_lst (k := 16) (rowV_ok (g := fun x => XM.leads N f x l) (fun x hx => XM.leads_lt Y hN hx) n16) (by rw [List.length_map, List.length_range]; exact n16)).mono (by decide) (by decide)
theorem led_dp {K : PySem.W.Frag} {H : Hp} {D : Addr} {N : Nat} {f : Str → Nat → Nat} {l : List (Str × Int)} (e : H D = some (.lst (rowV N fun x => XM.leads N f x l))) : Dp K H (.ref D) (dLedL N f l) := .lst (SqL.of e) rowV_dp
theorem led_eqv (N : Nat) (f : Str → Nat → Nat) (l m : List (Str × Int)) : PyData.eqv (dLedL N f l) (dLedL N f m) = decide (((List.range N).map fun x => XM.leads N f x l) = (List.range N).map fun x => XM.leads N f x m) := by
  have e : ∀ l : List (Str × Int), dLedL N f l = .list ((((List.range N).map fun x => XM.leads N f x l).map Int.ofNat).map .int) := fun l => by
    unfold dLedL
    rw [List.map_map, List.map_map]
    rfl
  rw [e, e, eqv_intsL]
  exact decide_eq_decide.mpr map_nat_eq
theorem spot_in {N k : Nat} (h : k < N) : spotD N (.int (0 + (k : Int))) = some k := by
  rw [Int.zero_add]
  exact (if_pos ⟨Int.natCast_nonneg k, Int.ofNat_lt.mpr h⟩).trans (by rw [Int.toNat_natCast])
theorem spot_m1 {N : Nat} : spotD N (.int (-1)) = none := by
  unfold spotD
  exact if_neg fun h => absurd h.1 (by decide)
section
variable {P : Program} {w : World} {K : PySem.W.Frag} {mg : Str → Option Value} {base : Heap}
def InvO (TT : List (Addr × Str)) (a m c g : Addr) (i : Nat) : L2.St → Hp → Prop := fun σ H => ∃ (y2 y3 y4 y5 y6 y7 y8 y9 y10 y11 y12 y13 y14 y15 y16 : Option V) (s2 : Int), σ = [some (.ref a), some (.ref m), y2, y3, y4, y5, y6, y7, y8, y9, y10, y11, y12, y13, y14, y15, y16] ∧ Dr H m c g s2 ∧ s2 ≤ 400 * (i : Int) ∧ LamX.Tabs TT H
def qLw : Str := "law" ++ ".<locals>." ++ "<lambda>"
def spLawT (K : PySem.W.Frag) (t1 t2 : Addr) : Sp := fun vs H Q _ => ∃ (a : Addr) (ns : List Int), vs = [.ref a] ∧ SqL K H a (ns.map V.int) ∧ ns.length ≤ 1000 ∧ H t1 = some (.tbl #[]) ∧ H t2 = some (.tbl #[]) ∧ ∀ H', Q (.bl true) H'
theorem fg_lawT (T : Tx K mg) {fl : Addr} {fd : FuncData} (FL : Fun K "law" "law" s_law fl fd) (hml : mg "law" = some (.ref fl)) {c1 t1 c2 t2 : Addr} (CT : CodeT K mg base "law" c1 t1) (CB : CodeT K mg base "_law_great_right" c2 t2) (n12 : t1 ≠ t2) : FnG P w K mg base CX0 10 fl fd ["script"] (spLawT K t1 t2) := by
  refine fgC FL hml CT sc_law (fun vs H Q E h => ?_) (fun fa A outer st H vs Q E hgu hr h => ?_)
  · obtain ⟨a, ns, rfl, _⟩ := h
    rfl
  · obtain ⟨a, ns, rfl, hS, hl, hT1, hT2, q⟩ := h
    have nd := sc_law.nd
    have hu : (A.deeper (envOfC "law" (defScope s_law) st.heap.objs.size fa (.ref c1))).units + 70 < cLine := by
      have := hr.un
      omega
    have hmT : (t1, qLw) ∈ [(t1, qLw), (t2, qGR)] := List.mem_cons_self
    have huT : ∀ y ∈ [(t1, qLw), (t2, qGR)], y.1 = t1 → y.2 = qLw := fun y hy e => by
      rcases List.mem_cons.mp hy with h | h
      · rw [h]
      · rw [List.mem_singleton.mp h] at e
        exact absurd e.symm n12
    have hmB : (t2, qGR) ∈ [(t1, qLw), (t2, qGR)] := List.mem_cons_of_mem _ List.mem_cons_self
    have huB : ∀ y ∈ [(t1, qLw), (t2, qGR)], y.1 = t2 → y.2 = qGR := fun y hy e => by
      rcases List.mem_cons.mp hy with h | h
      · rw [h] at e
        exact absurd e n12
      · rw [List.mem_singleton.mp h]
    have hTT : LamX.Tabs [(t1, qLw), (t2, qGR)] H := fun y hy => by
      rcases List.mem_cons.mp hy with h | h
      · rw [h]
        exact LamX.TabS.nil hT1
      · rw [List.mem_singleton.mp h]
        exact LamX.TabS.nil hT2
    generalize [(t1, qLw), (t2, qGR)] = TT at hmT huT hmB huB hTT
    refine ⟨_, (pss_cons (ps_set (i := 1) nd rfl (.inl rfl) (pe_k (c_begun T) hr (by decide) (by rfl) (pa_cons (pv 0) pa_nil)))
    (pss_cons (ps_for PassesOwn.never rfl (pi_range1 (by rfl) T.b_range (pa_cons pe_int pa_nil)) (pg_name (i := 2) nd rfl (.inl rfl))
    (pss_cons (ps_set (i := 3) nd rfl (.inr rfl) (pe_k (c__law_field T) hr (by decide) (by rfl) (pa_cons (pv 1) (pa_cons pe_int pa_nil))))
    (pss_cons (ps_asg (pe_tup (pa_cons (pe_k (c__law_yard T) hr (by decide) (by rfl) (pa_cons (pv 1) (pa_cons (pv 3) pa_nil))) (pa_cons (pe_k (c__law_script T) hr (by decide) (by rfl) (pa_cons (pv 1) (pa_cons (pv 3) (pa_cons pe_int pa_nil)))) pa_nil))) (pg_tup rfl (pgs_cons (pg_name (i := 4) nd rfl (.inr rfl)) (pgs_cons (pg_name (i := 5) nd rfl (.inr rfl)) pgs_nil))))
    (pss_cons (ps_par (i := 6) (j := 7) rfl nd rfl rfl (by decide) rfl rfl (pa_cons (pe_k (c__law_bent T) hr (by decide) (by rfl) (pa_cons (pv 1) (pa_cons (pv 4) pa_nil))) (pa_cons (pe_callB (call_reprD hgu hu) (by rfl) T.b_repr (by decide +kernel) (pa_cons (pv 4) pa_nil)) pa_nil)) rfl)
    (pss_cons (ps_for PassesOwn.never rfl (pi_tup (pe_tup (pa_cons (pv 4) (pa_cons (pv 6) pa_nil)))) (pg_name (i := 8) nd rfl (.inr rfl))
    (pss_cons (ps_set (i := 9) nd rfl (.inl rfl) (pe_k (c__law_wrong T) hr (by decide) (by rfl) (pa_cons (pv 3) (pa_cons (pv 8) pa_nil))))
    (C8.pss_cut (ps_set (i := 10) nd rfl (.inl rfl) (pe_ifExp (pt_cmpR op_isN (pv 9) pe_non (nomark _)) (pe_lst (pa_cons (pv 8) pa_nil)) (pe_tup (pa_cons pe_str (pa_cons (pv 9) pa_nil)))))
    (pss_cons (ps_if (pt_not (pt_val (pe_g (g__law_like T) hgu hr (by decide) (by rfl) (pa_cons (pe_heardT T (by rfl) CT.tb rfl hmT huT hr (LamX.lamS_by (sc := defScope s_law) (by decide +kernel)) rfl (fun _ _ _ _ _ => rfl) (fun A2 outer2 st2 H2 E2 f2 c2 hr2 => (pe_kX (c_need_yard T) hr2 (by decide) (takes_of rfl rfl rfl rfl) (by rfl) (pa_cons (pv 3) (pa_cons (pv 8) pa_nil))))) (pa_cons (pv 10) pa_nil))))) pss_never pss_nil)
    (pss_cons (ps_if (PW.pt (pw_and (pt_cmpR op_notN (pv 9) pe_non (nomark _)) (pw_and1 (pt_cmpR (op_neD hr.units) (pe_heardT T (by rfl) CT.tb rfl hmT huT hr (LamX.lamS_by (sc := defScope s_law) (by decide +kernel)) rfl (fun _ _ _ _ _ => rfl) (fun A2 outer2 st2 H2 E2 f2 c2 hr2 => (pe_kX (c_led T) hr2 (by decide) (takes_of rfl rfl rfl rfl) (by rfl) (pa_cons (pv 3) (pa_cons (pv 8) (pa_cons pe_non (pa_cons pe_non pa_nil))))))) (pv 10) (nomark _))))) pss_never pss_nil)
    (pss_one (ps_if (PW.pt (pw_and (pt_cmpR op_notN (pv 9) pe_non (nomark _)) (pw_and1 (pt_cmpR (op_neD hr.units) (pe_heardT T (by rfl) CT.tb rfl hmT huT hr (LamX.lamS_by (sc := defScope s_law) (by decide +kernel)) rfl (fun _ _ _ _ _ => rfl) (fun A2 outer2 st2 H2 E2 f2 c2 hr2 => (pe_kX (c_do_alike_in T) hr2 (by decide) (takes_of rfl rfl rfl rfl) (by rfl) (pa_cons (pv 3) (pa_cons (pv 8) (pa_cons pe_non (pa_cons pe_non pa_nil))))))) (pv 10) (nomark _))))) pss_never pss_nil)))))))
    (pss_cons (ps_set (i := 11) nd rfl (.inr rfl) (pe_ix (ixk_list (K := K) rfl) (pe_lst (pa_cons (pe_k (c__law_stirred T) hr (by decide) (by rfl) (pa_cons (pv 1) (pa_cons (pv 3) (pa_cons (pv 5) (pa_cons pe_int pa_nil))))) (pa_cons (pe_k (c__law_script T) hr (by decide) (by rfl) (pa_cons (pv 1) (pa_cons (pv 3) (pa_cons pe_int pa_nil)))) pa_nil))) (pe_k (c_draw T) hr (by decide) (by rfl) (pa_cons (pv 1) (pa_cons pe_int pa_nil))) (fun _ _ => rfl)))
    (pss_cons (ps_setLc (i := 12) (own := [("spot", 16)]) (g := (gName 16)) (tt := tYes) rfl nd rfl rfl (sw_true rfl rfl rfl (by decide +kernel)) (pi_range1 (by rfl) T.b_range (pa_cons (pe_lenS (by rfl) T.b_len (pe_ix (ixk_tup (K := K) rfl) (pv 4) pe_int (fun _ _ => rfl))) pa_nil)) (blkOk_by (own := [("spot", 16)]) (N := ["script", "m", "turn", "field", "yard", "row", "bent", "kept", "one", "word", "due", "other", "mine", "yours", "told_so", "odd", "spot"]) (sc := defScope s_law) (by decide +kernel)) (fun _ _ _ _ _ => (pg_name (i := 16) nd rfl (by first | exact Or.inl rfl | exact Or.inr rfl))) (fun _ _ _ _ _ => pts_nil) (fun _ _ _ _ _ => (pe_gF (fun F => (c__law_led T F).toG) hgu hr (by decide) (by rfl) (pa_cons (pv 3) (pa_cons (pv 4) (pa_cons (pv 5) (pa_cons (pv 16) pa_nil)))))))
    (pss_cons (ps_setLc (i := 13) (own := [("spot", 16)]) (g := (gName 16)) (tt := tYes) rfl nd rfl rfl (sw_true rfl rfl rfl (by decide +kernel)) (pi_range1 (by rfl) T.b_range (pa_cons (pe_lenS (by rfl) T.b_len (pe_ix (ixk_tup (K := K) rfl) (pv 4) pe_int (fun _ _ => rfl))) pa_nil)) (blkOk_by (own := [("spot", 16)]) (N := ["script", "m", "turn", "field", "yard", "row", "bent", "kept", "one", "word", "due", "other", "mine", "yours", "told_so", "odd", "spot"]) (sc := defScope s_law) (by decide +kernel)) (fun _ _ _ _ _ => (pg_name (i := 16) nd rfl (by first | exact Or.inl rfl | exact Or.inr rfl))) (fun _ _ _ _ _ => pts_nil) (fun _ _ _ _ _ => (pe_gF (fun F => (c__law_led T F).toG) hgu hr (by decide) (by rfl) (pa_cons (pv 3) (pa_cons (pv 4) (pa_cons (pv 11) (pa_cons (pv 16) pa_nil)))))))
    (pss_cons (ps_if (pt_not (pt_val (pe_g (g__law_like T) hgu hr (by decide) (by rfl) (pa_cons (pe_lc (own := [("spot", 16)]) (g := (gName 16)) (tt := tYes) (by rfl) nd (pi_range1 (by rfl) T.b_range (pa_cons (pe_lenS (by rfl) T.b_len (pe_ix (ixk_tup (K := K) rfl) (pv 4) pe_int (fun _ _ => rfl))) pa_nil)) (blkOk_by (own := [("spot", 16)]) (N := ["script", "m", "turn", "field", "yard", "row", "bent", "kept", "one", "word", "due", "other", "mine", "yours", "told_so", "odd", "spot"]) (sc := defScope s_law) (by decide +kernel)) (fun _ _ _ _ _ => (pg_name (i := 16) nd rfl (by first | exact Or.inl rfl | exact Or.inr rfl))) (fun _ _ _ _ _ => pts_nil) (fun _ _ _ _ _ => (pe_kL (c_led T) hr (by decide) (by rfl) (pa_cons (pv 3) (pa_cons (pv 4) (pa_cons (pv 5) (pa_cons (pv 16) pa_nil))))))) (pa_cons (pv 12) pa_nil))))) pss_never pss_nil)
    (pss_cons (ps_set (i := 14) nd rfl (.inl rfl) (pe_lst (pa_cons (pe_kL (c_do_alike_in T) hr (by decide) (by rfl) (pa_cons (pv 3) (pa_cons (pv 4) (pa_cons (pv 5) (pa_cons (pv 11) pa_nil))))) (pa_cons (pe_kL (c_do_alike_in T) hr (by decide) (by rfl) (pa_cons (pv 3) (pa_cons (pv 4) (pa_cons (pv 11) (pa_cons (pv 5) pa_nil))))) pa_nil))))
    (pss_cons (ps_if (pt_not (pt_val (pe_g (g__law_like T) hgu hr (by decide) (by rfl) (pa_cons (pv 14) (pa_cons (pe_op op_rep (pe_lst (pa_cons (pe_cmpR (op_eqD hr.units) (pv 12) (pv 13) (nomark _)) pa_nil)) pe_int) pa_nil))))) pss_never pss_nil)
    (pss_cons (ps_set (i := 15) nd rfl (.inr rfl) (pe_ix (ixk_list (K := K) rfl) (pe_lst (pa_cons pe_non (pa_cons (pe_un un_neg pe_int) (pa_cons (pe_lenS (by rfl) T.b_len (pe_ix (ixk_tup (K := K) rfl) (pv 4) pe_int (fun _ _ => rfl))) (pa_cons pe_bl (pa_cons pe_str (pa_cons (pe_tup (pa_cons pe_int pa_nil)) pa_nil))))))) (pe_k (c_draw T) hr (by decide) (by rfl) (pa_cons (pv 1) (pa_cons pe_int pa_nil))) (fun _ _ => rfl)))
    (pss_cons (ps_if (pt_not (pt_val (pe_g (g__law_like T) hgu hr (by decide) (by rfl) (pa_cons (pe_heardT T (by rfl) CT.tb rfl hmT huT hr (LamX.lamS_by (sc := defScope s_law) (by decide +kernel)) rfl (fun _ _ _ _ _ => rfl) (fun A2 outer2 st2 H2 E2 f2 c2 hr2 => (pe_kX (c_led T) hr2 (by decide) (takes_of rfl rfl rfl rfl) (by rfl) (pa_cons (pv 3) (pa_cons (pv 4) (pa_cons (pv 5) (pa_cons (pv 15) pa_nil))))))) (pa_cons (pe_tup (pa_cons pe_str (pa_cons (pv 15) pa_nil))) pa_nil))))) pss_never pss_nil)
    (pss_one (ps_if (pt_cmpR op_ne (pe_callB (call_reprD hgu hu) (by rfl) T.b_repr (by decide +kernel) (pa_cons (pv 4) pa_nil)) (pv 7) (nomark _)) pss_never pss_nil)))))))))))))))
    (pss_one (ps_ret (pe_k0 (c__law_great_right T CB hmB huB) hr (by decide) (by rfl)))))), ?_⟩
    --@
    refine ⟨_, rfl, a, ns, rfl, hS, hl, fun H1 m c g sb _ _ _ R1 => ?_⟩
    refine ⟨6, rfl, by decide, by decide, for_range (lo := 0) (n := 6) (fun i σ H2 => InvO TT a m c g i σ H2) ⟨_, _, _, _, _, _, _, _, _, _, _, _, _, _, _, 0, rfl, R1, by decide, hTT.ext sb⟩ (fun i σ H2 hi hInv => ?_) (fun σ H2 hInv => ?_)⟩
    · obtain ⟨y2, y3, y4, y5, y6, y7, y8, y9, y10, y11, y12, y13, y14, y15, y16, s2, eσ, R2, hs2, T2⟩ := hInv
      subst eσ
      refine ⟨_, rfl, m, c, g, s2, 4, rfl, R2, by decide, by decide, by omega, fun H3 fA F s3 R3 hs3 k3 hF3 ok fnm3 => ?_⟩
      have T3 := tabs_kp T2 R2 k3
      refine ⟨_, rfl, _, rfl, m, c, g, fA, s3, F, rfl, R3, hF3, ok, by omega, fun H4 y N f s4 R4 hs4 k4 hY4 Y n1 n2 => ?_⟩
      have T4 := tabs_kp T3 R3 k4
      have t34 := R3.tk k4
      have hF4 := Dp.tk t34 _ (flat_field F) hF3
      have fnm4 := fnm3.tk t34
      refine ⟨_, rfl, _, rfl, m, c, g, fA, s4, 8, F, rfl, R4, hF4, ok, by decide, by decide, by omega, fun H5 r l s5 R5 hs5 k5 hL5 gl hl8 => ?_⟩
      have T5 := tabs_kp T4 R4 k5
      have t45 := R4.tk k5
      have hF5 := Dp.tk t45 _ (flat_field F) hF4
      have fnm5 := fnm4.tk t45
      have hY5 := hY4.tk t45
      clear T2 T3 T4 hF3 hF4 fnm3 fnm4 hY4 k3 k4 k5 R2 R3 R4
      refine ⟨two_sz, fun tt ntt => upd_gen ntt fun H6 s6 e6 => ⟨tt, _, rfl, SqT.of e6, rfl, _, _, rfl, _, _, rfl, rfl, ?_⟩⟩
      have R6 := R5.same s6
      have hY6 := hY5.tk (Tk.of s6)
      refine ⟨_, rfl, _, rfl, m, c, g, y, s5, F, N, f, rfl, R6, ok, hY6, Y, n1, n2, by omega, fun H7 bv bd s7 R7 hs7 k7 hB7 okB => ?_⟩
      have t67 := R6.tk k7
      have hF7 := Dp.tk t67 _ (flat_field F) (tF hF5 s6)
      have fnm7 := (fnm5.tk (Tk.of s6)).tk t67
      have hY7 := hY6.tk t67
      have hL7 := Dp.tk t67 _ (flat_steps l) (tS hL5 s6)
      have T7 := tabs_kp (T5.ext s6) R6 k7
      clear T5 hF5 fnm5 hY5 hY6 hL5 R5 R6 e6
      obtain ⟨ys, hys, lys, hrow⟩ := id hY7
      have okY : Okd 4 3000 (dYard F N f) := (okd_tup (yard_ok Y.lt n2) (k := 6) (by rw [List.length_map]; exact ok.n6)).mono (by decide) (by decide)
      have dY : Dp K H7 (.ref y) (dYard F N f) := .tup hys (yard_dp lys hrow)
      have n2' : N ≤ 2000 := by omega
      have right := yard_right ok Y n1 n2'
      refine ⟨_, rfl, .ref y, dYard F N f, rfl, dY, okY.sh, okY.nd, by have := okY.dp; omega, (okY.sz (by decide)).fits (by decide), _, _, rfl, ?_⟩
      refine ⟨_, rfl, _, rfl, two_sz, fun tp ntp => upd_gen ntp fun Hs ss es => ⟨tp, rfl, ⟨_, SqT.of es⟩, ?_⟩⟩
      have hFs := tF hF7 ss
      have fnms := fnm7.tk (Tk.of ss)
      have dYs := Dp.sm ss _ dY
      have hBs := Dp.sm ss _ hB7
      have hLs := tS hL7 ss
      have Ts := T7.ext ss
      have Rs := R7.same ss
      clear hF7 fnm7 dY hB7 hL7 T7 R7 hys hrow hY7
      refine for_it (walk_tup (xs := [.ref y, bv])) (fun j σ H8 => ∃ (y8 y9 y10 : Option V), σ = [some (.ref a), some (.ref m), some (.int (0 + (i : Int))), some (.ref fA), some (.ref y), some (.ref r), some bv, some (.str (dYard F N f).shown), y8, y9, y10, y11, y12, y13, y14, y15, y16] ∧ LamX.ExtN Hs H8 ∧ LamX.Tabs TT H8)
        ⟨_, _, _, rfl, LamX.ExtN.refl _, Ts⟩ (fun j σ H8 _ ⟨_, _, _, _, x8, _⟩ => (extN_tk x8).sqT (SqT.of es)) (fun j x σ H8 H9 hj ⟨y8, y9, y10, eσ, x8, T8⟩ hy => ?_) (fun σ H8 ⟨y8, y9, y10, eσ, x8, T8⟩ => ?_)
      · obtain ⟨rfl, hx⟩ := hy
        subst eσ
        obtain ⟨d, hd0, okd⟩ : ∃ d, Dp K Hs x d ∧ Okd 4 3000 d := by
          have hj : j < 2 := hj
          rcases (show j = 0 ∨ j = 1 by omega) with e | e <;> subst e <;> cases hx
          · exact ⟨_, dYs, okY⟩
          · exact ⟨_, hBs, okB⟩
        have hF9 := Dp.ext x8 _ hFs
        have fnm9 := fnms.tk (extN_tk x8)
        have hd9 := Dp.ext x8 _ hd0
        have smd := okd.small (by decide)
        refine ⟨_, rfl, _, rfl, fA, x, F, d, rfl, hF9, fnm9, ok, hd9, smd, okd.shaped (by decide), fun Ha sa => ?_⟩
        have hFa := tF hF9 sa
        have hda := Dp.sm sa _ hd9
        have Ta := T8.ext sa
        have xa := x8.trans (extN_same sa)
        have okdue := due_okd (F := F) okd
        refine ⟨fun σ' H' => ∃ dv, σ' = [some (.ref a), some (.ref m), some (.int (0 + (i : Int))), some (.ref fA), some (.ref y), some (.ref r), some bv, some (.str (dYard F N f).shown), some x, some (wV (wrongD F d)), some dv, y11, y12, y13, y14, y15, y16] ∧ Same Ha H' ∧ Dp K H' dv (dDue d (wrongD F d)), ?_, fun σ' Hb hM => ?_⟩
        · cases hw : wrongD F d with
          | none =>
            exact ⟨_, rfl, rfl, _, rfl, iteT ⟨_, rfl, one_sz, fun b nb => upd_gen nb fun Hb sb eb => ⟨.ref b, rfl, sb, .lst (SqL.of eb) (.cons (Dp.sm sb _ hda) .nil)⟩⟩⟩
          | some wd =>
            exact ⟨_, rfl, rfl, _, rfl, iteF ⟨_, rfl, two_sz, fun b nb => upd_gen nb fun Hb sb eb => ⟨.ref b, rfl, sb, .tup (SqT.of eb) (.cons (.str _) (.cons (.str _) .nil))⟩⟩⟩
        obtain ⟨dv, rfl, sM, hdv⟩ := hM
        have hFb := tF hFa sM
        have hdb := Dp.sm sM _ hda
        have Tb := Ta.ext sM
        have xb := xa.trans (extN_same sM)
        clear hFa hda Ta xa hF9 fnm9 hd9 T8
        cases hw : wrongD F d with
        | none =>
          rw [hw] at hdv okdue
          have hdv : Dp K Hb dv (.list [d]) := hdv
          refine ⟨Tb, fun K1 x1 T1 => heard_ret (v := x) (fun E1 M0 Qx s0 o => ?_) (fun M1 r1 w1 nr1 er1 => ?_)⟩
          · refine ⟨_, rfl, _, rfl, fA, x, F, d, rfl, tF (Dp.ext x1 _ hFb) s0, ok, Dp.sm s0 _ (Dp.ext x1 _ hdb), smd, ?_⟩
            rw [hw]
            exact fun H' s' => o H' (s0.trans s')
          · refine ⟨_, rfl, .ref r1, dv, .list [d], rfl, .lst (SqL.of er1) (.cons (Dp.sm w1 _ (Dp.ext x1 _ hdb)) .nil), Dp.sm w1 _ (Dp.ext x1 _ hdv), (okdue.sz (by decide)).mono (by decide), ?_⟩
            refine ⟨_, rfl, iteF ?_⟩
            refine ⟨_, rfl, rfl, _, rfl, ?_⟩
            refine iteF (iteF ?_)
            exact ⟨_, rfl, rfl, _, rfl, iteF (iteF ⟨_, _, _, rfl, (xb.trans x1).trans (extN_same w1), T1.ext w1⟩)⟩
        | some wd =>
          rw [hw] at hdv okdue
          have hdv : Dp K Hb dv (.tuple [.str "yard", .str wd]) := hdv
          obtain ⟨ee, esh⟩ := due_eqv hw
          refine ⟨Tb, fun K1 x1 T1 => heard_ref (x := "BadYard") (f := "part") (word := "yard") (y := .str wd) (by simp) (fun E1 M0 Qx s0 o => ?_) (fun M1 r1 w1 hr1 => ?_)⟩
          · refine ⟨_, rfl, _, rfl, fA, x, F, d, rfl, tF (Dp.ext x1 _ hFb) s0, ok, Dp.sm s0 _ (Dp.ext x1 _ hdb), smd, ?_⟩
            rw [hw]
            exact fun C H' dx hC hT s' e => o C H' dx hC hT (s0.trans s') e
          have hF1 := tF (Dp.ext x1 _ hFb) w1
          have hd1 := Dp.sm w1 _ (Dp.ext x1 _ hdb)
          have hv1 := Dp.sm w1 _ (Dp.ext x1 _ hdv)
          have Tc := T1.ext w1
          have xc := (xb.trans x1).trans (extN_same w1)
          refine ⟨_, rfl, .ref r1, dv, .tuple [.str "yard", .str wd], rfl, .tup hr1 (.cons (.str _) (.cons (.str _) .nil)), hv1, (okdue.sz (by decide)).mono (by decide), ?_⟩
          refine ⟨_, rfl, iteF ?_⟩
          refine ⟨_, rfl, rfl, _, rfl, iteT ?_⟩
          refine ⟨Tc, fun K2 x2 T2 => heard_ref (x := "BadYard") (f := "part") (word := "yard") (y := .str wd) (by simp) (fun E1 M0 Qx s0 o => ?_) (fun M2 r2 w2 hr2 => ?_)⟩
          · exact ⟨_, rfl, _, rfl, fA, x, .non, .non, F, d, rfl, tF (Dp.ext x2 _ hF1) s0, ok, Dp.sm s0 _ (Dp.ext x2 _ hd1), smd, .inl ⟨wd, hw, fun C H' dx hC hT s' e => o C H' dx hC hT (s0.trans s') e⟩⟩
          have hF2 := tF (Dp.ext x2 _ hF1) w2
          have hd2 := Dp.sm w2 _ (Dp.ext x2 _ hd1)
          have hv2 := Dp.sm w2 _ (Dp.ext x2 _ hv1)
          have Td := T2.ext w2
          have xd := (xc.trans x2).trans (extN_same w2)
          refine ⟨_, rfl, .tuple [.str "yard", .str wd], .tuple [.str "yard", .str wd], .tup hr2 (.cons (.str _) (.cons (.str _) .nil)), hv2, esh, esh, ?_⟩
          rw [ee]
          refine ⟨_, rfl, iteF ?_⟩
          refine ⟨_, rfl, rfl, _, rfl, iteT ?_⟩
          refine ⟨Td, fun K3 x3 T3 => heard_ref (x := "BadYard") (f := "part") (word := "yard") (y := .str wd) (by simp) (fun E1 M0 Qx s0 o => ?_) (fun M3 r3 w3 hr3 => ?_)⟩
          · exact ⟨_, rfl, _, rfl, fA, x, .non, .non, F, d, rfl, tF (Dp.ext x3 _ hF2) s0, ok, Dp.sm s0 _ (Dp.ext x3 _ hd2), smd, .inl ⟨wd, hw, fun C H' dx hC hT s' e => o C H' dx hC hT (s0.trans s') e⟩⟩
          have hv3 := Dp.sm w3 _ (Dp.ext x3 _ hv2)
          refine ⟨_, rfl, .tuple [.str "yard", .str wd], .tuple [.str "yard", .str wd], .tup hr3 (.cons (.str _) (.cons (.str _) .nil)), hv3, esh, esh, ?_⟩
          rw [ee]
          exact ⟨_, rfl, iteF ⟨_, _, _, rfl, (xd.trans x3).trans (extN_same w3), T3.ext w3⟩⟩
      · subst eσ
        have hF8 := Dp.ext x8 _ hFs
        have fnm8 := fnms.tk (extN_tk x8)
        have hY8 := Dp.ext x8 _ dYs
        have hL8 := Dp.ext x8 _ hLs
        have R8 := Rs.ext x8
        have hga : GoodAll F l := gl.2
        have smY : YSmall (dYard F N f) := okY.small (by decide)
        clear hFs fnms dYs hLs Rs hBs es Ts
        -- other
        refine ⟨_, rfl, _, rfl, _, rfl, m, c, g, fA, r, s7, 6, F, l, rfl, R8, hF8, ok, hL8, hga, by omega, by decide, by omega, fun H9 r9 l9 s9 R9 hs9 k9 hL9 hg9 hl9 _ => ?_⟩
        have t9 := R8.tk k9
        have hF9 := Dp.tk t9 _ (flat_field F) hF8
        refine ⟨_, rfl, _, rfl, m, c, g, fA, s9, 4, F, rfl, R9, hF9, ok, by decide, by decide, by omega, fun Ha ra la sa Ra hsa ka hLa ga hla => ⟨two_sz, fun L nL => upd_gen nL fun Hb jb eb => ?_⟩⟩
        have Rb := Ra.same jb
        have mL := Ra.nm nL
        refine ⟨_, rfl, m, c, g, sa, 2, rfl, Rb, by decide, by decide, by omega, fun rc Hc rc0 rc1 Rc kc => ?_⟩
        have tbc := (Tk.of jb).trans (Rb.tk kc)
        have t9c := (R9.tk ka).trans tbc
        have t8c := t9.trans t9c
        have Tc := tabs_kp ((tabs_kp (tabs_kp T8 R8 k9) R9 ka).ext jb) Rb kc
        have hF := Dp.tk t9c _ (flat_field F) hF9
        have fnm := fnm8.tk t8c
        have hL := Dp.tk t8c _ (flat_steps l) hL8
        have eLc := kc _ _ mL.1 mL.2.2 eb
        obtain ⟨ys, hyS, hyl, hyr⟩ := (yardAt_of hY8).tk t8c
        have hY : YardAt K Hc y F N f := ⟨ys, hyS, hyl, hyr⟩
        obtain ⟨o, lo, hat, hLo, go⟩ : ∃ o lo, atI [V.ref r9, V.ref ra] rc = some (.ref o) ∧ Dp K Hc (.ref o) (dSteps lo) ∧ GoodScript F lo := by
          rcases (show rc = 0 ∨ rc = 1 by omega) with e | e <;> subst e
          · exact ⟨r9, l9, rfl, Dp.tk t9c _ (flat_steps l9) hL9, by omega, hg9⟩
          · exact ⟨ra, la, rfl, Dp.tk tbc _ (flat_steps la) hLa, ga⟩
        refine ⟨L, _, _, _, rfl, rfl, SqL.of eLc, hat, ?_⟩
        have hYD := Dp.tk t8c _ (flat_yard F N f) hY8
        clear hF8 fnm8 hY8 hL8 hF9 hL9 hLa R8 R9 Ra Rb eb
        have f0 := ok.n0
        obtain ⟨b0, hb0, hb0S⟩ := hyr 0 _ (List.getElem?_eq_getElem f0)
        generalize F.names[0] = nm0 at hb0S
        have hNl : Names F l := hga.names
        have hNo : Names F lo := (show GoodAll F lo from go.2).names
        -- mine
        refine ⟨_, rfl, y, ys, 0, .ref b0, rfl, rfl, hyS, atI_nat (j := 0) hb0, b0, _, rfl, .inr hb0S, _, rfl, by rw [rowV_len]; omega, by rw [rowV_len]; omega, fun D1 nD1 => ?_⟩
        refine lc_range (lo := 0) (n := (rowV N (f nm0)).length) (fun k H' => H' D1 = some (.lst (rowV k (fun x => XM.leads N f x l))) ∧ Same Hc H') ⟨upd_same, same_upd nD1⟩ (fun k H1 hk ⟨eD, s1⟩ => ?_) (fun Hd ⟨eD1, sd⟩ => ?_)
        · rw [rowV_len] at hk
          refine ⟨rfl, yes_ ⟨_, rfl, _, rfl, _, rfl, _, rfl, F, fA, y, r, k, N, f, l, (by rw [Int.zero_add]; rfl), fnm.tk (Tk.of s1), ok, hY.tk (Tk.of s1), Y, by omega, tS hL s1, hNl, hk, fun H2 s2 => ?_⟩⟩
          refine ⟨_, s2 _ _ eD, by rw [rowV_len]; exact small1000 (by omega), ?_, same_put (s1.trans s2) nD1⟩
          rw [upd_same, rowV_suc]
        rw [rowV_len] at eD1
        -- yours
        refine ⟨_, rfl, y, ys, 0, .ref b0, rfl, rfl, (Tk.of sd).sqT hyS, atI_nat (j := 0) hb0, b0, _, rfl, .inr ((Tk.of sd).sqT hb0S), _, rfl, by rw [rowV_len]; omega, by rw [rowV_len]; omega, fun D2 nD2 => ?_⟩
        refine lc_range (lo := 0) (n := (rowV N (f nm0)).length) (fun k H' => H' D2 = some (.lst (rowV k (fun x => XM.leads N f x lo))) ∧ Same Hd H') ⟨upd_same, same_upd nD2⟩ (fun k H1 hk ⟨eD, s1⟩ => ?_) (fun He ⟨eD2, se⟩ => ?_)
        · rw [rowV_len] at hk
          have sd1 := sd.trans s1
          refine ⟨rfl, yes_ ⟨_, rfl, _, rfl, _, rfl, _, rfl, F, fA, y, o, k, N, f, lo, (by rw [Int.zero_add]; rfl), fnm.tk (Tk.of sd1), ok, hY.tk (Tk.of sd1), Y, by omega, tS hLo sd1, hNo, hk, fun H2 s2 => ?_⟩⟩
          refine ⟨_, s2 _ _ eD, by rw [rowV_len]; exact small1000 (by omega), ?_, same_put (s1.trans s2) nD2⟩
          rw [upd_same, rowV_suc]
        rw [rowV_len] at eD2
        have sce := sd.trans se
        -- what the program tells
        refine ⟨_, rfl, y, ys, 0, .ref b0, rfl, rfl, (Tk.of sce).sqT hyS, atI_nat (j := 0) hb0, b0, _, rfl, .inr ((Tk.of sce).sqT hb0S), _, rfl, by rw [rowV_len]; omega, by rw [rowV_len]; omega, fun D3 nD3 => ?_⟩
        refine lc_range (lo := 0) (n := (rowV N (f nm0)).length) (fun k H' => H' D3 = some (.lst (rowV k (fun x => XM.leads N f x l))) ∧ Same He H') ⟨upd_same, same_upd nD3⟩ (fun k H1 hk ⟨eD, s1⟩ => ?_) (fun Hf ⟨eD3, sf⟩ => ?_)
        · rw [rowV_len] at hk
          have sc1 := sce.trans s1
          refine ⟨rfl, yes_ ⟨_, rfl, _, rfl, _, rfl, _, rfl, fA, .ref y, .ref r, _, F, dYard F N f, rfl, tF hF sc1, ok, Dp.sm sc1 _ hYD, smY, .inr ⟨y, r, N, f, l, .int (0 + (k : Int)), rfl, rfl, right, rfl, Y, n1, n2', tS hL sc1, gl, .int _, ?_⟩⟩⟩
          rw [spot_in hk]
          intro H2 s2
          refine ⟨_, s2 _ _ eD, by rw [rowV_len]; exact small1000 (by omega), ?_, same_put (s1.trans s2) nD3⟩
          rw [upd_same, rowV_suc]
        rw [rowV_len] at eD3
        have scf := sce.trans sf
        have ol := led_okd Y hNl n2
        have oo := led_okd Y hNo n2
        refine ⟨_, rfl, .ref D3, .ref D1, dLedL N f l, rfl, led_dp eD3, led_dp (sf _ _ (se _ _ eD1)), (ol.sz (by decide)).mono (by decide), ?_⟩
        refine ⟨_, rfl, iteF ?_⟩
        clear eD3
        -- told_so
        refine ⟨_, rfl, _, rfl, _, rfl, _, rfl, fA, .ref y, .ref r, .ref o, F, dYard F N f, rfl, tF hF scf, ok, Dp.sm scf _ hYD, smY, .inr ⟨y, r, o, N, f, l, lo, rfl, rfl, rfl, right, rfl, Y, n1, n2', tS hL scf, gl, tS hLo scf, go, fun Hg sg => ?_⟩⟩
        have scg := scf.trans sg
        refine ⟨_, rfl, _, rfl, _, rfl, _, rfl, fA, .ref y, .ref o, .ref r, F, dYard F N f, rfl, tF hF scg, ok, Dp.sm scg _ hYD, smY, .inr ⟨y, o, r, N, f, lo, l, rfl, rfl, rfl, right, rfl, Y, n1, n2', tS hLo scg, go, tS hL scg, gl, fun Hh sh => ⟨two_sz, fun tt nt => upd_gen nt fun Hi si ei => ?_⟩⟩⟩
        have eB : decide (((List.range N).map fun x => XM.leads N f x lo) = (List.range N).map fun x => XM.leads N f x l) = decide (((List.range N).map fun x => XM.leads N f x l) = (List.range N).map fun x => XM.leads N f x lo) := decide_eq_decide.mpr ⟨Eq.symm, Eq.symm⟩
        rw [eB] at ei
        have eq := led_eqv N f l lo
        generalize decide (((List.range N).map fun x => XM.leads N f x l) = (List.range N).map fun x => XM.leads N f x lo) = due at ei eq
        have sei := ((sf.trans sg).trans sh).trans si
        have sci := sce.trans sei
        refine ⟨_, rfl, _, rfl, _, rfl, _, _, led_dp (sei _ _ (se _ _ eD1)), led_dp (sei _ _ eD2), ol.shaped (by decide), oo.shaped (by decide), one_sz, fun p1 m1 => upd_gen m1 fun Hj sj ej => ?_⟩
        rw [eq] at ej
        refine ⟨p1, 2, _, rfl, rfl, ej, by decide, by decide, (show 1 * 2 ≤ sizeLine from by decide), fun p2 m2 => upd_gen m2 fun Hk sk ek => ?_⟩
        have sck := sci.trans (sj.trans sk)
        refine ⟨.ref tt, .ref p2, .list [.bool due, .bool due], rfl, .lst (SqL.of ((sj.trans sk) _ _ ei)) (.cons (.bl _) (.cons (.bl _) .nil)), .lst (SqL.of ek) (.cons (.bl _) (.cons (.bl _) .nil)), (SzA.cons (sz_bool due) (by simp [PyData.depth]) (SzA.cons (sz_bool due) (by simp [PyData.depth]) SzA.nil)).lst.mono (by decide), ?_⟩
        refine ⟨_, rfl, iteF ?_⟩
        clear ei ej ek eD1 eD2 eq eB
        -- odd
        refine ⟨1, rfl, _, rfl, y, ys, 0, .ref b0, rfl, rfl, (Tk.of sck).sqT hyS, atI_nat (j := 0) hb0, b0, _, rfl, .inr ((Tk.of sck).sqT hb0S), one_sz, fun qo nq => upd_gen nq fun Hl sl el => ⟨(by decide : 6 ≤ sizeLine), fun M nM => upd_gen nM fun Hm sm em => ?_⟩⟩
        have scm := sck.trans (sl.trans sm)
        have Rm := Rc.same scm
        have mM := (Rc.same (sck.trans sl)).nm nM
        refine ⟨_, rfl, m, c, g, sa + 1, 6, rfl, Rm, by decide, by decide, by omega, fun rn Hn rn0 rn1 Rn kn => ?_⟩
        have tcn := (Tk.of scm).trans (Rm.tk kn)
        have eMn := kn _ _ mM.1 mM.2.2 em
        have Tn := tabs_kp (Tc.ext scm) Rm kn
        have hFn := Dp.tk tcn _ (flat_field F) hF
        have hLn := Dp.tk tcn _ (flat_steps l) hL
        have hYn := Dp.tk tcn _ (flat_yard F N f) hYD
        have hqn : SqT K Hn qo [.int 0] := ((Tk.of sm).trans (Rm.tk kn)).sqT (SqT.of el)
        obtain ⟨ov, oe, hat2, hov, oke, hno⟩ : ∃ ov oe, atI [V.non, V.int (-1), V.int ((rowV N (f nm0)).length : Nat), V.bl true, V.str "0", V.ref qo] rn = some ov ∧ Dp K Hn ov oe ∧ Okd 1 100 oe ∧ spotD N oe = none := by
          rcases (show rn = 0 ∨ rn = 1 ∨ rn = 2 ∨ rn = 3 ∨ rn = 4 ∨ rn = 5 by omega) with e | e | e | e | e | e <;> subst e
          · exact ⟨.non, .none, rfl, .non, okd_dec (by decide), rfl⟩
          · exact ⟨.int (-1), .int (-1), rfl, .int _, okd_dec (by decide), spot_m1⟩
          · refine ⟨.int ((rowV N (f nm0)).length : Nat), .int ((rowV N (f nm0)).length : Nat), rfl, .int _, (okd_int ?_).mono (by decide) (by decide), if_neg fun h => ?_⟩
            · rw [rowV_len]
              show N < 10 ^ 50
              omega
            · rw [rowV_len] at h
              exact absurd h.2 (by omega)
          · exact ⟨.bl true, .bool true, rfl, .bl _, okd_dec (by decide), rfl⟩
          · exact ⟨.str "0", .str "0", rfl, .str _, okd_dec (by decide +kernel), rfl⟩
          · exact ⟨.ref qo, .tuple [.int 0], rfl, .tup hqn (.cons (.int _) .nil), okd_dec (by decide +kernel), rfl⟩
        refine ⟨M, _, _, _, rfl, rfl, SqL.of eMn, hat2, ?_⟩
        clear hat hat2 hqn eLc eMn em el
        refine ⟨Tn, fun K1 x1 T1 => heard_ref (x := "BadSpot") (f := "value") (word := "spot") (y := ov) (by simp) (fun E1 M0 Qx s0 oc => ?_) (fun M1 r1 w1 hr1 => ?_)⟩
        · refine ⟨_, rfl, _, rfl, _, rfl, _, rfl, fA, .ref y, .ref r, ov, F, dYard F N f, rfl, tF (Dp.ext x1 _ hFn) s0, ok, Dp.sm s0 _ (Dp.ext x1 _ hYn), smY, .inr ⟨y, r, N, f, l, oe, rfl, rfl, right, rfl, Y, n1, n2', tS (Dp.ext x1 _ hLn) s0, gl, Dp.sm s0 _ (Dp.ext x1 _ hov), ?_⟩⟩
          rw [hno]
          exact fun C H' dx hC hT s' e => oc C H' dx hC hT (s0.trans s') e
        refine ⟨_, rfl, two_sz, fun pw nw => upd_gen nw fun M2 w2 e2 => ?_⟩
        have w12 := w1.trans w2
        have hov2 := Dp.sm w12 _ (Dp.ext x1 _ hov)
        have okw : Okd 2 202 (.tuple [.str "spot", oe]) := okd_tup (k := 2) (n := 100) (j := 1) (fun d hd => by
          rcases List.mem_cons.mp hd with e | hd
          · rw [e]
            exact okd_dec (by decide +kernel)
          · rw [List.mem_singleton.mp hd]
            exact oke) (Nat.le_refl _)
        refine ⟨.ref r1, .ref pw, .tuple [.str "spot", oe], rfl, .tup ((Tk.of w2).sqT hr1) (.cons (.str _) (.cons hov2 .nil)), .tup (SqT.of e2) (.cons (.str _) (.cons hov2 .nil)), (okw.sz (by decide)).mono (by decide), ?_⟩
        refine ⟨_, rfl, iteF ?_⟩
        have dY2 := Dp.sm w12 _ (Dp.ext x1 _ hYn)
        refine ⟨_, rfl, .ref y, dYard F N f, rfl, dY2, okY.sh, okY.nd, by have := okY.dp; omega, (okY.sz (by decide)).fits (by decide), _, rfl, rfl, _, rfl, ?_⟩
        rw [decide_eq_true (show V.str (dYard F N f).shown = V.str (dYard F N f).shown from rfl)]
        refine iteF ?_
        exact ⟨_, _, _, _, _, _, _, _, _, _, _, _, _, _, _, sa + 1 + 1, rfl, (Rn.ext x1).same w12, by omega, T1.ext w12⟩
    · obtain ⟨y2, y3, y4, y5, y6, y7, y8, y9, y10, y11, y12, y13, y14, y15, y16, s2, eσ, R2, hs2, T2⟩ := hInv
      subst eσ
      exact ⟨rfl, T2, fun H3 => q H3⟩
end
end XB
set_option Elab.async false
set_option linter.all false
set_option maxRecDepth 100000
set_option maxHeartbeats 4000000
namespace XB
open PySem PySem.Spec PyProof.Rows L2
theorem tabIn_mk {K : PySem.W.Frag} {x : Str} {f c tab : Addr} {oc oc2 : Value} {od od2 : Option Addr} {fd : FuncData} {vs : Array Value} {osl osl2 : Array (Option Value)} (a : PySem.W.nsIn K mainGlobals x = some (some (.ref f))) (l : K.lookup f = some ⟨oc, od, .func fd, osl⟩) (e : fd.code = .ref c)
    (l2 : K.lookup c = some ⟨oc2, od2, .fields vs, osl2⟩) (e2 : vs[11]? = some (.ref tab)) : PySem.W.tabIn K x = some (c, tab) := by
  unfold PySem.W.tabIn
  rw [a]
  simp only
  rw [l]
  simp only
  rw [e]
  simp only
  rw [l2]
  simp only
  rw [e2]
def xsT : List Str := ["law", "_law_great_right"]
def spLawK (K : PySem.W.Frag) : Sp := fun vs H Q _ => ∃ (a : Addr) (ns : List Int), vs = [.ref a] ∧ SqL K H a (ns.map V.int) ∧ ns.length ≤ 1000 ∧ (∀ t ∈ tabsOf K xsT, H t.2 = some (.tbl #[])) ∧ ∀ H', Q (.bl true) H'
theorem FnG.imp {P : Program} {w : World} {K : PySem.W.Frag} {mg : Str → Option Value} {base : Heap} {CX : CXT} {k : Nat} {f : Addr} {fd : FuncData} {ps : List Str} {sp sp' : Sp} (F : FnG P w K mg base CX k f fd ps sp) (h : ∀ vs H Q E, sp' vs H Q E → sp vs H Q E) : FnG P w K mg base CX k f fd ps sp' :=
  ⟨fun vs H Q E q => F.many vs H Q E (h _ _ _ _ q), fun hg hr e0 hb r q => F.goes hg hr e0 hb r (h _ _ _ _ q)⟩
theorem law_mkT {P : Program} {w : World} {K : PySem.W.Frag} {h : Heap} {mg : Str → Option Value} {fa f f2 c1 t1 c2 t2 : Addr} {oc oc2 oc3 oc4 : Value} {od od2 od3 od4 an : Option Addr} {osl osl2 osl3 osl4 : Array (Option Value)} {kV doc pm ct : Value} {fd2 : FuncData} {vs1 vs2 : Array Value}
    (X : K.In h) (G : h.Ns mainGlobals mg) (hfa : mg "law" = some (.ref fa)) (T : Tx K mg)
    (a : PySem.W.nsIn K mainGlobals "law" = some (some (.ref f))) (l : K.lookup f = some ⟨oc, od, .func (PySem.W.fnOf "law" "law" (defArgs s_law) (defBody s_law) (defScope s_law) .none kV doc pm an (.ref c1) ct), osl⟩)
    (c : PySem.W.codeIn K (.ref c1) "law" = true) (k : PySem.W.keepIn K (.ref f) = true)
    (l2 : K.lookup c1 = some ⟨oc2, od2, .fields vs1, osl2⟩) (e2 : vs1[11]? = some (.ref t1))
    (a3 : PySem.W.nsIn K mainGlobals "_law_great_right" = some (some (.ref f2))) (l3 : K.lookup f2 = some ⟨oc3, od3, .func fd2, osl3⟩) (e3 : fd2.code = .ref c2) (l4 : K.lookup c2 = some ⟨oc4, od4, .fields vs2, osl4⟩) (e4 : vs2[11]? = some (.ref t2)) (ne : t1 ≠ t2) :
    ∃ fd : FuncData, (∀ (s : Shared) (v : Value), BindsTo s fd ⟨[v], []⟩ [("script", v)]) ∧ ∀ base : Heap, K.In base → base.Ns mainGlobals mg → (∀ t ∈ tabsOf K xsT, LamX.TabB base mg t.1 t.2) → FnG P w K mg base CX0 10 fa fd ["script"] (spLawK K) := by
  have e := hfa.symm.trans (PySem.W.mg_of X G a)
  cases e
  have i1 : PySem.W.tabIn K "law" = some (c1, t1) := tabIn_mk a l rfl l2 e2
  have i2 : PySem.W.tabIn K "_law_great_right" = some (c2, t2) := tabIn_mk a3 l3 e3 l4 e4
  have m1 : (c1, t1) ∈ tabsOf K xsT := List.mem_filterMap.mpr ⟨"law", List.mem_cons_self, i1⟩
  have m2 : (c2, t2) ∈ tabsOf K xsT := List.mem_filterMap.mpr ⟨"_law_great_right", List.mem_cons_of_mem _ List.mem_cons_self, i2⟩
  refine ⟨PySem.W.fnOf "law" "law" (defArgs s_law) (defBody s_law) (defScope s_law) .none kV doc pm an (.ref c1) ct, fun s v => .of_eq rfl, fun base X' G' hB => ?_⟩
  refine FnG.imp (fg_lawT T (fun_mk (st := s_law) l c k) hfa (codeT_mk X' G' i1 (hB _ m1)) (codeT_mk X' G' i2 (hB _ m2)) ne) fun vs H Q E q => ?_
  obtain ⟨b, ns, e, hS, hl, hT, q⟩ := q
  exact ⟨b, ns, e, hS, hl, hT _ m1, hT _ m2, q⟩
end XB
set_option Elab.async false
set_option linter.all false
set_option maxRecDepth 100000
namespace XB
open PySem PySem.Spec PyProof.Rows L2
theorem dn_mk {K : PySem.W.Frag} {h : Heap} {mg : Str → Option Value} {x : Str} {st : Stmt} {f : Addr} {oc : Value} {od an : Option Addr} {osl : Array (Option Value)} {kV doc pm cdv ct : Value} (X : K.In h) (G : h.Ns mainGlobals mg)
    (a : PySem.W.nsIn K mainGlobals x = some (some (.ref f))) (l : K.lookup f = some ⟨oc, od, .func (PySem.W.fnOf x x (defArgs st) (defBody st) (defScope st) .none kV doc pm an cdv ct), osl⟩)
    (c : PySem.W.codeIn K cdv x = true) (k : PySem.W.keepIn K (.ref f) = true) : Dn K mg x st := ⟨f, _, fun_mk l c k, PySem.W.mg_of X G a⟩
theorem int_mk {K : PySem.W.Frag} {h : Heap} {mg : Str → Option Value} {x : Str} {z n : Int} {t : Tok} (X : K.In h) (G : h.Ns mainGlobals mg) (a : PySem.W.nsIn K mainGlobals x = some (some (.int z t))) (e : z = n) : ∃ t, mg x = some (.int n t) :=
  ⟨t, by rw [← e]; exact PySem.W.mg_of X G a⟩
theorem loose_int {p : Program} {n : Str} {z : Int} {mg : Str → Option Value} {h : Heap} (x : PySem.W.XL p [(n, PySem.W.WData.int z)] mg h) : ∃ t, mg n = some (.int z t) := by
  obtain ⟨v, a, b⟩ := x.2.val _ List.mem_cons_self
  cases b
  exact ⟨_, a⟩
end XB
namespace XB
open PySem PySem.Spec PyProof.Rows L2
theorem ek_mk {K : PySem.W.Frag} {h : Heap} {mg : Str → Option Value} {x q : Str} {st : Stmt} {C fI N : Addr} {nm qn : Str} {bs bm : List Value} {sn : List Str} {sub : List Value} {ab : Bool} {col : Option Bool} {dd : Option Addr} {k0 k1 k2 k3 k5 : Option Value} {oc : Value} {od an : Option Addr} {osl : Array (Option Value)} {kV doc pm cdv ct : Value}
    (X : K.In h) (G : h.Ns mainGlobals mg) (a : PySem.W.nsIn K mainGlobals x = some (some (.ref C))) (l : K.lookup C = some (excClassObj nm qn C N bs bm true sn sub ab col dd k0 k1 k2 k3 k5 "ValueError.__new__")) (r : PySem.HandSPX.refsVE bm = true)
    (sa : PySem.W.findIn K (.ref C) "__setattr__" = some (some (.builtin "object.__setattr__"))) (xc : PySem.W.subIn K (.ref C) (.type "BaseException") = some true) (ty : PySem.W.typeIn K (.ref C) = some (.type "type")) (kC : PySem.W.keepIn K (.ref C) = true)
    (ga : PySem.W.findIn K (.ref C) "__getattribute__" = some (some (.builtin "BaseException.__getattribute__"))) (gg : PySem.W.findIn K (.ref C) "__getattr__" = some none) (hd : PySem.W.hasDictIn K C = true) (ca : PySem.W.findIn K (.ref C) "__class__" = some (some (.builtin "object.__class__")))
    (sp : PySem.W.specialIn K (.builtin "object.__class__") "__get__" = some (some (.builtin "getset_descriptor.__get__"))) (tk : PySem.W.takesIn K (.builtin "object.__class__") = some true) (mo : PySem.W.mroIn K C (.type "object") = some true)
    (i : PySem.W.findIn K (.ref C) "__init__" = some (some (.ref fI))) (ti : PySem.W.typeIn K (.ref fI) = some (.type "function")) (fl : K.lookup fI = some ⟨oc, od, .func (PySem.W.fnOf "__init__" q (defArgs st) (defBody st) (defScope st) .none kV doc pm an cdv ct), osl⟩)
    (fc : PySem.W.codeIn K cdv q = true) (fk : PySem.W.keepIn K (.ref fI) = true) : Ek K mg x q st :=
  ⟨C, fI, _, PySem.W.mg_of X G a, ⟨⟨nm, qn, N, bs, bm, sn, sub, ab, col, dd, k0, k1, k2, k3, k5, _, _, _, _, l, F.excBase_ValueError, fun Y => PySem.HandSPX.refsVE_contains Y bm r, fun self => PySem.HandSPX.refsVE_pass self (.ref C :: bm) r, (PySem.HandSPX.refsVE_contains "object" (.ref C :: bm) r).trans (by decide +kernel)⟩, sa, xc, ty, kC⟩, ⟨ga, gg, xc, hd, ca, sp, tk, mo⟩, i, ti, fun_mk fl fc fk⟩
theorem ek_mkO {K : PySem.W.Frag} {h : Heap} {mg : Str → Option Value} {x q : Str} {st : Stmt} {C fI N : Addr} {nm qn : Str} {bs bm : List Value} {sn : List Str} {sub : List Value} {ab : Bool} {col : Option Bool} {dd : Option Addr} {k0 k1 k2 k3 k5 : Option Value} {oc : Value} {od an : Option Addr} {osl : Array (Option Value)} {kV doc pm cdv ct : Value}
    (X : K.In h) (G : h.Ns mainGlobals mg) (a : PySem.W.nsIn K mainGlobals x = some (some (.ref C))) (l : K.lookup C = some (excClassObj nm qn C N bs bm true sn sub ab col dd k0 k1 k2 k3 k5 "OverflowError.__new__")) (r : bm = [.type "OverflowError", .type "ArithmeticError", .type "Exception", .type "BaseException", .type "object"])
    (sa : PySem.W.findIn K (.ref C) "__setattr__" = some (some (.builtin "object.__setattr__"))) (xc : PySem.W.subIn K (.ref C) (.type "BaseException") = some true) (ty : PySem.W.typeIn K (.ref C) = some (.type "type")) (kC : PySem.W.keepIn K (.ref C) = true)
    (ga : PySem.W.findIn K (.ref C) "__getattribute__" = some (some (.builtin "BaseException.__getattribute__"))) (gg : PySem.W.findIn K (.ref C) "__getattr__" = some none) (hd : PySem.W.hasDictIn K C = true) (ca : PySem.W.findIn K (.ref C) "__class__" = some (some (.builtin "object.__class__")))
    (sp : PySem.W.specialIn K (.builtin "object.__class__") "__get__" = some (some (.builtin "getset_descriptor.__get__"))) (tk : PySem.W.takesIn K (.builtin "object.__class__") = some true) (mo : PySem.W.mroIn K C (.type "object") = some true)
    (i : PySem.W.findIn K (.ref C) "__init__" = some (some (.ref fI))) (ti : PySem.W.typeIn K (.ref fI) = some (.type "function")) (fl : K.lookup fI = some ⟨oc, od, .func (PySem.W.fnOf "__init__" q (defArgs st) (defBody st) (defScope st) .none kV doc pm an cdv ct), osl⟩)
    (fc : PySem.W.codeIn K cdv q = true) (fk : PySem.W.keepIn K (.ref fI) = true) : Ek K mg x q st := by
  subst r
  refine ⟨C, fI, _, PySem.W.mg_of X G a, ⟨⟨nm, qn, N, bs, _, sn, sub, ab, col, dd, k0, k1, k2, k3, k5, _, _, _, _, l, F.excBase_OverflowError, fun _ => rfl, fun self => ?_, by rw [List.contains_cons]; exact (Bool.or_eq_true _ _).mpr (.inr (by decide +kernel))⟩, sa, xc, ty, kC⟩, ⟨ga, gg, xc, hd, ca, sp, tk, mo⟩, i, ti, fun_mk fl fc fk⟩
  rw [refuseLoop_ref]
  exact F.store_OverflowError.passes self
theorem v_mk {K : PySem.W.Frag} {h : Heap} {mg : Str → Option Value} {x : Str} {C N : Addr} {nm qn : Str} {bs bm : List Value} {sn : List Str} {sub : List Value} {ab : Bool} {col : Option Bool} {dd : Option Addr} {k0 k1 k2 k3 k5 : Option Value}
    (X : K.In h) (G : h.Ns mainGlobals mg) (a : PySem.W.nsIn K mainGlobals x = some (some (.ref C))) (l : K.lookup C = some (excClassObj nm qn C N bs bm true sn sub ab col dd k0 k1 k2 k3 k5 "ValueError.__new__")) (r : PySem.HandSPX.refsVE bm = true)
    (sa : PySem.W.findIn K (.ref C) "__setattr__" = some (some (.builtin "object.__setattr__"))) (xc : PySem.W.subIn K (.ref C) (.type "BaseException") = some true) (ty : PySem.W.typeIn K (.ref C) = some (.type "type")) (kC : PySem.W.keepIn K (.ref C) = true) : ∃ C, mg x = some (.ref C) ∧ OexC K C :=
  ⟨C, PySem.W.mg_of X G a, ⟨⟨nm, qn, N, bs, bm, sn, sub, ab, col, dd, k0, k1, k2, k3, k5, l, r⟩, sa, xc, ty, kC⟩⟩
theorem exm_mk {K : PySem.W.Frag} {h : Heap} {mg : Str → Option Value} {x y : Str} {C D : Addr} {b : Bool} (X : K.In h) (G : h.Ns mainGlobals mg) (a : PySem.W.nsIn K mainGlobals x = some (some (.ref C))) (c : PySem.W.nsIn K mainGlobals y = some (some (.ref D))) (n : PySem.W.exmOne K (.ref C) (.ref D) = some b) : Exm K mg x y b := fun C' D' z w => by
  rw [cls_eq z (PySem.W.mg_of X G a), cls_eq w (PySem.W.mg_of X G c)]
  exact n
theorem c_mk {K : PySem.W.Frag} {h : Heap} {mg : Str → Option Value} {x : Str} {C : Addr} (X : K.In h) (G : h.Ns mainGlobals mg) (a : PySem.W.nsIn K mainGlobals x = some (some (.ref C))) : ∃ C, mg x = some (.ref C) := ⟨C, PySem.W.mg_of X G a⟩
theorem nof_mk {K : PySem.W.Frag} {h : Heap} {mg : Str → Option Value} {x f : Str} {C : Addr} (X : K.In h) (G : h.Ns mainGlobals mg) (a : PySem.W.nsIn K mainGlobals x = some (some (.ref C))) (n : PySem.W.findIn K (.ref C) f = some none) : NoF K mg x f := fun D z => by
  rw [cls_eq z (PySem.W.mg_of X G a)]
  exact n
theorem kit_mk {K : PySem.W.Frag} {h : Heap} {mg : Str → Option Value} {x y : Str} {C D : Addr} {b : Bool} (X : K.In h) (G : h.Ns mainGlobals mg) (a : PySem.W.nsIn K mainGlobals x = some (some (.ref C))) (c : PySem.W.nsIn K mainGlobals y = some (some (.ref D))) (n : PySem.W.kitOne K (.ref C) (.ref D) = some b) : Kit K mg x y b := fun C' D' z w => by
  rw [cls_eq z (PySem.W.mg_of X G a), cls_eq w (PySem.W.mg_of X G c)]
  exact n
theorem kitB_mk {K : PySem.W.Frag} {h : Heap} {mg : Str → Option Value} {x : Str} {y : String} {C : Addr} {b : Bool} (X : K.In h) (G : h.Ns mainGlobals mg) (a : PySem.W.nsIn K mainGlobals x = some (some (.ref C))) (n : PySem.W.kitOne K (.ref C) (.type y) = some b) : KitB K mg x y b := fun C' z => by
  rw [cls_eq z (PySem.W.mg_of X G a)]
  exact n
end XB
open PySem PySem.W PyProof.Rows in
set_option maxRecDepth 100000 in
set_option maxHeartbeats 0 in
theorem PySem.Challenge.cw_deedpiles_k13_whole_yards_holds : PySem.Challenge.rw_deedpiles_k13_whole_yards.Holds := by
  w_on; o_law; k_head; (case hw => w_witness2)
  k_fill
  refine XB.walk_gT (TX := fun mg => (∃ t, mg "MOST_TIMES" = some (.int (10 ^ 30) t))) (l := PySem.Challenge.rw_deedpiles_k13_whole_yards) (n := 63) (k := 10) (x := "script") (sp := XB.spLawK) (xs := XB.xsT) rfl (by decide) rfl ⟨rfl, by decide, by decide⟩ ?told (fun w h Y => PySem.W.km_in_of Y) ?recs ?noT ?F (fun _ _ a ns hl hT s => ⟨a, ns, rfl, s, Nat.le_trans hl (by decide), hT, fun _ => rfl⟩)
  case recs =>
    intro y hy
    rcases List.mem_cons.mp hy with e | hy
    · rw [e]
      exact ⟨_, rfl⟩
    · rw [List.mem_singleton.mp hy]
      exact ⟨_, rfl⟩
  case noT =>
    intro w
    kernel_rfl
  case told =>
    intro mg h x
    exact XB.loose_int x
  case F =>
    intro w mg fa h KX G hmg hMT
    refine' XB.law_mkT KX G hmg ?T ?la ?ll ?lc ?lk ?ml ?me ?na ?nl ?ne ?nm ?nn ?nz
    case T =>
      constructor
      case c_PileError =>
        refine' XB.c_mk KX G ?z1a
        (case z1a => k_is)
      case c_BadField =>
        refine' XB.c_mk KX G ?z2a
        (case z2a => k_is)
      case c_BadScript =>
        refine' XB.c_mk KX G ?z3a
        (case z3a => k_is)
      case c_BadMoves =>
        refine' XB.c_mk KX G ?z4a
        (case z4a => k_is)
      case c_BadYard =>
        refine' XB.c_mk KX G ?z5a
        (case z5a => k_is)
      case c_BadSpot =>
        refine' XB.c_mk KX G ?z6a
        (case z6a => k_is)
      case c_BadPaper =>
        refine' XB.c_mk KX G ?z7a
        (case z7a => k_is)
      case e_BadField =>
        refine' XB.ek_mk KX G ?z8a ?z8b ?z8c ?z8d ?z8e ?z8f ?z8g ?z8h ?z8i ?z8j ?z8k ?z8l ?z8m ?z8n ?z8o ?z8p ?z8q ?z8r ?z8s
        (case z8a => first | k_is | rfl | decide +kernel)
        (case z8b => first | k_is | rfl | decide +kernel)
        (case z8c => first | k_is | rfl | decide +kernel)
        (case z8d => first | k_is | rfl | decide +kernel)
        (case z8e => first | k_is | rfl | decide +kernel)
        (case z8f => first | k_is | rfl | decide +kernel)
        (case z8g => first | k_is | rfl | decide +kernel)
        (case z8h => first | k_is | rfl | decide +kernel)
        (case z8i => first | k_is | rfl | decide +kernel)
        (case z8j => first | k_is | rfl | decide +kernel)
        (case z8k => first | k_is | rfl | decide +kernel)
        (case z8l => first | k_is | rfl | decide +kernel)
        (case z8m => first | k_is | rfl | decide +kernel)
        (case z8n => first | k_is | rfl | decide +kernel)
        (case z8o => first | k_is | rfl | decide +kernel)
        (case z8p => first | k_is | rfl | decide +kernel)
        (case z8q => first | k_is | rfl | decide +kernel)
        (case z8r => first | k_is | rfl | decide +kernel)
        (case z8s => first | k_is | rfl | decide +kernel)
      case e_BadScript =>
        refine' XB.ek_mk KX G ?z9a ?z9b ?z9c ?z9d ?z9e ?z9f ?z9g ?z9h ?z9i ?z9j ?z9k ?z9l ?z9m ?z9n ?z9o ?z9p ?z9q ?z9r ?z9s
        (case z9a => first | k_is | rfl | decide +kernel)
        (case z9b => first | k_is | rfl | decide +kernel)
        (case z9c => first | k_is | rfl | decide +kernel)
        (case z9d => first | k_is | rfl | decide +kernel)
        (case z9e => first | k_is | rfl | decide +kernel)
        (case z9f => first | k_is | rfl | decide +kernel)
        (case z9g => first | k_is | rfl | decide +kernel)
        (case z9h => first | k_is | rfl | decide +kernel)
        (case z9i => first | k_is | rfl | decide +kernel)
        (case z9j => first | k_is | rfl | decide +kernel)
        (case z9k => first | k_is | rfl | decide +kernel)
        (case z9l => first | k_is | rfl | decide +kernel)
        (case z9m => first | k_is | rfl | decide +kernel)
        (case z9n => first | k_is | rfl | decide +kernel)
        (case z9o => first | k_is | rfl | decide +kernel)
        (case z9p => first | k_is | rfl | decide +kernel)
        (case z9q => first | k_is | rfl | decide +kernel)
        (case z9r => first | k_is | rfl | decide +kernel)
        (case z9s => first | k_is | rfl | decide +kernel)
      case e_BadYard =>
        refine' XB.ek_mk KX G ?z10a ?z10b ?z10c ?z10d ?z10e ?z10f ?z10g ?z10h ?z10i ?z10j ?z10k ?z10l ?z10m ?z10n ?z10o ?z10p ?z10q ?z10r ?z10s
        (case z10a => first | k_is | rfl | decide +kernel)
        (case z10b => first | k_is | rfl | decide +kernel)
        (case z10c => first | k_is | rfl | decide +kernel)
        (case z10d => first | k_is | rfl | decide +kernel)
        (case z10e => first | k_is | rfl | decide +kernel)
        (case z10f => first | k_is | rfl | decide +kernel)
        (case z10g => first | k_is | rfl | decide +kernel)
        (case z10h => first | k_is | rfl | decide +kernel)
        (case z10i => first | k_is | rfl | decide +kernel)
        (case z10j => first | k_is | rfl | decide +kernel)
        (case z10k => first | k_is | rfl | decide +kernel)
        (case z10l => first | k_is | rfl | decide +kernel)
        (case z10m => first | k_is | rfl | decide +kernel)
        (case z10n => first | k_is | rfl | decide +kernel)
        (case z10o => first | k_is | rfl | decide +kernel)
        (case z10p => first | k_is | rfl | decide +kernel)
        (case z10q => first | k_is | rfl | decide +kernel)
        (case z10r => first | k_is | rfl | decide +kernel)
        (case z10s => first | k_is | rfl | decide +kernel)
      case e_BadSpot =>
        refine' XB.ek_mk KX G ?z11a ?z11b ?z11c ?z11d ?z11e ?z11f ?z11g ?z11h ?z11i ?z11j ?z11k ?z11l ?z11m ?z11n ?z11o ?z11p ?z11q ?z11r ?z11s
        (case z11a => first | k_is | rfl | decide +kernel)
        (case z11b => first | k_is | rfl | decide +kernel)
        (case z11c => first | k_is | rfl | decide +kernel)
        (case z11d => first | k_is | rfl | decide +kernel)
        (case z11e => first | k_is | rfl | decide +kernel)
        (case z11f => first | k_is | rfl | decide +kernel)
        (case z11g => first | k_is | rfl | decide +kernel)
        (case z11h => first | k_is | rfl | decide +kernel)
        (case z11i => first | k_is | rfl | decide +kernel)
        (case z11j => first | k_is | rfl | decide +kernel)
        (case z11k => first | k_is | rfl | decide +kernel)
        (case z11l => first | k_is | rfl | decide +kernel)
        (case z11m => first | k_is | rfl | decide +kernel)
        (case z11n => first | k_is | rfl | decide +kernel)
        (case z11o => first | k_is | rfl | decide +kernel)
        (case z11p => first | k_is | rfl | decide +kernel)
        (case z11q => first | k_is | rfl | decide +kernel)
        (case z11r => first | k_is | rfl | decide +kernel)
        (case z11s => first | k_is | rfl | decide +kernel)
      case n_BadField_part =>
        refine' XB.nof_mk KX G ?z12a ?z12b
        (case z12a => first | k_is | rfl | decide +kernel)
        (case z12b => first | k_is | rfl | decide +kernel)
      case n_BadScript_place =>
        refine' XB.nof_mk KX G ?z13a ?z13b
        (case z13a => first | k_is | rfl | decide +kernel)
        (case z13b => first | k_is | rfl | decide +kernel)
      case n_BadYard_part =>
        refine' XB.nof_mk KX G ?z14a ?z14b
        (case z14a => first | k_is | rfl | decide +kernel)
        (case z14b => first | k_is | rfl | decide +kernel)
      case n_BadSpot_value =>
        refine' XB.nof_mk KX G ?z15a ?z15b
        (case z15a => first | k_is | rfl | decide +kernel)
        (case z15b => first | k_is | rfl | decide +kernel)
      case x_BadField_PileError =>
        refine' XB.exm_mk KX G ?z16a ?z16b ?z16c
        (case z16a => first | k_is | rfl | decide +kernel)
        (case z16b => first | k_is | rfl | decide +kernel)
        (case z16c => first | k_is | rfl | decide +kernel)
      case x_BadScript_PileError =>
        refine' XB.exm_mk KX G ?z17a ?z17b ?z17c
        (case z17a => first | k_is | rfl | decide +kernel)
        (case z17b => first | k_is | rfl | decide +kernel)
        (case z17c => first | k_is | rfl | decide +kernel)
      case x_BadYard_PileError =>
        refine' XB.exm_mk KX G ?z18a ?z18b ?z18c
        (case z18a => first | k_is | rfl | decide +kernel)
        (case z18b => first | k_is | rfl | decide +kernel)
        (case z18c => first | k_is | rfl | decide +kernel)
      case x_BadSpot_PileError =>
        refine' XB.exm_mk KX G ?z19a ?z19b ?z19c
        (case z19a => first | k_is | rfl | decide +kernel)
        (case z19b => first | k_is | rfl | decide +kernel)
        (case z19c => first | k_is | rfl | decide +kernel)
      case i_BadField_BadField =>
        refine' XB.kit_mk KX G ?z20a ?z20b ?z20c
        (case z20a => first | k_is | rfl | decide +kernel)
        (case z20b => first | k_is | rfl | decide +kernel)
        (case z20c => first | k_is | rfl | decide +kernel)
      case i_BadField_BadScript =>
        refine' XB.kit_mk KX G ?z21a ?z21b ?z21c
        (case z21a => first | k_is | rfl | decide +kernel)
        (case z21b => first | k_is | rfl | decide +kernel)
        (case z21c => first | k_is | rfl | decide +kernel)
      case i_BadField_BadMoves =>
        refine' XB.kit_mk KX G ?z22a ?z22b ?z22c
        (case z22a => first | k_is | rfl | decide +kernel)
        (case z22b => first | k_is | rfl | decide +kernel)
        (case z22c => first | k_is | rfl | decide +kernel)
      case i_BadField_BadYard =>
        refine' XB.kit_mk KX G ?z23a ?z23b ?z23c
        (case z23a => first | k_is | rfl | decide +kernel)
        (case z23b => first | k_is | rfl | decide +kernel)
        (case z23c => first | k_is | rfl | decide +kernel)
      case i_BadField_BadSpot =>
        refine' XB.kit_mk KX G ?z24a ?z24b ?z24c
        (case z24a => first | k_is | rfl | decide +kernel)
        (case z24b => first | k_is | rfl | decide +kernel)
        (case z24c => first | k_is | rfl | decide +kernel)
      case i_BadField_BadPaper =>
        refine' XB.kit_mk KX G ?z25a ?z25b ?z25c
        (case z25a => first | k_is | rfl | decide +kernel)
        (case z25b => first | k_is | rfl | decide +kernel)
        (case z25c => first | k_is | rfl | decide +kernel)
      case i_BadField_ValueError =>
        refine' XB.kitB_mk KX G ?z26a ?z26c
        (case z26a => first | k_is | rfl | decide +kernel)
        (case z26c => first | k_is | rfl | decide +kernel)
      case i_BadScript_BadField =>
        refine' XB.kit_mk KX G ?z27a ?z27b ?z27c
        (case z27a => first | k_is | rfl | decide +kernel)
        (case z27b => first | k_is | rfl | decide +kernel)
        (case z27c => first | k_is | rfl | decide +kernel)
      case i_BadScript_BadScript =>
        refine' XB.kit_mk KX G ?z28a ?z28b ?z28c
        (case z28a => first | k_is | rfl | decide +kernel)
        (case z28b => first | k_is | rfl | decide +kernel)
        (case z28c => first | k_is | rfl | decide +kernel)
      case i_BadScript_BadMoves =>
        refine' XB.kit_mk KX G ?z29a ?z29b ?z29c
        (case z29a => first | k_is | rfl | decide +kernel)
        (case z29b => first | k_is | rfl | decide +kernel)
        (case z29c => first | k_is | rfl | decide +kernel)
      case i_BadScript_BadYard =>
        refine' XB.kit_mk KX G ?z30a ?z30b ?z30c
        (case z30a => first | k_is | rfl | decide +kernel)
        (case z30b => first | k_is | rfl | decide +kernel)
        (case z30c => first | k_is | rfl | decide +kernel)
      case i_BadScript_BadSpot =>
        refine' XB.kit_mk KX G ?z31a ?z31b ?z31c
        (case z31a => first | k_is | rfl | decide +kernel)
        (case z31b => first | k_is | rfl | decide +kernel)
        (case z31c => first | k_is | rfl | decide +kernel)
      case i_BadScript_BadPaper =>
        refine' XB.kit_mk KX G ?z32a ?z32b ?z32c
        (case z32a => first | k_is | rfl | decide +kernel)
        (case z32b => first | k_is | rfl | decide +kernel)
        (case z32c => first | k_is | rfl | decide +kernel)
      case i_BadScript_ValueError =>
        refine' XB.kitB_mk KX G ?z33a ?z33c
        (case z33a => first | k_is | rfl | decide +kernel)
        (case z33c => first | k_is | rfl | decide +kernel)
      case i_BadYard_BadField =>
        refine' XB.kit_mk KX G ?z34a ?z34b ?z34c
        (case z34a => first | k_is | rfl | decide +kernel)
        (case z34b => first | k_is | rfl | decide +kernel)
        (case z34c => first | k_is | rfl | decide +kernel)
      case i_BadYard_BadScript =>
        refine' XB.kit_mk KX G ?z35a ?z35b ?z35c
        (case z35a => first | k_is | rfl | decide +kernel)
        (case z35b => first | k_is | rfl | decide +kernel)
        (case z35c => first | k_is | rfl | decide +kernel)
      case i_BadYard_BadMoves =>
        refine' XB.kit_mk KX G ?z36a ?z36b ?z36c
        (case z36a => first | k_is | rfl | decide +kernel)
        (case z36b => first | k_is | rfl | decide +kernel)
        (case z36c => first | k_is | rfl | decide +kernel)
      case i_BadYard_BadYard =>
        refine' XB.kit_mk KX G ?z37a ?z37b ?z37c
        (case z37a => first | k_is | rfl | decide +kernel)
        (case z37b => first | k_is | rfl | decide +kernel)
        (case z37c => first | k_is | rfl | decide +kernel)
      case i_BadYard_BadSpot =>
        refine' XB.kit_mk KX G ?z38a ?z38b ?z38c
        (case z38a => first | k_is | rfl | decide +kernel)
        (case z38b => first | k_is | rfl | decide +kernel)
        (case z38c => first | k_is | rfl | decide +kernel)
      case i_BadYard_BadPaper =>
        refine' XB.kit_mk KX G ?z39a ?z39b ?z39c
        (case z39a => first | k_is | rfl | decide +kernel)
        (case z39b => first | k_is | rfl | decide +kernel)
        (case z39c => first | k_is | rfl | decide +kernel)
      case i_BadYard_ValueError =>
        refine' XB.kitB_mk KX G ?z40a ?z40c
        (case z40a => first | k_is | rfl | decide +kernel)
        (case z40c => first | k_is | rfl | decide +kernel)
      case i_BadSpot_BadField =>
        refine' XB.kit_mk KX G ?z41a ?z41b ?z41c
        (case z41a => first | k_is | rfl | decide +kernel)
        (case z41b => first | k_is | rfl | decide +kernel)
        (case z41c => first | k_is | rfl | decide +kernel)
      case i_BadSpot_BadScript =>
        refine' XB.kit_mk KX G ?z42a ?z42b ?z42c
        (case z42a => first | k_is | rfl | decide +kernel)
        (case z42b => first | k_is | rfl | decide +kernel)
        (case z42c => first | k_is | rfl | decide +kernel)
      case i_BadSpot_BadMoves =>
        refine' XB.kit_mk KX G ?z43a ?z43b ?z43c
        (case z43a => first | k_is | rfl | decide +kernel)
        (case z43b => first | k_is | rfl | decide +kernel)
        (case z43c => first | k_is | rfl | decide +kernel)
      case i_BadSpot_BadYard =>
        refine' XB.kit_mk KX G ?z44a ?z44b ?z44c
        (case z44a => first | k_is | rfl | decide +kernel)
        (case z44b => first | k_is | rfl | decide +kernel)
        (case z44c => first | k_is | rfl | decide +kernel)
      case i_BadSpot_BadSpot =>
        refine' XB.kit_mk KX G ?z45a ?z45b ?z45c
        (case z45a => first | k_is | rfl | decide +kernel)
        (case z45b => first | k_is | rfl | decide +kernel)
        (case z45c => first | k_is | rfl | decide +kernel)
      case i_BadSpot_BadPaper =>
        refine' XB.kit_mk KX G ?z46a ?z46b ?z46c
        (case z46a => first | k_is | rfl | decide +kernel)
        (case z46b => first | k_is | rfl | decide +kernel)
        (case z46c => first | k_is | rfl | decide +kernel)
      case i_BadSpot_ValueError =>
        refine' XB.kitB_mk KX G ?z47a ?z47c
        (case z47a => first | k_is | rfl | decide +kernel)
        (case z47c => first | k_is | rfl | decide +kernel)
      case b_ValueError =>
        refine' PySem.W.mg_none_of KX G ?z48a
        (case z48a => k_is)
      case b_abs =>
        refine' PySem.W.mg_none_of KX G ?z49a
        (case z49a => k_is)
      case b_all =>
        refine' PySem.W.mg_none_of KX G ?z50a
        (case z50a => k_is)
      case b_bool =>
        refine' PySem.W.mg_none_of KX G ?z51a
        (case z51a => k_is)
      case b_dict =>
        refine' PySem.W.mg_none_of KX G ?z52a
        (case z52a => k_is)
      case b_enumerate =>
        refine' PySem.W.mg_none_of KX G ?z53a
        (case z53a => k_is)
      case b_int =>
        refine' PySem.W.mg_none_of KX G ?z54a
        (case z54a => k_is)
      case b_isinstance =>
        refine' PySem.W.mg_none_of KX G ?z55a
        (case z55a => k_is)
      case b_len =>
        refine' PySem.W.mg_none_of KX G ?z56a
        (case z56a => k_is)
      case b_list =>
        refine' PySem.W.mg_none_of KX G ?z57a
        (case z57a => k_is)
      case b_range =>
        refine' PySem.W.mg_none_of KX G ?z58a
        (case z58a => k_is)
      case b_repr =>
        refine' PySem.W.mg_none_of KX G ?z59a
        (case z59a => k_is)
      case b_sorted =>
        refine' PySem.W.mg_none_of KX G ?z60a
        (case z60a => k_is)
      case b_str =>
        refine' PySem.W.mg_none_of KX G ?z61a
        (case z61a => k_is)
      case b_tuple =>
        refine' PySem.W.mg_none_of KX G ?z62a
        (case z62a => k_is)
      case b_zip =>
        refine' PySem.W.mg_none_of KX G ?z63a
        (case z63a => k_is)
      case g_MOST_NAMES =>
        refine' XB.int_mk KX G ?z64a ?z64q
        (case z64a => k_is)
        (case z64q => rfl)
      case g_MOST_LETTERS =>
        refine' XB.int_mk KX G ?z65a ?z65q
        (case z65a => k_is)
        (case z65q => rfl)
      case g_MOST_STEPS =>
        refine' XB.int_mk KX G ?z66a ?z66q
        (case z66a => k_is)
        (case z66q => rfl)
      case g_MOST_TIMES => exact hMT
      case g_MOST_SPOTS =>
        refine' XB.int_mk KX G ?z68a ?z68q
        (case z68a => k_is)
        (case z68q => rfl)
      case d_is_whole =>
        refine' XB.dn_mk KX G ?z69a ?z69l ?z69c ?z69k
        (case z69a => k_is)
        (case z69l => k_is)
        (case z69c => k_is)
        (case z69k => k_is)
      case d_is_pair =>
        refine' XB.dn_mk KX G ?z70a ?z70l ?z70c ?z70k
        (case z70a => k_is)
        (case z70l => k_is)
        (case z70c => k_is)
        (case z70k => k_is)
      case d_is_ascending =>
        refine' XB.dn_mk KX G ?z71a ?z71l ?z71c ?z71k
        (case z71a => k_is)
        (case z71l => k_is)
        (case z71c => k_is)
        (case z71k => k_is)
      case d_need_field =>
        refine' XB.dn_mk KX G ?z72a ?z72l ?z72c ?z72k
        (case z72a => k_is)
        (case z72l => k_is)
        (case z72c => k_is)
        (case z72k => k_is)
      case d_are_names =>
        refine' XB.dn_mk KX G ?z73a ?z73l ?z73c ?z73k
        (case z73a => k_is)
        (case z73l => k_is)
        (case z73c => k_is)
        (case z73k => k_is)
      case d_is_name =>
        refine' XB.dn_mk KX G ?z74a ?z74l ?z74c ?z74k
        (case z74a => k_is)
        (case z74l => k_is)
        (case z74c => k_is)
        (case z74k => k_is)
      case d_are_pairs =>
        refine' XB.dn_mk KX G ?z75a ?z75l ?z75c ?z75k
        (case z75a => k_is)
        (case z75l => k_is)
        (case z75c => k_is)
        (case z75k => k_is)
      case d_is_pair_of =>
        refine' XB.dn_mk KX G ?z76a ?z76l ?z76c ?z76k
        (case z76a => k_is)
        (case z76l => k_is)
        (case z76c => k_is)
        (case z76k => k_is)
      case d_need_script =>
        refine' XB.dn_mk KX G ?z77a ?z77l ?z77c ?z77k
        (case z77a => k_is)
        (case z77l => k_is)
        (case z77c => k_is)
        (case z77k => k_is)
      case d_is_step =>
        refine' XB.dn_mk KX G ?z78a ?z78l ?z78c ?z78k
        (case z78a => k_is)
        (case z78l => k_is)
        (case z78c => k_is)
        (case z78k => k_is)
      case d_is_great_step =>
        refine' XB.dn_mk KX G ?z79a ?z79l ?z79c ?z79k
        (case z79a => k_is)
        (case z79l => k_is)
        (case z79c => k_is)
        (case z79k => k_is)
      case d_is_times =>
        refine' XB.dn_mk KX G ?z80a ?z80l ?z80c ?z80k
        (case z80a => k_is)
        (case z80l => k_is)
        (case z80c => k_is)
        (case z80k => k_is)
      case d_need_yard =>
        refine' XB.dn_mk KX G ?z81a ?z81l ?z81c ?z81k
        (case z81a => k_is)
        (case z81l => k_is)
        (case z81c => k_is)
        (case z81k => k_is)
      case d_led =>
        refine' XB.dn_mk KX G ?z82a ?z82l ?z82c ?z82k
        (case z82a => k_is)
        (case z82l => k_is)
        (case z82c => k_is)
        (case z82k => k_is)
      case d_do_alike_in =>
        refine' XB.dn_mk KX G ?z83a ?z83l ?z83c ?z83k
        (case z83a => k_is)
        (case z83l => k_is)
        (case z83c => k_is)
        (case z83k => k_is)
      case d_is_yard_form =>
        refine' XB.dn_mk KX G ?z84a ?z84l ?z84c ?z84k
        (case z84a => k_is)
        (case z84l => k_is)
        (case z84c => k_is)
        (case z84k => k_is)
      case d_is_turn =>
        refine' XB.dn_mk KX G ?z85a ?z85l ?z85c ?z85k
        (case z85a => k_is)
        (case z85l => k_is)
        (case z85c => k_is)
        (case z85k => k_is)
      case d_do_change_places =>
        refine' XB.dn_mk KX G ?z86a ?z86l ?z86c ?z86k
        (case z86a => k_is)
        (case z86l => k_is)
        (case z86c => k_is)
        (case z86k => k_is)
      case d_all_led =>
        refine' XB.dn_mk KX G ?z87a ?z87l ?z87c ?z87k
        (case z87a => k_is)
        (case z87l => k_is)
        (case z87c => k_is)
        (case z87k => k_is)
      case d_done_times =>
        refine' XB.dn_mk KX G ?z88a ?z88l ?z88c ?z88k
        (case z88a => k_is)
        (case z88l => k_is)
        (case z88c => k_is)
        (case z88k => k_is)
      case d_round_trip =>
        refine' XB.dn_mk KX G ?z89a ?z89l ?z89c ?z89k
        (case z89a => k_is)
        (case z89l => k_is)
        (case z89c => k_is)
        (case z89k => k_is)
      case d__law_mixed =>
        refine' XB.dn_mk KX G ?z90a ?z90l ?z90c ?z90k
        (case z90a => k_is)
        (case z90l => k_is)
        (case z90c => k_is)
        (case z90k => k_is)
      case d__law_folded =>
        refine' XB.dn_mk KX G ?z91a ?z91l ?z91c ?z91k
        (case z91a => k_is)
        (case z91l => k_is)
        (case z91c => k_is)
        (case z91k => k_is)
      case d__law_draw =>
        refine' XB.dn_mk KX G ?z92a ?z92l ?z92c ?z92k
        (case z92a => k_is)
        (case z92l => k_is)
        (case z92c => k_is)
        (case z92k => k_is)
      case d__law_begun =>
        refine' XB.dn_mk KX G ?z93a ?z93l ?z93c ?z93k
        (case z93a => k_is)
        (case z93l => k_is)
        (case z93c => k_is)
        (case z93k => k_is)
      case d__law_like =>
        refine' XB.dn_mk KX G ?z94a ?z94l ?z94c ?z94k
        (case z94a => k_is)
        (case z94l => k_is)
        (case z94c => k_is)
        (case z94k => k_is)
      case d__law_field =>
        refine' XB.dn_mk KX G ?z95a ?z95l ?z95c ?z95k
        (case z95a => k_is)
        (case z95l => k_is)
        (case z95c => k_is)
        (case z95k => k_is)
      case d__law_script =>
        refine' XB.dn_mk KX G ?z96a ?z96l ?z96c ?z96k
        (case z96a => k_is)
        (case z96l => k_is)
        (case z96c => k_is)
        (case z96k => k_is)
      case d__law_apart =>
        refine' XB.dn_mk KX G ?z97a ?z97l ?z97c ?z97k
        (case z97a => k_is)
        (case z97l => k_is)
        (case z97c => k_is)
        (case z97k => k_is)
      case d__law_stirred =>
        refine' XB.dn_mk KX G ?z98a ?z98l ?z98c ?z98k
        (case z98a => k_is)
        (case z98l => k_is)
        (case z98c => k_is)
        (case z98k => k_is)
      case d__law_turn =>
        refine' XB.dn_mk KX G ?z99a ?z99l ?z99c ?z99k
        (case z99a => k_is)
        (case z99l => k_is)
        (case z99c => k_is)
        (case z99k => k_is)
      case d__law_stepped =>
        refine' XB.dn_mk KX G ?z100a ?z100l ?z100c ?z100k
        (case z100a => k_is)
        (case z100l => k_is)
        (case z100c => k_is)
        (case z100k => k_is)
      case d__law_yard =>
        refine' XB.dn_mk KX G ?z101a ?z101l ?z101c ?z101k
        (case z101a => k_is)
        (case z101l => k_is)
        (case z101c => k_is)
        (case z101k => k_is)
      case d__law_touching =>
        refine' XB.dn_mk KX G ?z102a ?z102l ?z102c ?z102k
        (case z102a => k_is)
        (case z102l => k_is)
        (case z102c => k_is)
        (case z102k => k_is)
      case d__law_led =>
        refine' XB.dn_mk KX G ?z103a ?z103l ?z103c ?z103k
        (case z103a => k_is)
        (case z103l => k_is)
        (case z103c => k_is)
        (case z103k => k_is)
      case d__law_heard =>
        refine' XB.dn_mk KX G ?z104a ?z104l ?z104c ?z104k
        (case z104a => k_is)
        (case z104l => k_is)
        (case z104c => k_is)
        (case z104k => k_is)
      case d__law_wrong =>
        refine' XB.dn_mk KX G ?z105a ?z105l ?z105c ?z105k
        (case z105a => k_is)
        (case z105l => k_is)
        (case z105c => k_is)
        (case z105k => k_is)
      case d__law_bent =>
        refine' XB.dn_mk KX G ?z106a ?z106l ?z106c ?z106k
        (case z106a => k_is)
        (case z106l => k_is)
        (case z106c => k_is)
        (case z106k => k_is)
      case d__law_great_right =>
        refine' XB.dn_mk KX G ?z107a ?z107l ?z107c ?z107k
        (case z107a => k_is)
        (case z107l => k_is)
        (case z107c => k_is)
        (case z107k => k_is)
      case d_law =>
        refine' XB.dn_mk KX G ?z108a ?z108l ?z108c ?z108k
        (case z108a => k_is)
        (case z108l => k_is)
        (case z108c => k_is)
        (case z108k => k_is)
    (case la => k_is)
    (case ll => k_is)
    (case lc => k_is)
    (case lk => k_is)
    (case ml => k_is)
    (case me => rfl)
    (case na => k_is)
    (case nl => k_is)
    (case ne => rfl)
    (case nm => k_is)
    (case nn => rfl)
    (case nz => decide)
