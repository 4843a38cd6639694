import PyProof.Rows.All
import HandS.ForMost
import HandS.Wide
import HandS.Walk
import HandS.WordsExc
import HandS.Codes
import HandS.ExcInit
import KE.KExcInit
import PyProof.ExcBaseAll.OverflowError
import HandS.ExcField
import HandS.ExcIs
import HandS.IsInst
import KE.KExcIs
import PySem.Challenge.RW_deedpiles_k07_whole_moves
import PyProof.ReprRoads
import PyProof.CallFns
import HandS.TupLe
import HandS.Zip
import HandS.Deep
import HandS.DictComp
import HandS.TupAny
import KE.GoesMore
import KE.GoesEnum
import PyProof.EnumMake
import PyProof.Draws
import HandS.Conv
import HandS.More
import HandS.Style
import KE.KRevSl
import HandS.Flow
import HandS.Strs
import PyProof.ReprBulk
import HandS.ExcOwn
import HandS.Lambda
import HandS.ExcValue
import HandS.TupMul
import HandS.Ends
import HandS.EndTab
set_option Elab.async false
set_option linter.all false
set_option maxRecDepth 100000
set_option maxHeartbeats 4000000
namespace XB
open PySem PySem.Spec PyProof.Rows L2
/-! ### defs of the text, called by their names -/
structure Cl (P : Program) (w : World) (K : PySem.W.Frag) (mg : Str → Option Value) (base : Heap) (CX : CXT) (k : Nat) (x : Str) (sp : Sp) : Prop where
  ex : ∃ (f : Addr) (fd : FuncData) (ps : List Str), FnOk P w K mg base CX k f fd ps sp ∧ mg x = some (.ref f) ∧ PySem.W.keepIn K (.ref f) = true ∧ Binds K fd ps []
/-- a def that stands in the module under its own name -/
structure Dn (K : PySem.W.Frag) (mg : Str → Option Value) (x : Str) (st : Stmt) : Prop where
  ex : ∃ (f : Addr) (fd : FuncData), Fun K x x st f fd ∧ mg x = some (.ref f)
section
variable {P : Program} {w : World} {K : PySem.W.Frag} {mg : Str → Option Value} {base : Heap}
theorem cl0 {x : Str} {st : Stmt} {N ps : List Str} {k : Nat} {sp : Sp} (D : Dn K mg x st)
    (hb : ∀ (kV doc pm : Value) (an : Option Addr) (cdv ct : Value) (us : List Value), us.length = ps.length → bindArgs (PySem.W.fnOf x x (defArgs st) (defBody st) (defScope st) .none kV doc pm an cdv ct) ⟨us, []⟩ = pure (ps.zip us))
    (S : FnScope N ps (defScope st)) (len : ∀ vs H Q E, sp vs H Q E → vs.length = ps.length)
    (hbody : ∀ (f : Addr) (cdv : Value) (A : Around) (outer : List Env) (s : Shared) (H : Hp) (vs : List V) (Q : VK) (E : XK), Room k (A.deeper (envOfC x (defScope st) s.heap.objs.size f cdv)) → sp vs H Q E →
      ∃ t, PSs (cxOf CX0 P w K mg base N x (defScope st) f cdv A outer s H E).nox (defBody st) t ∧ t { nx := fun _ H' => Q .non H', rt := Q } (start N vs) H) : Cl P w K mg base CX0 (k + 1) x sp := by
  obtain ⟨f, fd, F, hm⟩ := D.ex
  exact ⟨f, fd, ps, F.ok S len (fun cdv A outer s H vs Q E hr h => hbody f cdv A outer s H vs Q E hr h), hm, F.kp, F.binds hb⟩
end
section
variable {X : Cx} {k j : Nat} {x : Str} {sp : Sp} {p pos : Pos} {e : Expr} {es : List Expr} {t : TA}
theorem pe_k (c : Cl X.prog X.w X.K X.mg X.base CX0 k x sp) (hr : Room j X.A) (hk : k ≤ j) (hg : Gl X x) (ha : PA X (e :: es) t)
    (hdb : (x == ("__debug__" : Str)) = false := by decide) (he : starEach (e :: es) X.env = (false, eval e X.env) :: starEach es X.env := by rfl) (hpl : (backTo pos (starEach es X.env)).any (·.1) = false := by rfl) :
    PE X (.Call (.Name x p) (e :: es) [] pos) (tCall sp [] E0 t) := by
  obtain ⟨f, fd, ps, F, hm, kp, b⟩ := c.ex
  exact pe_call F (hr.mono hk) hg hm kp b .nil pass0 ha hdb he hpl
end
/-! ### heaps -/
theorem same_upd {H : Hp} {p : Addr} {o : HO} (h : H p = none) : Same H (upd H p o) := fun b x e => by
  rw [upd_ne (ne_of_none e h)]
  exact e
theorem Same.put {H H1 : Hp} {D : Addr} {o : HO} (s : Same H H1) (hD : H D = none) : Same H (upd H1 D o) := fun b x e => by
  rw [upd_ne (ne_of_none e hD)]
  exact s b x e
theorem Same.new {H H1 : Hp} {D : Addr} {o : HO} (s : Same H H1) (hD : H1 D = none) : Same H (upd H1 D o) := fun b x e => by
  rw [upd_ne (ne_of_none (s b x e) hD)]
  exact s b x e
theorem same_put {H H1 : Hp} {D : Addr} {o : HO} (s : Same H H1) (hD : H D = none) : Same H (upd H1 D o) := Same.put s hD
theorem same_new {H H1 : Hp} {D : Addr} {o : HO} (s : Same H H1) (hD : H1 D = none) : Same H (upd H1 D o) := Same.new s hD
theorem yes_ {σ : L2.St} {H : Hp} {A B : Hp → Prop} (h : A H) : tYes σ H (fun b H3 => if b = true then A H3 else B H3) := by
  show if true = true then A H else B H
  rw [if_pos rfl]
  exact h
/-- the int that stands at a place of a row of ints -/
theorem int_at {ns : List Int} {i : Nat} {x : V} (h : (ns.map V.int)[i]? = some x) : ∃ z, ns[i]? = some z ∧ x = V.int z := by
  rw [List.getElem?_map] at h
  cases e : ns[i]? with
  | none =>
    rw [e] at h
    cases h
  | some z =>
    rw [e] at h
    exact ⟨z, rfl, (Option.some.inj h).symm⟩
theorem str_at {ns : List Str} {i : Nat} {x : V} (h : (ns.map V.str)[i]? = some x) : ∃ z, ns[i]? = some z ∧ x = V.str z := by
  rw [List.getElem?_map] at h
  obtain ⟨z, e, rfl⟩ := Option.map_eq_some_iff.mp h
  exact ⟨z, e, rfl⟩
theorem map_set {xs : List Int} (k : Nat) (z : Int) : (xs.map V.int).set k (.int z) = (xs.set k z).map V.int := by
  rw [List.map_set]
theorem ixN_of {n : Nat} {z : Int} {k : Nat} (e : z = (k : Int)) (h : k < n) : ixN n z = some k := by
  unfold ixN
  rw [if_pos (by omega), if_pos (by omega), e]
  rfl
theorem atI_of {xs : List Int} {z : Int} {k : Nat} {v : Int} (e : z = (k : Int)) (h : xs[k]? = some v) : atI (xs.map V.int) z = some (V.int v) := by
  refine at_of e ?_
  rw [List.getElem?_map, h]
  rfl
end XB
set_option Elab.async false
set_option linter.all false
set_option maxRecDepth 100000
set_option maxHeartbeats 4000000
/-! own exceptions of another built-in class than ValueError -/
namespace PySem
namespace XOK
open Builtin Builtin.ObjectAttr HandSPX PySem.Spec PyProof.Rows
section
variable {prog : Program} {w : World} {A : Around} {E : Value → Shared → Prop} {R : Result → Shared → Prop} {hp : Heap} {g : Array GenState} {d : Drawn} {t : Nat} {os : OsState}
theorem osaG {K : W.Frag} {nm : Str} {tk : Tok} {y : Value} {a C : Addr} {fv : Array Value} {cd : ClassData} (KI : K.In hp) (ea : hp.get? a = some { cls := .ref C, data := .fields fv }) (ec : W.clsIn K C = some cd)
    (pa : ∀ self, refuseLoop self "__setattr__" cd.mro = pure ()) (ob : cd.mro.contains (.type "object") = true) (ne : cd.mro.isEmpty = false) (hd : cd.hasDict = true) (nf : W.findIn K (.ref C) nm = some none)
    (hq : ∀ h' tk' dx, (∀ b o, b ≠ a → hp.get? b = some o → h'.get? b = some o) → hp.objs.size ≤ dx → dx ≠ a → h'.get? a = some { cls := .ref C, dict := some dx, data := .fields fv } → h'.Ns1 dx (fun z => if z = nm then some y else none) → R (.ok (.ret .none)) ⟨h', g, d, tk', os⟩) :
    codeAny (model prog w) A (.call (.builtin "object.__setattr__") ⟨[.ref a, .str nm tk, y], []⟩) R ⟨hp, g, d, t, os⟩ := by
  have J : W.InstAt hp a { cls := .ref C, data := .fields fv } C none := ⟨ea, rfl, rfl, trivial⟩
  have ZF := F.store_object
  have nax : a ≠ hp.objs.size := Nat.ne_of_lt (Heap.lt_size ea)
  have isO : W.Looks (model prog w) hp (isInstance (.ref a) (.type "object")) true := J.type.andThen (W.looks_mroIn KI (by unfold W.mroIn; rw [ec, Option.bind_some, ne, if_neg (by decide), ob]))
  refine codeAny_call_builtin ZF.slot.plain ZF.entry ?_
  refine @W.check_slot (model prog w) _ _ ⟨hp, g, d, t, os⟩ "object.__setattr__" "object" "__setattr__" (.ref a) [.str nm tk, y] [] _ ZF.kind ZF.split isO (ZF.args (.ref a) (.str nm tk) y) ?_
  have lm : W.Looks (model prog w) hp (mroOf (.ref C)) cd.mro := (W.looks_clsIn KI ec).andThen .now
  have lt : W.Looks (model prog w) hp (storeTaker? none) none := .now
  have lc : W.Looks (model prog w) hp (classData C) cd := W.looks_clsIn KI ec
  rw [W.osa_eq, refuse_eq]
  refine wpAny_bind (wpAny_bind (J.type.at (wpAny_bind (lm.at ?_))))
  rw [pa]
  refine wpAny_pure (wpAny_bind (J.type.at (wpAny_bind ((W.looks_findIn KI nf).at (wpAny_bind (lt.at ?_))))))
  show wpAny _ _ (storeInOwnDict (.ref a) (.ref C) (.str nm tk) nm y false) _ _ _
  obtain ⟨c1, c2, c3, c4, c5, c6, c7, c8, c9, c10, c11⟩ := cd
  dsimp only at hd
  subst hd
  unfold storeInOwnDict ownDictForStores
  repeat (first | with_reducible refine store_in_new ?_ ?_ | with_reducible refine wpAny_loadPart_at ea ?_ | with_reducible refine lc.at ?_ | wp_step)
  · refine ⟨_, #[], _, (Heap.get?_update_ne _ _ _ _ nax.symm).trans (Heap.get?_push_at rfl rfl), rfl, fun e he => ?_, fun _ => rfl⟩
    exact absurd he (by simp)
  · intro h' tk' nd sb
    have e2 : (hp.push { cls := .type "dict", data := .dict #[] }).get? a = some { cls := .ref C, data := .fields fv } := Heap.get?_push_of_some _ ea
    refine hq h' tk' hp.objs.size (fun b o nb eb => ?_) (Nat.le_refl _) nax.symm ((sb.2 a nax).trans (Heap.get?_update_self _ e2 rfl)) nd
    exact (sb.2 b (Nat.ne_of_lt (Heap.lt_size eb))).trans ((Heap.get?_update_ne _ _ _ _ nb).trans (Heap.get?_push_of_some _ eb))
end
end XOK
end PySem
namespace XB
open PySem PySem.Spec PyProof.Rows L2
/-- what the written part says of an own class of some built-in exception -/
structure OexG (K : PySem.W.Frag) (C : Addr) : Prop where
  cls : ∃ nm q N bs bm sn sub ab col dd k0 k1 k2 k3 k5, ∃ (B newId initId : String) (bmB : List Value), K.lookup C = some (excClassObj nm q C N bs bm true sn sub ab col dd k0 k1 k2 k3 k5 newId) ∧ ExcBaseFacts B newId initId bmB ∧ (∀ Y : String, bm.contains (.type Y) = bmB.contains (.type Y)) ∧
    (∀ self, PySem.refuseLoop self "__setattr__" (.ref C :: bm) = pure ()) ∧ (Value.ref C :: bm).contains (.type "object") = true
  sa : PySem.W.findIn K (.ref C) "__setattr__" = some (some (.builtin "object.__setattr__"))
  exC : PySem.W.subIn K (.ref C) (.type "BaseException") = some true
  tyC : PySem.W.typeIn K (.ref C) = some (.type "type")
  kC : PySem.W.keepIn K (.ref C) = true
section
variable {X : Cx} {pins : List (Addr × Obj)} {σ : L2.St} {H : Hp} {s : Shared} {a C : Addr} {f : Str} {y : V} {u : Value} {Q : Unit → Shared → Prop} {E : Value → Shared → Prop} {A : Around}
theorem ostG (T : OexG X.K C) (I : Inv X pins σ H s) (e : H a = some (exo a C none)) (nf : PySem.W.findIn X.K (.ref C) f = some none) (ry : RelV y u)
    (h : ∀ dx s', H dx = none → dx ≠ a → Inv X pins σ (upd (upd H dx (exd dx [(f, y)])) a (exo a C (some dx))) s' → Q () s') : wpAny (model X.prog X.w) A (setAttr (.ref a) f u) Q E s := by
  obtain ⟨nm, q, N, bs, bm, sn, sub, ab, col, dd, k0, k1, k2, k3, k5, B, ni, ii, bmB, hC, hF, hT, hp, hob⟩ := T.cls
  have ec : PySem.W.clsIn X.K C = some { name := nm, bases := bs, mro := .ref C :: bm, ns := N, qualname := q, hasDict := true, slotNames := sn, subclasses := sub, abstract := ab, collection := col, hasDel := false } := by
    unfold PySem.W.clsIn
    rw [hC] <;> rfl
  obtain ⟨t1, ho⟩ := exo_at I.hok e
  obtain ⟨hh, g, dr, tk, os⟩ := s
  refine PySem.W.set_plain I.kIn (od := none) (ox := { cls := .ref C, dict := none, data := .fields #[.ref t1, .none, .none, .none, .bool false, .none] }) ⟨ho, rfl, rfl, trivial⟩ T.sa ?_
  refine PySem.XOK.osaG I.kIn ho ec hp hob rfl rfl nf fun h' tk' dx kp le ne ex ns => ?_
  have fr : H dx = none := I.hok.fresh le
  have nd : ∀ {b : Addr} {o : Obj}, hh.get? b = some o → b ≠ dx := fun {b o} z e0 => by
    have w := Heap.lt_size z
    rw [e0] at w
    exact absurd w (Nat.not_lt.mpr le)
  have na : ∀ {b : Addr}, H b = none → b ≠ a := fun {b} n z => by
    rw [z, e] at n
    cases n
  have U : Un X.fs [] H (upd (upd H dx (exd dx [(f, y)])) a (exo a C (some dx))) hh h' := by
    refine ⟨fun b o z n _ _ => kp b o (na n) z, fun b o z n _ _ => ⟨o.slots, kp b o (na n) z⟩, fun b o z n _ => ?_, fun b o z _ => ?_, fun b xs z => ?_, fun b o v z => ?_, fun b ps z => ⟨#[], ?_⟩⟩
    · rw [upd_ne (na n), upd_ne (nd z), n]
    · by_cases hb : b = a
      · rw [hb]
        exact ⟨_, ex⟩
      · exact ⟨o, kp b o hb z⟩
    · rw [upd_ne (at_ne e z exo_tup), upd_ne (ne_of_none z fr), z]
    · rw [upd_ne (at_ne e z exo_frz), upd_ne (ne_of_none z fr), z]
    · rw [upd_ne (at_ne e z exo_tbl), upd_ne (ne_of_none z fr), z, Array.append_empty]
  refine h dx _ fr ne (I.un (t' := tk') U fun b o z => ?_)
  by_cases hb : b = a
  · subst hb
    rw [upd_same] at z
    cases z
    exact exo_ok ex
  · rw [upd_ne hb] at z
    by_cases hd : b = dx
    · subst hd
      rw [upd_same] at z
      cases z
      exact exd_ok ns (relO_put (fs := []) ry fun _ => True.intro)
    · rw [upd_ne hd] at z
      refine (I.hok b o z).stay (fun c v hc w => kp c v ?_ w) (fun c hc => ?_) (fun c xs hc => ?_)
      · rcases hc with hc | hc
        · rwa [hc]
        · exact at_ne e hc exo_own
      · rw [upd_ne (at_ne e hc exo_own), upd_ne (ne_of_none hc fr), hc]
      · rw [upd_ne (at_ne e hc exo_tup), upd_ne (ne_of_none hc fr), hc]
end
/-- self.f = e, the first field -/
def tOsG (K : PySem.W.Frag) (f : Str) (to te : TE) : TS := fun D σ H => te σ H fun y H1 => to σ H1 fun x H2 => ∃ a C : Addr, x = .ref a ∧ OexG K C ∧ PySem.W.findIn K (.ref C) f = some none ∧ H2 a = some (exo a C none) ∧ ∀ dx, H2 dx = none → dx ≠ a → D.nx σ (upd (upd H2 dx (exd dx [(f, y)])) a (exo a C (some dx)))
theorem ps_osG {X : Cx} {o e : Expr} {to te : TE} {f : Str} {p' pos : Pos} (ho : PE X o to) (he : PE X e te) (hs : swapsWith e (some (.Attribute o f p')) pos.line X.env = pure false := by rfl) : PS X (.Assign [.Attribute o f p'] e pos) (tOsG X.K f to te) := by
  constructor
  intro pins s σ H D I h
  refine plainObj_wpAny_Assign_Attribute (thn (he.run pins s σ H _ I h) ?_) hs
  rintro v s1 ⟨y, H1, I1, r1, q1⟩
  refine thn (ho.run pins s1 σ H1 _ I1 q1) ?_
  rintro u s2 ⟨x, H2, I2, r2, a, C, rfl, T, nf, ea, q⟩
  obtain rfl : u = Value.ref a := r2
  exact ostG T I2 ea nf r1 fun dx s' n ne J => ⟨σ, _, J, q dx n ne⟩
end XB
set_option Elab.async false
set_option linter.all false
set_option maxRecDepth 100000
set_option maxHeartbeats 4000000
/-! own exceptions as values: made by a call, their fields read, isinstance -/
namespace XB
open PySem PySem.Spec PyProof.Rows L2
/-- at a: an exception that was raised and kept -/
def exg (a : Addr) (cls : Value) (d : Option Addr) : HO := .ext fun h => ∃ (o : Obj) (vs : Array Value), h.get? a = some o ∧ o.cls = cls ∧ o.dict = d ∧ o.data = .fields vs
theorem exg_ok {P : Program} {w : World} {H : Hp} {h : Heap} {a : Addr} {cls : Value} {d : Option Addr} {o : Obj} {vs : Array Value} (e : h.get? a = some o) (h1 : o.cls = cls) (h2 : o.dict = d) (h3 : o.data = .fields vs) : ObjOk P w H h a (exg a cls d) :=
  ⟨⟨o, vs, e, h1, h2, h3⟩, ⟨o, e⟩, fun g1 g2 z k => by
    obtain ⟨o', vs', q, r⟩ := z
    exact ⟨o', vs', k _ q, r⟩⟩
theorem exg_at {P : Program} {w : World} {H : Hp} {h : Heap} {a : Addr} {cls : Value} {d : Option Addr} (hok : HOk P w H h) (e : H a = some (exg a cls d)) : ∃ (o : Obj) (vs : Array Value), h.get? a = some o ∧ o.cls = cls ∧ o.dict = d ∧ o.data = .fields vs := by
  have x : ObjOk P w H h a (.ext fun h => ∃ (o : Obj) (vs : Array Value), h.get? a = some o ∧ o.cls = cls ∧ o.dict = d ∧ o.data = .fields vs) := hok a _ e
  exact x.1
/-- an exception that stands, with its fields -/
def XOb (H : Hp) (a C : Addr) (fs : List (Str × V)) : Prop := ∃ dx, (H a = some (exo a C (some dx)) ∨ H a = some (exg a (.ref C) (some dx))) ∧ (H dx = some (exd dx fs) ∨ H dx = some (.xd fs))
theorem XOb.same {H H' : Hp} {a C : Addr} {fs : List (Str × V)} (h : XOb H a C fs) (s : Same H H') : XOb H' a C fs := by
  obtain ⟨dx, h1, h2⟩ := h
  exact ⟨dx, h1.imp (s _ _) (s _ _), h2.imp (s _ _) (s _ _)⟩
theorem xob_inst {X : Cx} {pins : List (Addr × Obj)} {σ : L2.St} {H : Hp} {s : Shared} {a C : Addr} {fs : List (Str × V)} (I : Inv X pins σ H s) (h : XOb H a C fs) :
    ∃ (ox od : Obj) (mA : Str → Option Value), PySem.W.InstAt s.heap a ox C (some od) ∧ (∀ n, PySem.W.lookIn n od = some (mA n)) ∧ ∀ n, RelO (fs.lookup n) (mA n) := by
  obtain ⟨dx, e, ed⟩ := h
  have hd : ∃ mA, s.heap.Ns1 dx mA ∧ ∀ f, RelO (fs.lookup f) (mA f) := by
    rcases ed with ed | ed
    · exact exd_at I.hok ed
    · exact I.hok dx _ ed
  obtain ⟨mA, hns, hr⟩ := hd
  obtain ⟨od, hod, hl⟩ := lookIn_ns hns
  rcases e with e | e
  · obtain ⟨t1, ho⟩ := exo_at I.hok e
    exact ⟨_, od, mA, ⟨ho, rfl, rfl, hod⟩, hl, hr⟩
  · obtain ⟨o, vs, h1, h2, h3, h4⟩ := exg_at I.hok e
    exact ⟨o, od, mA, ⟨h1, h2, by unfold PySem.W.notCls; rw [h4] <;> rfl, by rw [h3]; exact hod⟩, hl, hr⟩
section
variable {X : Cx}
/-- e.n of such an exception -/
@[irreducible] def rXo (K : PySem.W.Frag) (n : Str) (x : V) (H1 : Hp) (Q : VK) : Prop := ∃ (a C : Addr) (fs : List (Str × V)) (v : V), x = .ref a ∧ ExcC K C ∧ PySem.W.findIn K (.ref C) n = some none ∧ XOb H1 a C fs ∧ fs.lookup n = some v ∧ Q v H1
def tXo (K : PySem.W.Frag) (n : Str) (te : TE) : TE := fun σ H Q => te σ H fun x H1 => rXo K n x H1 Q
theorem pe_xo {K : PySem.W.Frag} (hk : X.K = K) {e : Expr} {te : TE} {pos : Pos} {n : Str} (he : PE X e te) (hb : attributeBase e n X.env (eval e X.env) = eval e X.env := by rfl) : PE X (.Attribute e n pos) (tXo K n te) := by
  subst hk
  constructor
  intro pins s σ H Q I h
  refine attr_of hb (thn (he.run pins s σ H _ I h) ?_)
  rintro u s1 ⟨x, H1, I1, rx, hh⟩
  unfold rXo at hh
  obtain ⟨a, C, fs, v, rfl, T, hno, hO, hv, q⟩ := hh
  obtain rfl : u = Value.ref a := rx
  obtain ⟨ox, od, mA, J, hl, hr⟩ := xob_inst I1 hO
  obtain ⟨z, hz, rz⟩ := RelO.some_of (v := v) (o := mA n) (by rw [← hv]; exact hr n)
  refine HandSPX.exc_get I1.kIn J T.hg T.hk T.hs (PySem.W.findObj_own T.hd hno rfl ?_) (handed_of rz) ⟨v, H1, I1.tok _, rz, q⟩
  rw [hl, hz]
@[irreducible] def rIsX (K : PySem.W.Frag) : List V → Hp → VK → Prop := fun xs H Q => ∃ (a C : Addr) (fs : List (Str × V)) (c : V) (u : Value) (b : Bool), xs = [.ref a, c] ∧ ClsV c u ∧ ExcC K C ∧ XOb H a C fs ∧ PySem.W.kitOne K (.ref C) u = some b ∧ Q (.bl b) H
theorem call_isX {K : PySem.W.Frag} (hk : X.K = K) : CallR X (.builtin "isinstance") (rIsX K) := by
  subst hk
  intro pins s σ H xs us Q I r h
  unfold rIsX at h
  obtain ⟨a, C, fs, c, u, b, rfl, k, T, hO, e, q⟩ := h
  obtain ⟨u1, u2, rfl, r1, r2⟩ := vals2 r
  have e2 := k.eq r2
  subst e2
  obtain rfl : u1 = Value.ref a := r1
  obtain ⟨ox, od, mA, J, _, _⟩ := xob_inst I hO
  have hcl : (PySem.W.clsIn X.K C).isSome = true := by
    have hd := T.hd
    unfold PySem.W.hasDictIn at hd
    cases hc : PySem.W.clsIn X.K C with
    | some _ => rfl
    | none =>
      rw [hc] at hd
      cases hd
  exact PySem.W.kia_one (PySem.W.kitx_exc hcl T.hg T.hk T.hs T.ha T.hn T.ht T.hm) I.kIn J e (fun z => nomatch z) fun tk => ⟨.bl b, H, I.tok tk, rfl, q⟩
/-- C(e, ..) as a value -/
def tMkV (C : Addr) (sp : Sp) (ta : TA) : TE := fun σ H Q => ta σ H fun vs H1 => vs.length ≤ 1000 ∧ ∀ a, H1 a = none → sp (.ref a :: vs) (upd H1 a (exo a C none)) (fun v H2 => v = .non ∧ Q (.ref a) H2) fun _ _ _ => False
theorem pe_oex {CX : CXT} {x : Str} {C fI : Addr} {k : Nat} {fd : FuncData} {ps : List Str} {sp : Sp} {e : Expr} {es : List Expr} {p pos : Pos} {ta : TA} (T : OexG X.K C) (iC : PySem.W.findIn X.K (.ref C) "__init__" = some (some (.ref fI)))
    (tI : PySem.W.typeIn X.K (.ref fI) = some (.type "function")) (F1 : FnOk X.prog X.w X.K X.mg X.base CX k fI fd ps sp) (hr : Room (k + 1) X.A) (hb : Binds X.K fd ps []) (hx : Passes CX X fun _ _ _ => False) (hg : Gl X x) (hm : X.mg x = some (.ref C)) (ha : PA X (e :: es) ta)
    (hdb : (x == ("__debug__" : Str)) = false := by decide) (he : starEach (e :: es) X.env = (false, eval e X.env) :: starEach es X.env := by rfl) (hpl : (backTo pos (starEach es X.env)).any (·.1) = false := by rfl) :
    PE X (.Call (.Name x p) (e :: es) [] pos) (tMkV C sp ta) := by
  constructor
  intro pins s σ H Q I h
  obtain ⟨nm, q, N, bs, bm, sn, sub, ab, col, dd, k0, k1, k2, k3, k5, B, ni, ii, bmB, hC, hF, hT, _, _⟩ := T.cls
  refine wpAny_Call_Name_kw (ld_glob I hg hm ?_ hdb)
  refine PySem.W.callWith_K (h₀ := X.base) I.ok.mod.kin T.kC (thn (ha.run pos pins s σ H _ I h) ?_) he hpl
  rintro us ⟨hp, g, dr, tk, os⟩ ⟨vs, H1, I1, r1, hz, q1⟩
  refine ⟨I1.kIn, ?_⟩
  show wpAny _ _ (call (.ref C) us) _ _ _
  have up1 : hp.objs.size ≤ hp.objs.size + 1 := by omega
  have hq := q1 (hp.objs.size + 1) (I1.hok.fresh up1)
  obtain ⟨h2, eh2⟩ : ∃ h2, h2 = (hp.push (PySem.W.kdv_tup us)).push (PySem.HandSPX.excO C hp.objs.size) := ⟨_, rfl⟩
  have kk : ∀ b o, hp.get? b = some o → h2.get? b = some o := fun b o z => by
    rw [eh2]
    exact Heap.get?_push_of_some _ (Heap.get?_push_of_some _ z)
  have hget : h2.get? (hp.objs.size + 1) = some (PySem.HandSPX.excO C hp.objs.size) := by
    rw [eh2]
    heap_get
  have I2 : Inv X pins σ (upd H1 (hp.objs.size + 1) (exo (hp.objs.size + 1) C none)) ⟨h2, g, dr, tk, os⟩ := I1.laid (t' := tk) (a := hp.objs.size + 1) (h' := h2) kk up1 (exo_ok hget)
  have r2 : Vals (V.ref (hp.objs.size + 1) :: vs) (Value.ref (hp.objs.size + 1) :: us) := .cons rfl r1
  have hl : (Value.ref (hp.objs.size + 1) :: us).length = ps.length := r2.length.symm.trans (F1.len _ _ _ _ hq)
  have hus : us.length ≤ sizeLine := by
    have z := Paired.length r1
    rw [sizeLine_eq]
    omega
  have hb2 := hb ⟨h2, g, dr, tk, os⟩ (Value.ref (hp.objs.size + 1) :: us) I2.kIn (by rw [List.append_nil]; exact hl)
  rw [List.append_nil] at hb2
  refine wpAny_call (PySem.HandSPX.call_own hF hT (I1.kIn _ _ hC) (PySem.W.looks_findIn I1.kIn iC) (fun self => PySem.W.bind_fn I1.kIn self tI) hus ?_)
  rw [← eh2]
  refine codeAny_mono (F1.run _ X.stack _ _ ⟨Value.ref (hp.objs.size + 1) :: us, []⟩ (Value.ref (hp.objs.size + 1) :: us) _ _ (fun _ _ _ => False) (hr.make C us []) (I2.env0.make C us []) hb2 r2 hq) ?_
  rintro (er | fl) s' hq'
  · exact hx pins σ _ _ er s' I2 hq'
  · cases fl with
    | ret u =>
      obtain ⟨v, H2, os2, bare2, un2, hok2, rv, ev, q2⟩ := hq'
      subst ev
      exact ⟨rv, .ref (hp.objs.size + 1), H2, I2.call' (ch := []) os2 un2 hok2 bare2 (fun b z => absurd z (by simp)), rfl, q2⟩
    | next => exact False.elim hq'
    | brk => exact False.elim hq'
    | cont => exact False.elim hq'
end
end XB
namespace XB
open PySem PySem.Spec PyProof.Rows L2
/-! ### own exception classes under their names -/
/-- what the written part says of an own exception class of ValueError, whose __init__ is st -/
structure Ek (K : PySem.W.Frag) (mg : Str → Option Value) (x q : Str) (st : Stmt) : Prop where
  ex : ∃ (C fI : Addr) (fd : FuncData), mg x = some (.ref C) ∧ OexG K C ∧ ExcC K C ∧ PySem.W.findIn K (.ref C) "__init__" = some (some (.ref fI)) ∧ PySem.W.typeIn K (.ref fI) = some (.type "function") ∧ Fun K "__init__" q st fI fd
/-- of a class: a name that it does not know -/
def NoF (K : PySem.W.Frag) (mg : Str → Option Value) (x f : Str) : Prop := ∀ C, mg x = some (.ref C) → PySem.W.findIn K (.ref C) f = some none
def Kit (K : PySem.W.Frag) (mg : Str → Option Value) (x y : Str) (b : Bool) : Prop := ∀ C D, mg x = some (.ref C) → mg y = some (.ref D) → PySem.W.kitOne K (.ref C) (.ref D) = some b
def KitB (K : PySem.W.Frag) (mg : Str → Option Value) (x : Str) (y : String) (b : Bool) : Prop := ∀ C, mg x = some (.ref C) → PySem.W.kitOne K (.ref C) (.type y) = some b
def Exm (K : PySem.W.Frag) (mg : Str → Option Value) (x y : Str) (b : Bool) : Prop := ∀ C D, mg x = some (.ref C) → mg y = some (.ref D) → PySem.W.exmOne K (.ref C) (.ref D) = some b
/-- an exception of the class of that name -/
def Ex1 (K : PySem.W.Frag) (mg : Str → Option Value) (x : Str) (H : Hp) (a : Addr) (fs : List (Str × V)) : Prop := ∃ C, mg x = some (.ref C) ∧ ExcC K C ∧ XOb H a C fs
theorem Ex1.same {K : PySem.W.Frag} {mg : Str → Option Value} {x : Str} {H H' : Hp} {a : Addr} {fs : List (Str × V)} (h : Ex1 K mg x H a fs) (s : Same H H') : Ex1 K mg x H' a fs := by
  obtain ⟨C, h1, h2, h3⟩ := h
  exact ⟨C, h1, h2, h3.same s⟩
theorem cls_eq {mg : Str → Option Value} {x : Str} {C D : Addr} (h : mg x = some (.ref C)) (g : mg x = some (.ref D)) : C = D := Value.ref.inj (Option.some.inj (h.symm.trans g))
/-- e.f -/
theorem xo_at {K : PySem.W.Frag} {mg : Str → Option Value} {x n : Str} {H : Hp} {a : Addr} {fs : List (Str × V)} {y : V} {Q : VK} (h : Ex1 K mg x H a fs) (nf : NoF K mg x n) (e : fs.lookup n = some y) (q : Q y H) : rXo K n (.ref a) H Q := by
  obtain ⟨C, hC, T, hO⟩ := h
  unfold rXo
  exact ⟨a, C, fs, y, rfl, T, nf C hC, hO, e, q⟩
theorem is_at {K : PySem.W.Frag} {mg : Str → Option Value} {x y : Str} {H : Hp} {a D : Addr} {fs : List (Str × V)} {b : Bool} {Q : VK} (h : Ex1 K mg x H a fs) (k : Kit K mg x y b) (hD : mg y = some (.ref D)) (q : Q (.bl b) H) : rIsX K [.ref a, .ref D] H Q := by
  obtain ⟨C, hC, T, hO⟩ := h
  unfold rIsX
  exact ⟨a, C, fs, .ref D, .ref D, b, rfl, .own D, T, hO, k C D hC hD, q⟩
theorem is_atB {K : PySem.W.Frag} {mg : Str → Option Value} {x : Str} {y : String} {H : Hp} {a : Addr} {fs : List (Str × V)} {b : Bool} {Q : VK} (h : Ex1 K mg x H a fs) (k : KitB K mg x y b) (q : Q (.bl b) H) : rIsX K [.ref a, .ty y] H Q := by
  obtain ⟨C, hC, T, hO⟩ := h
  unfold rIsX
  exact ⟨a, C, fs, .ty y, .type y, b, rfl, .ty y, T, hO, k C hC, q⟩
/-- the promise of an __init__ that sets one field -/
def spIni (K : PySem.W.Frag) (C : Addr) (f : Str) : Sp := fun vs H Q _ => ∃ (a : Addr) (y : V), vs = [.ref a, y] ∧ H a = some (exo a C none) ∧ ∀ dx, H dx = none → dx ≠ a → Q .non (upd (upd H dx (exd dx [(f, y)])) a (exo a C (some dx)))
structure MkE (P : Program) (w : World) (K : PySem.W.Frag) (mg : Str → Option Value) (base : Heap) (k : Nat) (x f : Str) : Prop where
  ex : ∃ (C fI : Addr) (fd : FuncData) (ps : List Str), mg x = some (.ref C) ∧ OexG K C ∧ ExcC K C ∧ PySem.W.findIn K (.ref C) "__init__" = some (some (.ref fI)) ∧ PySem.W.typeIn K (.ref fI) = some (.type "function") ∧ FnOk P w K mg base CX0 k fI fd ps (spIni K C f) ∧ Binds K fd ps [] ∧ ∀ (s : Shared) (u v : Value), BindsTo s fd ⟨[u], [(f, v)]⟩ (ps.zip [u, v])
section
variable {P : Program} {w : World} {K : PySem.W.Frag} {mg : Str → Option Value} {base : Heap}
theorem mke0 {x q f : Str} {st : Stmt} {N ps : List Str} {k : Nat} (D : Ek K mg x q st) (hp : ps.length = 2)
    (hb : ∀ (kV doc pm : Value) (an : Option Addr) (cdv ct : Value) (us : List Value), us.length = ps.length → bindArgs (PySem.W.fnOf "__init__" q (defArgs st) (defBody st) (defScope st) .none kV doc pm an cdv ct) ⟨us, []⟩ = pure (ps.zip us))
    (hk : ∀ (kV doc pm : Value) (an : Option Addr) (cdv ct u v : Value), bindArgs (PySem.W.fnOf "__init__" q (defArgs st) (defBody st) (defScope st) .none kV doc pm an cdv ct) ⟨[u], [(f, v)]⟩ = pure (ps.zip [u, v]))
    (S : FnScope N ps (defScope st))
    (hbody : ∀ (C f' : Addr) (cdv : Value) (A : Around) (outer : List Env) (s : Shared) (H : Hp) (vs : List V) (Q : VK) (E : XK), OexG K C → mg x = some (.ref C) → Room k (A.deeper (envOfC q (defScope st) s.heap.objs.size f' cdv)) → spIni K C f vs H Q E →
      ∃ t, PSs (cxOf CX0 P w K mg base N q (defScope st) f' cdv A outer s H E).nox (defBody st) t ∧ t { nx := fun _ H' => Q .non H', rt := Q } (start N vs) H) : MkE P w K mg base (k + 1) x f := by
  obtain ⟨C, fI, fd, h1, h2, h3, h4, h5, F⟩ := D.ex
  refine ⟨C, fI, fd, ps, h1, h2, h3, h4, h5, F.ok S (fun vs H Q E h => ?_) (fun cdv A outer s H vs Q E hr h => hbody C fI cdv A outer s H vs Q E h2 h1 hr h), F.binds hb, fun s u v => ?_⟩
  · obtain ⟨a, y, rfl, _⟩ := h
    rw [hp]
    rfl
  · obtain ⟨oc, od, kV, doc, pm, an, cdv, ct, osl, rfl, lk, hcd⟩ := F.ex
    exact .of_eq (hk kV doc pm an cdv ct u v)
end
section
variable {X : Cx}
@[irreducible] def rNew (K : PySem.W.Frag) (mg : Str → Option Value) (x f : Str) (σ : L2.St) (y : V) (H1 : Hp) (Q : VK) : Prop := ∀ C, mg x = some (.ref C) → ExcC K C → (tNil σ H1 fun ys H2 => (y :: ys).length ≤ 1000 ∧ ∀ a, H2 a = none → spIni K C f (.ref a :: (y :: ys)) (upd H2 a (exo a C none)) (fun v H3 => v = .non ∧ Q (.ref a) H3) fun _ _ _ => False)
def tNew (K : PySem.W.Frag) (mg : Str → Option Value) (x f : Str) (te : TE) : TE := fun σ H Q => te σ H fun y H1 => rNew K mg x f σ y H1 Q
theorem pe_new {k j : Nat} {x f : Str} {e : Expr} {te : TE} {p pos : Pos} (c : MkE X.prog X.w X.K X.mg X.base k x f) (hr : Room j X.A) (hk : k + 1 ≤ j) (hg : Gl X x) (ha : PE X e te)
    (hdb : (x == ("__debug__" : Str)) = false := by decide) (he : starEach [e] X.env = (false, eval e X.env) :: starEach [] X.env := by rfl) (hpl : (backTo pos (starEach ([] : List Expr) X.env)).any (·.1) = false := by rfl) :
    PE X (.Call (.Name x p) [e] [] pos) (tNew X.K X.mg x f te) := by
  obtain ⟨C, fI, fd, ps, h1, h2, h3, h4, h5, F, b, _⟩ := c.ex
  have r := pe_oex (pos := pos) (p := p) h2 h4 h5 F (hr.mono hk) b pass0 hg h1 (pa_cons (hs := he) ha pa_nil) hdb he hpl
  constructor
  intro pins s σ H Q I h
  refine r.run pins s σ H Q I ?_
  have e1 : ∀ P : Addr → Prop, (∀ C', X.mg x = some (.ref C') → ExcC X.K C' → P C') = P C := fun P => propext ⟨fun g => g C h1 h3, fun g C' z _ => by rw [cls_eq z h1]; exact g⟩
  unfold tNew rNew at h
  simp only [e1] at h
  exact h
/-- C(e) made: how it stands -/
theorem new_at {K : PySem.W.Frag} {mg : Str → Option Value} {x f : Str} {y : V} {σ : L2.St} {H1 : Hp} {Q : VK} (q : ∀ H' a, Same H1 H' → Ex1 K mg x H' a [(f, y)] → Q (.ref a) H') : rNew K mg x f σ y H1 Q := by
  unfold rNew
  intro C hC T
  refine (show 1 ≤ 1000 ∧ _ from ⟨by decide, fun a ha => ⟨a, y, rfl, upd_same, fun dx hdx hne => ⟨rfl, q _ a (fun b o z => ?_) ⟨C, hC, T, dx, .inl upd_same, .inl ?_⟩⟩⟩⟩)
  · have hb : b ≠ a := fun w => by
      rw [w, ha] at z
      cases z
    have hd : b ≠ dx := fun w => by
      rw [← w, upd_ne hb, z] at hdx
      cases hdx
    rw [upd_ne hb, upd_ne hd, upd_ne hb]
    exact z
  · rw [upd_ne hne, upd_same]
end
end XB
set_option Elab.async false
set_option linter.all false
set_option maxRecDepth 100000
set_option maxHeartbeats 4000000
namespace XB
open PySem PySem.Spec PyProof.Rows L2
def topS (i : Nat) : Stmt := PySem.Challenge.pw_deedpiles_k07_whole_moves.main.body.getD i (.Pass ⟨0, 0, 0, 0⟩)
abbrev s_BadField___init__ : Stmt := inClass (topS 2) 0
theorem sc_BadField___init__ : FnScope ["self", "part"] ["self", "part"] (defScope s_BadField___init__) := ⟨rfl, rfl, rfl, by decide +kernel, rfl, by decide +kernel, by decide +kernel⟩
abbrev s_BadScript___init__ : Stmt := inClass (topS 3) 0
theorem sc_BadScript___init__ : FnScope ["self", "place"] ["self", "place"] (defScope s_BadScript___init__) := ⟨rfl, rfl, rfl, by decide +kernel, rfl, by decide +kernel, by decide +kernel⟩
abbrev s_BadMoves___init__ : Stmt := inClass (topS 4) 0
theorem sc_BadMoves___init__ : FnScope ["self", "place"] ["self", "place"] (defScope s_BadMoves___init__) := ⟨rfl, rfl, rfl, by decide +kernel, rfl, by decide +kernel, by decide +kernel⟩
abbrev s_BadYard___init__ : Stmt := inClass (topS 5) 0
theorem sc_BadYard___init__ : FnScope ["self", "part"] ["self", "part"] (defScope s_BadYard___init__) := ⟨rfl, rfl, rfl, by decide +kernel, rfl, by decide +kernel, by decide +kernel⟩
abbrev s_BadSpot___init__ : Stmt := inClass (topS 6) 0
theorem sc_BadSpot___init__ : FnScope ["self", "value"] ["self", "value"] (defScope s_BadSpot___init__) := ⟨rfl, rfl, rfl, by decide +kernel, rfl, by decide +kernel, by decide +kernel⟩
abbrev s_BadPaper___init__ : Stmt := inClass (topS 7) 0
theorem sc_BadPaper___init__ : FnScope ["self", "word"] ["self", "word"] (defScope s_BadPaper___init__) := ⟨rfl, rfl, rfl, by decide +kernel, rfl, by decide +kernel, by decide +kernel⟩
abbrev s_is_whole : Stmt := topS 9
theorem sc_is_whole : FnScope ["value"] ["value"] (defScope s_is_whole) := ⟨rfl, rfl, rfl, by decide +kernel, rfl, by decide +kernel, by decide +kernel⟩
abbrev s_is_pair : Stmt := topS 10
theorem sc_is_pair : FnScope ["value"] ["value"] (defScope s_is_pair) := ⟨rfl, rfl, rfl, by decide +kernel, rfl, by decide +kernel, by decide +kernel⟩
abbrev s_is_ascending : Stmt := topS 11
theorem sc_is_ascending : FnScope ["items", "one", "other"] ["items"] (defScope s_is_ascending) := ⟨rfl, rfl, rfl, by decide +kernel, rfl, by decide +kernel, by decide +kernel⟩
abbrev s_need_field : Stmt := topS 15
theorem sc_need_field : FnScope ["field", "names", "pairs"] ["field"] (defScope s_need_field) := ⟨rfl, rfl, rfl, by decide +kernel, rfl, by decide +kernel, by decide +kernel⟩
abbrev s_are_apart : Stmt := topS 16
theorem sc_are_apart : FnScope ["pairs", "one", "other"] ["pairs", "one", "other"] (defScope s_are_apart) := ⟨rfl, rfl, rfl, by decide +kernel, rfl, by decide +kernel, by decide +kernel⟩
abbrev s_are_names : Stmt := topS 17
theorem sc_are_names : FnScope ["value", "item"] ["value"] (defScope s_are_names) := ⟨rfl, rfl, rfl, by decide +kernel, rfl, by decide +kernel, by decide +kernel⟩
abbrev s_is_name : Stmt := topS 18
theorem sc_is_name : FnScope ["value", "letter"] ["value"] (defScope s_is_name) := ⟨rfl, rfl, rfl, by decide +kernel, rfl, by decide +kernel, by decide +kernel⟩
abbrev s_are_pairs : Stmt := topS 19
theorem sc_are_pairs : FnScope ["names", "value", "item"] ["names", "value"] (defScope s_are_pairs) := ⟨rfl, rfl, rfl, by decide +kernel, rfl, by decide +kernel, by decide +kernel⟩
abbrev s_is_pair_of : Stmt := topS 20
theorem sc_is_pair_of : FnScope ["names", "value", "one", "other"] ["names", "value"] (defScope s_is_pair_of) := ⟨rfl, rfl, rfl, by decide +kernel, rfl, by decide +kernel, by decide +kernel⟩
abbrev s_need_script : Stmt := topS 24
theorem sc_need_script : FnScope ["field", "deeds", "names", "_", "place", "item"] ["field", "deeds"] (defScope s_need_script) := ⟨rfl, rfl, rfl, by decide +kernel, rfl, by decide +kernel, by decide +kernel⟩
abbrev s_is_step : Stmt := topS 25
theorem sc_is_step : FnScope ["names", "value"] ["names", "value"] (defScope s_is_step) := ⟨rfl, rfl, rfl, by decide +kernel, rfl, by decide +kernel, by decide +kernel⟩
abbrev s_is_great_step : Stmt := topS 26
theorem sc_is_great_step : FnScope ["names", "value", "name", "times"] ["names", "value"] (defScope s_is_great_step) := ⟨rfl, rfl, rfl, by decide +kernel, rfl, by decide +kernel, by decide +kernel⟩
abbrev s_is_times : Stmt := topS 27
theorem sc_is_times : FnScope ["value"] ["value"] (defScope s_is_times) := ⟨rfl, rfl, rfl, by decide +kernel, rfl, by decide +kernel, by decide +kernel⟩
abbrev s_moved : Stmt := topS 31
theorem sc_moved : FnScope ["field", "deeds", "moves", "steps", "place", "move"] ["field", "deeds", "moves"] (defScope s_moved) := ⟨rfl, rfl, rfl, by decide +kernel, rfl, by decide +kernel, by decide +kernel⟩
abbrev s_after_move : Stmt := topS 32
theorem sc_after_move : FnScope ["field", "steps", "move", "made", "word", "at", "what"] ["field", "steps", "move"] (defScope s_after_move) := ⟨rfl, rfl, rfl, by decide +kernel, rfl, by decide +kernel, by decide +kernel⟩
abbrev s_after_change : Stmt := topS 33
theorem sc_after_change : FnScope ["field", "steps", "at", "_", "pairs"] ["field", "steps", "at"] (defScope s_after_change) := ⟨rfl, rfl, rfl, by decide +kernel, rfl, by decide +kernel, by decide +kernel⟩
abbrev s_after_join : Stmt := topS 34
theorem sc_after_join : FnScope ["steps", "at", "name", "times", "both"] ["steps", "at"] (defScope s_after_join) := ⟨rfl, rfl, rfl, by decide +kernel, rfl, by decide +kernel, by decide +kernel⟩
abbrev s_after_part : Stmt := topS 35
theorem sc_after_part : FnScope ["steps", "at", "times", "name", "whole"] ["steps", "at", "times"] (defScope s_after_part) := ⟨rfl, rfl, rfl, by decide +kernel, rfl, by decide +kernel, by decide +kernel⟩
abbrev s_after_put : Stmt := topS 36
theorem sc_after_put : FnScope ["field", "steps", "at", "step", "names", "_", "name", "times"] ["field", "steps", "at", "step"] (defScope s_after_put) := ⟨rfl, rfl, rfl, by decide +kernel, rfl, by decide +kernel, by decide +kernel⟩
abbrev s__law_mixed : Stmt := topS 38
theorem sc__law_mixed : FnScope ["cell", "n", "blend"] ["cell", "n"] (defScope s__law_mixed) := ⟨rfl, rfl, rfl, by decide +kernel, rfl, by decide +kernel, by decide +kernel⟩
abbrev s__law_folded : Stmt := topS 39
theorem sc__law_folded : FnScope ["script", "found", "n", "cell"] ["script"] (defScope s__law_folded) := ⟨rfl, rfl, rfl, by decide +kernel, rfl, by decide +kernel, by decide +kernel⟩
abbrev s__law_draw : Stmt := topS 40
theorem sc__law_draw : FnScope ["m", "limit", "n", "lot", "here", "cell"] ["m", "limit"] (defScope s__law_draw) := ⟨rfl, rfl, rfl, by decide +kernel, rfl, by decide +kernel, by decide +kernel⟩
abbrev s__law_begun : Stmt := topS 41
theorem sc__law_begun : FnScope ["script", "m", "cell"] ["script"] (defScope s__law_begun) := ⟨rfl, rfl, rfl, by decide +kernel, rfl, by decide +kernel, by decide +kernel⟩
abbrev s__law_like : Stmt := topS 42
theorem sc__law_like : FnScope ["heard", "due"] ["heard", "due"] (defScope s__law_like) := ⟨rfl, rfl, rfl, by decide +kernel, rfl, by decide +kernel, by decide +kernel⟩
abbrev s__law_field : Stmt := topS 43
theorem sc__law_field : FnScope ["m", "most", "names", "pairs_so", "chance", "k", "other"] ["m", "most"] (defScope s__law_field) := ⟨rfl, rfl, rfl, by decide +kernel, rfl, by decide +kernel, by decide +kernel⟩
abbrev s__law_script : Stmt := topS 44
theorem sc__law_script : FnScope ["m", "field", "most", "row", "some", "many", "turn"] ["m", "field", "most"] (defScope s__law_script) := ⟨rfl, rfl, rfl, by decide +kernel, rfl, by decide +kernel, by decide +kernel⟩
abbrev s__law_apart : Stmt := topS 45
theorem sc__law_apart : FnScope ["field", "one", "other"] ["field", "one", "other"] (defScope s__law_apart) := ⟨rfl, rfl, rfl, by decide +kernel, rfl, by decide +kernel, by decide +kernel⟩
abbrev s__law_met : Stmt := topS 46
theorem sc__law_met : FnScope ["field", "steps", "k", "name", "other"] ["field", "steps"] (defScope s__law_met) := ⟨rfl, rfl, rfl, by decide +kernel, rfl, by decide +kernel, by decide +kernel⟩
abbrev s__law_pile : Stmt := topS 47
theorem sc__law_pile : FnScope ["field", "steps", "found", "spot", "one", "other", "times", "between"] ["field", "steps"] (defScope s__law_pile) := ⟨rfl, rfl, rfl, by decide +kernel, rfl, by decide +kernel, by decide +kernel⟩
abbrev s__law_first : Stmt := topS 48
theorem sc__law_first : FnScope ["field", "steps", "found", "k", "step"] ["field", "steps"] (defScope s__law_first) := ⟨rfl, rfl, rfl, by decide +kernel, rfl, by decide +kernel, by decide +kernel⟩
abbrev s__law_least : Stmt := topS 49
theorem sc__law_least : FnScope ["field", "steps", "left", "found", "names", "spot", "k"] ["field", "steps"] (defScope s__law_least) := ⟨rfl, rfl, rfl, by decide +kernel, rfl, by decide +kernel, by decide +kernel⟩
abbrev s__law_heard : Stmt := topS 50
theorem sc__law_heard : FnScope ["call", "heard", "error", "e", "kinds_so", "words", "found", "one", "is_so"] ["call"] (defScope s__law_heard) := ⟨rfl, rfl, rfl, by decide +kernel, rfl, by decide +kernel, by decide +kernel⟩
abbrev s__law_moved : Stmt := topS 51
theorem sc__law_moved : FnScope ["field", "steps", "move", "way", "k", "many", "one", "other", "times", "name"] ["field", "steps", "move"] (defScope s__law_moved) := ⟨rfl, rfl, rfl, by decide +kernel, rfl, by decide +kernel, by decide +kernel⟩
abbrev s__law_is_step : Stmt := topS 52
theorem sc__law_is_step : FnScope ["field", "step"] ["field", "step"] (defScope s__law_is_step) := ⟨rfl, rfl, rfl, by decide +kernel, rfl, by decide +kernel, by decide +kernel⟩
abbrev s__law_move : Stmt := topS 53
theorem sc__law_move : FnScope ["m", "field", "steps", "k", "way", "name", "odds"] ["m", "field", "steps"] (defScope s__law_move) := ⟨rfl, rfl, rfl, by decide +kernel, rfl, by decide +kernel, by decide +kernel⟩
abbrev s__law_bounds_right : Stmt := topS 54
theorem sc__law_bounds_right : FnScope ["field", "great", "puts", "heard", "turns"] [] (defScope s__law_bounds_right) := ⟨rfl, rfl, rfl, by decide +kernel, rfl, by decide +kernel, by decide +kernel⟩
abbrev s_law : Stmt := topS 55
theorem sc_law : FnScope ["script", "m", "turn", "field", "row", "moves", "steps", "due", "more", "later", "kept", "heard"] ["script"] (defScope s_law) := ⟨rfl, rfl, rfl, by decide +kernel, rfl, by decide +kernel, by decide +kernel⟩
structure Tx (K : PySem.W.Frag) (mg : Str → Option Value) : Prop where
  c_PileError : ∃ C, mg "PileError" = some (.ref C)
  c_BadField : ∃ C, mg "BadField" = some (.ref C)
  c_BadScript : ∃ C, mg "BadScript" = some (.ref C)
  c_BadMoves : ∃ C, mg "BadMoves" = some (.ref C)
  c_BadYard : ∃ C, mg "BadYard" = some (.ref C)
  c_BadSpot : ∃ C, mg "BadSpot" = some (.ref C)
  c_BadPaper : ∃ C, mg "BadPaper" = some (.ref C)
  e_BadField : Ek K mg "BadField" "BadField.__init__" s_BadField___init__
  e_BadScript : Ek K mg "BadScript" "BadScript.__init__" s_BadScript___init__
  e_BadMoves : Ek K mg "BadMoves" "BadMoves.__init__" s_BadMoves___init__
  n_BadField_part : NoF K mg "BadField" "part"
  n_BadScript_place : NoF K mg "BadScript" "place"
  n_BadMoves_place : NoF K mg "BadMoves" "place"
  x_BadField_PileError : Exm K mg "BadField" "PileError" true
  x_BadScript_PileError : Exm K mg "BadScript" "PileError" true
  x_BadMoves_PileError : Exm K mg "BadMoves" "PileError" true
  i_BadField_BadField : Kit K mg "BadField" "BadField" true
  i_BadField_BadScript : Kit K mg "BadField" "BadScript" false
  i_BadField_BadMoves : Kit K mg "BadField" "BadMoves" false
  i_BadField_BadYard : Kit K mg "BadField" "BadYard" false
  i_BadField_BadSpot : Kit K mg "BadField" "BadSpot" false
  i_BadField_BadPaper : Kit K mg "BadField" "BadPaper" false
  i_BadField_ValueError : KitB K mg "BadField" "ValueError" true
  i_BadScript_BadField : Kit K mg "BadScript" "BadField" false
  i_BadScript_BadScript : Kit K mg "BadScript" "BadScript" true
  i_BadScript_BadMoves : Kit K mg "BadScript" "BadMoves" false
  i_BadScript_BadYard : Kit K mg "BadScript" "BadYard" false
  i_BadScript_BadSpot : Kit K mg "BadScript" "BadSpot" false
  i_BadScript_BadPaper : Kit K mg "BadScript" "BadPaper" false
  i_BadScript_ValueError : KitB K mg "BadScript" "ValueError" true
  i_BadMoves_BadField : Kit K mg "BadMoves" "BadField" false
  i_BadMoves_BadScript : Kit K mg "BadMoves" "BadScript" false
  i_BadMoves_BadMoves : Kit K mg "BadMoves" "BadMoves" true
  i_BadMoves_BadYard : Kit K mg "BadMoves" "BadYard" false
  i_BadMoves_BadSpot : Kit K mg "BadMoves" "BadSpot" false
  i_BadMoves_BadPaper : Kit K mg "BadMoves" "BadPaper" false
  i_BadMoves_ValueError : KitB K mg "BadMoves" "ValueError" true
  b_ValueError : mg "ValueError" = none
  b_abs : mg "abs" = none
  b_all : mg "all" = none
  b_bool : mg "bool" = none
  b_enumerate : mg "enumerate" = none
  b_int : mg "int" = none
  b_isinstance : mg "isinstance" = none
  b_len : mg "len" = none
  b_list : mg "list" = none
  b_max : mg "max" = none
  b_min : mg "min" = none
  b_range : mg "range" = none
  b_repr : mg "repr" = none
  b_sorted : mg "sorted" = none
  b_str : mg "str" = none
  b_tuple : mg "tuple" = none
  b_zip : mg "zip" = none
  g_MOST_NAMES : ∃ t, mg "MOST_NAMES" = some (.int (6) t)
  g_MOST_LETTERS : ∃ t, mg "MOST_LETTERS" = some (.int (6) t)
  g_MOST_STEPS : ∃ t, mg "MOST_STEPS" = some (.int (60) t)
  g_MOST_TIMES : ∃ t, mg "MOST_TIMES" = some (.int (10 ^ 30) t)
  g_MOST_MOVES : ∃ t, mg "MOST_MOVES" = some (.int (5000) t)
  g_MOST_MOVED_STEPS : ∃ t, mg "MOST_MOVED_STEPS" = some (.int (400) t)
  d_is_whole : Dn K mg "is_whole" s_is_whole
  d_is_pair : Dn K mg "is_pair" s_is_pair
  d_is_ascending : Dn K mg "is_ascending" s_is_ascending
  d_need_field : Dn K mg "need_field" s_need_field
  d_are_apart : Dn K mg "are_apart" s_are_apart
  d_are_names : Dn K mg "are_names" s_are_names
  d_is_name : Dn K mg "is_name" s_is_name
  d_are_pairs : Dn K mg "are_pairs" s_are_pairs
  d_is_pair_of : Dn K mg "is_pair_of" s_is_pair_of
  d_need_script : Dn K mg "need_script" s_need_script
  d_is_step : Dn K mg "is_step" s_is_step
  d_is_great_step : Dn K mg "is_great_step" s_is_great_step
  d_is_times : Dn K mg "is_times" s_is_times
  d_moved : Dn K mg "moved" s_moved
  d_after_move : Dn K mg "after_move" s_after_move
  d_after_change : Dn K mg "after_change" s_after_change
  d_after_join : Dn K mg "after_join" s_after_join
  d_after_part : Dn K mg "after_part" s_after_part
  d_after_put : Dn K mg "after_put" s_after_put
  d__law_mixed : Dn K mg "_law_mixed" s__law_mixed
  d__law_folded : Dn K mg "_law_folded" s__law_folded
  d__law_draw : Dn K mg "_law_draw" s__law_draw
  d__law_begun : Dn K mg "_law_begun" s__law_begun
  d__law_like : Dn K mg "_law_like" s__law_like
  d__law_field : Dn K mg "_law_field" s__law_field
  d__law_script : Dn K mg "_law_script" s__law_script
  d__law_apart : Dn K mg "_law_apart" s__law_apart
  d__law_met : Dn K mg "_law_met" s__law_met
  d__law_pile : Dn K mg "_law_pile" s__law_pile
  d__law_first : Dn K mg "_law_first" s__law_first
  d__law_least : Dn K mg "_law_least" s__law_least
  d__law_heard : Dn K mg "_law_heard" s__law_heard
  d__law_moved : Dn K mg "_law_moved" s__law_moved
  d__law_is_step : Dn K mg "_law_is_step" s__law_is_step
  d__law_move : Dn K mg "_law_move" s__law_move
  d__law_bounds_right : Dn K mg "_law_bounds_right" s__law_bounds_right
  d_law : Dn K mg "law" s_law
end XB
set_option Elab.async false
set_option linter.all false
set_option maxRecDepth 100000
set_option maxHeartbeats 4000000
namespace XB
open PySem PySem.Spec PyProof.Rows L2
section
variable {P : Program} {w : World} {K : PySem.W.Frag} {mg : Str → Option Value} {base : Heap}
def spMixed : Sp := fun vs H Q _ => ∃ c n : Int, vs = [.int c, .int n] ∧ 0 ≤ c ∧ c < 1099511627776 ∧ 0 ≤ n ∧ n < 1099511627776 ∧ ∀ r : Int, 0 ≤ r → r < 1099511627 → Q (.int r) H
theorem c_mixed (T : Tx K mg) : Cl P w K mg base CX0 1 "_law_mixed" spMixed := by
  refine cl0 T.d__law_mixed (ps := ["cell", "n"]) (fun _ _ _ _ _ _ us hl => match us, hl with | [_, _], _ => rfl) sc__law_mixed (fun vs H Q E h => ?_) (fun f cdv A outer s H vs Q E hr h => ?_)
  · obtain ⟨c, n, rfl, _⟩ := h
    rfl
  · obtain ⟨c, n, rfl, c0, c1, n0, n1, q⟩ := h
    have nd := sc__law_mixed.nd
    refine ⟨_, pss_cons (ps_set (i := 2) nd rfl (.inl rfl) (pe_op op_add (pe_op op_add
        (pe_op op_mod (pe_callTy call_int1 (by rfl) T.b_int (by decide +kernel) (pa_cons (pe_op op_mul (pe_op op_mul (pv 0) (pe_op op_add pe_int (pe_op op_mul pe_int (pv 1)))) pe_int) pa_nil)) pe_int)
        (pe_op op_mul (pe_op op_mul pe_int (pv 1)) (pv 1))) (pe_op op_mul pe_int (pv 1))))
      (pss_one (ps_ret (pe_op op_fdiv (pe_op op_mod (pe_callTy call_int1 (by rfl) T.b_int (by decide +kernel) (pa_cons (pe_op op_mul (pv 2) pe_int) pa_nil)) pe_int) pe_int))), ?_⟩
    refine ⟨_, rfl, _, rfl, _, _, rfl, rfl, .inl (by constructor <;> omega), _, _, rfl, rfl, _, _, rfl, rfl, .inl (by constructor <;> omega), ?_⟩
    refine ⟨_, _, rfl, rfl, .inr (by decide), .inl ⟨_, rfl, ?_⟩⟩
    refine ⟨_, _, rfl, rfl, (show (0 : Int) < 2147483647 by decide), ?_⟩
    refine ⟨_, rfl, _, _, rfl, rfl, .inl (by decide), _, rfl, _, _, rfl, rfl, .inl (by constructor <;> omega), ?_⟩
    refine ⟨_, _, rfl, rfl, _, rfl, _, _, rfl, rfl, .inl (by decide), _, _, rfl, rfl, ?_⟩
    refine ⟨_, rfl, _, _, rfl, rfl, .inr (by decide), .inl ⟨_, rfl, ?_⟩⟩
    refine ⟨_, _, rfl, rfl, (show (0 : Int) < 2147483629 by decide), _, _, rfl, rfl, ⟨by decide, by decide⟩, ?_⟩
    refine q _ ?_ ?_
    · exact Int.ediv_nonneg (Int.emod_nonneg _ (by decide)) (by decide)
    · have h1 := Int.emod_lt_of_pos (c * (1 + 2 * n) * 48271 % 2147483647 + 7919 * n * n + 104729 * n) (b := 2147483629) (by decide)
      generalize (c * (1 + 2 * n) * 48271 % 2147483647 + 7919 * n * n + 104729 * n) = z
      have h1 := Int.emod_lt_of_pos (z * 69621) (b := 2147483629) (by decide)
      generalize (z * 69621) % 2147483629 = y at h1 ⊢
      show y / 7 < 1099511627
      omega
/-- what a row of numbers is that draws come from -/
structure Good (xs : List Int) : Prop where
  len : xs.length = 64
  bd : ∀ v ∈ xs, 0 ≤ v ∧ v < 2147483647
theorem Good.set {xs : List Int} (g : Good xs) (k : Nat) (z : Int) : Good (xs.set k (z % 2147483647)) := by
  refine ⟨by rw [List.length_set]; exact g.len, fun v hv => ?_⟩
  rcases List.mem_or_eq_of_mem_set hv with h | h
  · exact g.bd v h
  · rw [h]
    exact ⟨Int.emod_nonneg _ (by decide), Int.emod_lt_of_pos _ (by decide)⟩
theorem Good.at (xs : List Int) (g : Good xs) {k : Nat} (h : k < 64) : ∃ v, xs[k]? = some v ∧ 0 ≤ v ∧ v < 2147483647 := by
  have h' : k < xs.length := by rw [g.len]; exact h
  exact ⟨xs[k], List.getElem?_eq_getElem h', g.bd _ (List.getElem_mem h')⟩
theorem mod_nat {z : Int} : ∃ k : Nat, z % 64 = (k : Int) ∧ k < 64 := by
  have h0 := Int.emod_nonneg z (b := 64) (by decide)
  have h1 := Int.emod_lt_of_pos z (b := 64) (by decide)
  exact ⟨(z % 64).toNat, by omega, by omega⟩
def spFolded (K : PySem.W.Frag) : Sp := fun vs H Q _ => ∃ (a : Addr) (ns : List Int), vs = [.ref a] ∧ SqL K H a (ns.map V.int) ∧ ns.length ≤ 1000 ∧
  ∀ H' p xs, Same H H' → H p = none → H' p = some (.lst (xs.map V.int)) → Good xs → Q (.ref p) H'
theorem c_folded (T : Tx K mg) : Cl P w K mg base CX0 1 "_law_folded" (spFolded K) := by
  refine cl0 T.d__law_folded (ps := ["script"]) (fun _ _ _ _ _ _ us hl => match us, hl with | [_], _ => rfl) sc__law_folded (fun vs H Q E h => ?_) (fun f cdv A outer s H vs Q E hr h => ?_)
  · obtain ⟨a, ns, rfl, _⟩ := h
    rfl
  · obtain ⟨a, ns, rfl, hS, hlen, q⟩ := h
    have nd := sc__law_folded.nd
    refine ⟨_, pss_cons (ps_setLc (i := 1) (own := [("n", 2)]) (g := gName 2) (tt := tYes) rfl nd rfl rfl (sw_true rfl rfl rfl (by decide +kernel)) (pi_range1 (by rfl) T.b_range (pa_cons pe_int pa_nil)) (blkOk_by (own := [("n", 2)]) (N := ["script", "found", "n", "cell"]) (sc := defScope s__law_folded) (by decide +kernel))
          (fun _ _ _ _ _ => pg_name (i := 2) nd rfl (Or.inl rfl)) (fun _ _ _ _ _ => pts_nil) (fun _ _ _ _ _ => pe_op op_add pe_int (pv 2)))
      (pss_cons (ps_for PassesOwn.never rfl (pi_enum (by rfl) T.b_enumerate (pa_cons (pv 0) pa_nil)) (pg_tup rfl (pgs_cons (pg_name (i := 2) nd rfl (.inl rfl)) (pgs_cons (pg_name (i := 3) nd rfl (.inl rfl)) pgs_nil)))
        (pss_one (ps_asg (pe_op op_mod (pe_callTy call_int1 (by rfl) T.b_int (by decide +kernel) (pa_cons (pe_op op_add (pe_op op_mul (pe_ix ix_list (pv 1) (pe_op op_mod (pe_callTy call_int1 (by rfl) T.b_int (by decide +kernel) (pa_cons (pv 2) pa_nil)) pe_int) (fun _ _ => rfl)) pe_int) (pv 3)) pa_nil)) pe_int)
          (pg_sub (pv 1) (pe_op op_mod (pe_callTy call_int1 (by rfl) T.b_int (by decide +kernel) (pa_cons (pv 2) pa_nil)) pe_int) set_list))))
      (pss_cons (ps_for PassesOwn.never rfl (pi_range2 (by rfl) T.b_range (pa_cons pe_int (pa_cons pe_int pa_nil))) (pg_name (i := 2) nd rfl (.inl rfl))
        (pss_one (ps_asg (pe_op op_mod (pe_callTy call_int1 (by rfl) T.b_int (by decide +kernel) (pa_cons (pe_op op_add (pe_ix ix_list (pv 1) (pv 2) (fun _ _ => rfl)) (pe_op op_mul (pe_ix ix_list (pv 1) (pe_op op_sub (pv 2) pe_int) (fun _ _ => rfl)) pe_int)) pa_nil)) pe_int)
          (pg_sub (pv 1) (pv 2) set_list))))
      (pss_one (ps_ret (pv 1))))), ?_⟩
    refine ⟨64, rfl, by decide, by decide, fun D hD => ?_⟩
    refine lc_range (lo := 0) (n := 64) (fun i H' => ∃ acc : List Int, H' D = some (.lst (acc.map V.int)) ∧ acc.length = i ∧ (∀ v ∈ acc, 0 ≤ v ∧ v < 2147483647) ∧ Same H H')
      ⟨[], upd_same, rfl, (fun _ h => nomatch h), same_upd hD⟩ (fun i H' hi ⟨acc, eD, el, eb, sm⟩ => ?_) (fun H' ⟨acc, eD, el, eb, sm⟩ => ?_)
    · refine ⟨rfl, yes_ ?_⟩
      refine ⟨_, rfl, _, _, rfl, rfl, _, eD, by rw [List.length_map]; exact small1000 (by omega), acc ++ [17 + (0 + (i : Int))], ?_, by rw [List.length_append, el]; rfl, fun v hv => ?_, same_put sm hD⟩
      · rw [upd_same, List.map_append]
        rfl
      · rcases List.mem_append.mp hv with h | h
        · exact eb v h
        · rw [List.mem_singleton.mp h]
          omega
    · refine ⟨_, rfl, a, ns.map V.int, rfl, sm.seq hS, for_it (walk_enum (xs := ns.map V.int)) (fun i σ H2 => ∃ (xs : List Int) (y2 y3 : Option V), σ = [some (.ref a), some (.ref D), y2, y3] ∧ Same H H2 ∧ H2 D = some (.lst (xs.map V.int)) ∧ Good xs)
        ⟨acc, none, none, rfl, sm, eD, ⟨el, eb⟩⟩ (fun i σ H2 _ ⟨xs, y2, y3, _, s2, _⟩ => s2.seq hS) (fun i x σ H2 H3 hi ⟨xs, y2, y3, eσ, s2, e2, g⟩ hy => ?_) (fun σ H2 ⟨xs, y2, y3, eσ, s2, e2, g⟩ => ?_)⟩
      · obtain ⟨Tt, x1, x2, rfl, nT, rfl, f1, f2⟩ := hy
        subst eσ
        obtain ⟨k, hk, k64⟩ := mod_nat (z := (i : Int))
        obtain ⟨v, hv, v0, v1⟩ := g.at xs k64
        have e1 : x1 = V.int (i : Int) := (Option.some.inj f1).symm
        obtain ⟨z, _, rfl⟩ := int_at f2
        subst e1
        have nDT : D ≠ Tt := ne_of_none e2 nT
        have e3 : upd H2 Tt (.tup [.int (i : Int), .int z]) D = some (.lst (xs.map V.int)) := by
          rw [upd_ne nDT]
          exact e2
        refine ⟨Tt, _, rfl, SqT.of upd_same, rfl, _, _, rfl, _, _, rfl, rfl, ?_⟩
        refine ⟨_, rfl, _, rfl, .inl ⟨_, rfl, _, _, rfl, rfl, (show (0 : Int) < 64 by decide), _, _, _, _, rfl, rfl, SqL.of e3, atI_of hk hv, ?_⟩⟩
        refine ⟨_, _, rfl, rfl, .inr (by decide), _, rfl, _, _, rfl, rfl, .inl ⟨_, rfl, _, _, rfl, rfl, (show (0 : Int) < 2147483647 by decide), ?_⟩⟩
        refine ⟨_, rfl, _, rfl, .inl ⟨_, rfl, _, _, rfl, rfl, (show (0 : Int) < 64 by decide), _, _, _, k, rfl, rfl, e3, ?_, ?_⟩⟩
        · rw [List.length_map, g.len]
          exact ixN_of hk k64
        · refine ⟨_, _, _, rfl, same_put (same_new s2 nT) hD, by rw [upd_same, map_set], g.set k _⟩
      · subst eσ
        refine ⟨1, 64, rfl, by decide, for_range (lo := 1) (n := 63) (fun i σ H3 => ∃ (xs : List Int) (y2 y3 : Option V), σ = [some (.ref a), some (.ref D), y2, y3] ∧ Same H H3 ∧ H3 D = some (.lst (xs.map V.int)) ∧ Good xs)
          ⟨xs, y2, y3, rfl, s2, e2, g⟩ (fun i σ H3 hi ⟨xs, y2, y3, eσ, s3, e3, g⟩ => ?_) (fun σ H3 ⟨xs, y2, y3, eσ, s3, e3, g⟩ => ?_)⟩
        · subst eσ
          obtain ⟨v, hv, v0, v1⟩ := g.at xs (k := i + 1) (by omega)
          obtain ⟨u, hu, u0, u1⟩ := g.at xs (k := i) (by omega)
          refine ⟨_, rfl, _, rfl, _, _, _, _, rfl, rfl, SqL.of e3, atI_of (k := i + 1) (by omega) hv, ?_⟩
          refine ⟨_, rfl, _, rfl, _, _, rfl, rfl, _, _, _, _, rfl, rfl, SqL.of e3, atI_of (k := i) (by omega) hu, ?_⟩
          refine ⟨_, _, rfl, rfl, .inr (by decide), _, _, rfl, rfl, .inl ⟨_, rfl, _, _, rfl, rfl, (show (0 : Int) < 2147483647 by decide), ?_⟩⟩
          refine ⟨_, rfl, _, rfl, _, _, _, i + 1, rfl, rfl, e3, ?_, ?_⟩
          · rw [List.length_map, g.len]
            exact ixN_of (by omega) (by omega)
          · exact ⟨_, _, _, rfl, same_put s3 hD, by rw [upd_same, map_set], g.set _ _⟩
        · subst eσ
          exact ⟨_, rfl, q _ _ _ s3 hD e3 g⟩
end
end XB
set_option Elab.async false
set_option linter.all false
set_option maxRecDepth 100000
set_option maxHeartbeats 4000000
namespace XB
open PySem PySem.Spec PyProof.Rows L2
/-! ### the draws' state: a dict of two rows and a number -/
abbrev kCells : Key := .inr "cells"
abbrev kGreat : Key := .inr "great"
abbrev kSpot : Key := .inr "spot"
def drawn (c g : Addr) (s : Int) : List (Key × V) := [(kCells, .ref c), (kGreat, .ref g), (kSpot, .int s)]
theorem drawn_spot (c g : Addr) (s : Int) : valV (drawn c g s) kSpot = some (.int s) := by rfl
theorem drawn_great (c g : Addr) (s : Int) : valV (drawn c g s) kGreat = some (.ref g) := by rfl
theorem drawn_cells (c g : Addr) (s : Int) : valV (drawn c g s) kCells = some (.ref c) := by rfl
theorem drawn_put (c g : Addr) (s z : Int) : putK (drawn c g s) kSpot (.int z) = drawn c g z := by rfl
structure Dr (H : Hp) (m c g : Addr) (s : Int) : Prop where
  ex : ∃ cs gs : List Int, H m = some (.dK (drawn c g s)) ∧ H c = some (.lst (cs.map V.int)) ∧ H g = some (.lst (gs.map V.int)) ∧ Good cs ∧ gs.length ≤ 1000
  ne : c ≠ g
  s0 : 0 ≤ s
/-- all but the draws' state stands -/
def Kp (m g : Addr) (H H' : Hp) : Prop := ∀ b o, b ≠ m → b ≠ g → H b = some o → H' b = some o
theorem Kp.refl {m g : Addr} {H : Hp} : Kp m g H H := fun _ _ _ _ e => e
theorem Kp.trans {m g : Addr} {H H1 H2 : Hp} (a : Kp m g H H1) (b : Kp m g H1 H2) : Kp m g H H2 := fun x o h1 h2 e => b x o h1 h2 (a x o h1 h2 e)
theorem Kp.of {m g : Addr} {H H1 : Hp} (a : Same H H1) : Kp m g H H1 := fun x o _ _ e => a x o e
theorem Kp.putM {m g : Addr} {H H1 : Hp} {o : HO} (a : Kp m g H H1) : Kp m g H (upd H1 m o) := fun x u h1 h2 e => by
  rw [upd_ne h1]
  exact a x u h1 h2 e
theorem Kp.putG {m g : Addr} {H H1 : Hp} {o : HO} (a : Kp m g H H1) : Kp m g H (upd H1 g o) := fun x u h1 h2 e => by
  rw [upd_ne h2]
  exact a x u h1 h2 e
theorem Kp.new {m g p : Addr} {H H1 : Hp} {o : HO} (a : Kp m g H H1) (hp : H1 p = none) : Kp m g H (upd H1 p o) := fun x u h1 h2 e => by
  rw [upd_ne (ne_of_none (a x u h1 h2 e) hp)]
  exact a x u h1 h2 e
theorem dpInts {K : PySem.W.Frag} {H : Hp} : ∀ gs : List Int, DpAll K H (gs.map V.int) (gs.map PyData.int)
  | [] => .nil
  | x :: r => .cons (.int x) (dpInts r)
theorem layInts : ∀ gs : List Int, PyData.canLayAll0 (gs.map PyData.int) = true
  | [] => rfl
  | x :: r => by
    show (PyData.canLay0 (.int x) && PyData.canLayAll0 (r.map PyData.int)) = true
    rw [layInts r]
    rfl
theorem deepInts : ∀ gs : List Int, PyData.depthAll (gs.map PyData.int) = 0
  | [] => rfl
  | x :: r => by
    show max (PyData.depth (.int x)) (PyData.depthAll (r.map PyData.int)) = 0
    rw [deepInts r]
    rfl
theorem shInts (gs : List Int) : SeqAt.shaped (.list (gs.map PyData.int)) = true := by
  show (PyData.canLayAll0 (gs.map PyData.int) && decide (PyData.depthAll (gs.map PyData.int) + 1 ≤ 64)) = true
  rw [layInts, deepInts]
  rfl
theorem neInts (gs : List Int) : PyData.eqv (.list (gs.map .int)) (.list []) = gs.isEmpty := by
  cases gs <;> rfl
section
variable {P : Program} {w : World} {K : PySem.W.Frag} {mg : Str → Option Value} {base : Heap}
def spDraw : Sp := fun vs H Q _ => ∃ (m c g : Addr) (s lim : Int), vs = [.ref m, .int lim] ∧ Dr H m c g s ∧ 0 < lim ∧ lim < 1073741824 ∧ s < 1073741824 ∧
  ∀ r H', 0 ≤ r → r < lim → Dr H' m c g (s + 1) → Kp m g H H' → Q (.int r) H'
theorem c_draw (T : Tx K mg) : Cl P w K mg base CX0 2 "_law_draw" spDraw := by
  refine cl0 T.d__law_draw (ps := ["m", "limit"]) (fun _ _ _ _ _ _ us hl => match us, hl with | [_, _], _ => rfl) sc__law_draw (fun vs H Q E h => ?_) (fun f cdv A outer st H vs Q E hr h => ?_)
  · obtain ⟨m, c, g, s, lim, rfl, _⟩ := h
    rfl
  · obtain ⟨m, c, g, s, lim, rfl, D, l0, l1, s1, q⟩ := h
    obtain ⟨⟨cs, gs, em, ec, eg, gc, gl⟩, ncg, s0⟩ := D
    have nd := sc__law_draw.nd
    have hu := hu_of hr
    refine ⟨_, pss_cons (ps_set (i := 2) nd rfl (.inl rfl) (pe_dget hu (pv 0) pe_str (fun _ _ => rfl)))
      (pss_cons (ps_dput hu (pv 0) pe_str (pe_op op_add (pv 2) pe_int) rfl)
      (C8.pss_cut (ps_if (pt_cmpR (op_neD hr.units) (pe_dget hu (pv 0) pe_str (fun _ _ => rfl)) (pe_lst pa_nil) (nomark _))
        (pss_cons (ps_set (i := 3) nd rfl (.inl rfl) (pe_dget hu (pv 0) pe_str (fun _ _ => rfl)))
        (pss_cons (ps_set (i := 4) nd rfl (.inl rfl) (pe_op op_mod (pe_callTy call_int1 (by rfl) T.b_int (by decide +kernel) (pa_cons (pv 2) pa_nil)) (pe_callB call_len_seq (by rfl) T.b_len PySem.boot_len (pa_cons (pv 3) pa_nil))))
        (pss_cons (ps_set (i := 5) nd rfl (.inl rfl) (pe_ix ix_list (pv 3) (pv 4) (fun _ _ => rfl)))
        (pss_one (ps_if (pt_cmpR op_gt (pv 5) pe_int (nomark _))
          (pss_cons (ps_asg (pe_op op_fdivW (pv 5) (pv 1)) (pg_sub (pv 3) (pv 4) set_list))
          (pss_one (ps_ret (pe_op op_mod (pe_callTy call_int1 (by rfl) T.b_int (by decide +kernel) (pa_cons (pv 5) pa_nil)) (pv 1))))) pss_nil)))))
        pss_nil)
      (pss_cons (ps_set (i := 3) nd rfl (.inl rfl) (pe_dget hu (pv 0) pe_str (fun _ _ => rfl)))
      (pss_one (ps_ret (pe_op op_mod (pe_callTy call_int1 (by rfl) T.b_int (by decide +kernel) (pa_cons
        (pe_k (c_mixed T) hr (by decide) (by rfl) (pa_cons
          (pe_k (c_mixed T) hr (by decide) (by rfl) (pa_cons (pe_op op_add (pe_ix ix_list (pv 3) (pe_op op_mod (pe_callTy call_int1 (by rfl) T.b_int (by decide +kernel) (pa_cons (pv 2) pa_nil)) pe_int) (fun _ _ => rfl)) (pe_op op_mul pe_int (pe_op op_fdiv (pv 2) pe_int))) (pa_cons (pv 2) pa_nil)))
          (pa_cons (pe_op op_add (pv 2) pe_int) pa_nil))) pa_nil)) (pv 1))))))), ?_⟩
    have nmc : m ≠ c := ne_of em ec (by intro z; cases z)
    have nmg : m ≠ g := ne_of em eg (by intro z; cases z)
    refine ⟨_, rfl, m, _, rfl, DGet.k (k := kSpot) em, ?_⟩
    refine ⟨_, rfl, _, _, rfl, rfl, _, rfl, m, _, rfl, DPut.k (k := kSpot) em (by show 3 < sizeLine; decide), ?_⟩
    have em1 : upd H m (.dK (putK (drawn c g s) kSpot (.int (s + 1)))) m = some (.dK (drawn c g (s + 1))) := upd_same
    generalize hH1 : upd H m (.dK (putK (drawn c g s) kSpot (.int (s + 1)))) = H1 at em1
    have ec1 : H1 c = some (.lst (cs.map V.int)) := by
      rw [← hH1, upd_ne nmc.symm]
      exact ec
    have eg1 : H1 g = some (.lst (gs.map V.int)) := by
      rw [← hH1, upd_ne nmg.symm]
      exact eg
    have k1 : Kp m g H H1 := by
      rw [← hH1]
      exact Kp.refl.putM
    refine ⟨fun σ H' => ∃ y3 y4 y5, σ = [some (.ref m), some (.int lim), some (.int s), y3, y4, y5] ∧ Dr H' m c g (s + 1) ∧ Kp m g H H', ?_, ?_⟩
    · refine ⟨_, rfl, m, _, rfl, DGet.k (k := kGreat) em1, Nat.zero_le _, fun p hp => ?_⟩
      have em2 := (same_upd (o := .lst []) hp) m _ em1
      have ec2 := (same_upd (o := .lst []) hp) c _ ec1
      have eg2 := (same_upd (o := .lst []) hp) g _ eg1
      have k2 : Kp m g H (upd H1 p (.lst [])) := k1.new hp
      have ep2 : upd H1 p (.lst []) p = some (.lst []) := upd_same
      generalize upd H1 p (.lst []) = H2 at em2 ec2 eg2 k2 ep2 ⊢
      refine ⟨.list (gs.map .int), .list [], .lst (SqL.of eg2) (dpInts gs), .lst (SqL.of ep2) .nil, shInts gs, rfl, _, rfl, ?_⟩
      refine ite2 (fun hne => ?_) (fun _ => ⟨_, _, _, rfl, ⟨⟨cs, gs, em2, ec2, eg2, gc, gl⟩, ncg, by omega⟩, k2⟩)
      have hpos : 0 < gs.length := by
        rw [neInts] at hne
        cases gs with
        | nil => exact absurd hne (by decide)
        | cons _ _ => exact Nat.succ_pos _
      refine ⟨_, rfl, m, _, rfl, DGet.k (k := kGreat) em2, ?_⟩
      refine ⟨_, rfl, .inl ⟨_, rfl, _, rfl, g, _, rfl, .inl (SqL.of eg2), _, _, rfl, rfl, ?_, ?_⟩⟩
      · show (0 : Int) < ((gs.map V.int).length : Int)
        rw [List.length_map]
        omega
      have h0 := Int.emod_nonneg s (b := ((gs.map V.int).length : Int)) (by rw [List.length_map]; omega)
      have h1 := Int.emod_lt_of_pos s (b := ((gs.map V.int).length : Int)) (by rw [List.length_map]; omega)
      rw [List.length_map] at h0 h1
      obtain ⟨k, hk⟩ : ∃ k : Nat, s % (gs.length : Int) = (k : Int) := ⟨(s % (gs.length : Int)).toNat, by omega⟩
      have hkl : k < gs.length := by omega
      have hk' : s % ((gs.map V.int).length : Int) = (k : Int) := by
        rw [List.length_map]
        exact hk
      refine ⟨_, rfl, _, rfl, _, _, _, _, rfl, rfl, SqL.of eg2, atI_of hk' (List.getElem?_eq_getElem hkl), ?_⟩
      refine ⟨_, rfl, _, _, rfl, rfl, _, rfl, ?_⟩
      refine ite2 (fun hp => ?_) (fun _ => ⟨_, _, _, rfl, ⟨⟨cs, gs, em2, ec2, eg2, gc, gl⟩, ncg, by omega⟩, k2⟩)
      refine ⟨_, rfl, _, rfl, _, _, rfl, rfl, wide_div l0 (b := 31) (by omega) (by decide) (by decide), ?_⟩
      refine ⟨_, rfl, _, rfl, _, _, _, k, rfl, rfl, eg2, ixN_of hk' (by rw [List.length_map]; exact hkl), ?_⟩
      refine ⟨_, rfl, .inl ⟨_, rfl, _, rfl, _, _, rfl, rfl, l0, ?_⟩⟩
      refine q _ _ (Int.emod_nonneg _ (by omega)) (Int.emod_lt_of_pos _ l0) ⟨⟨cs, _, ?_, ?_, by rw [upd_same, map_set], gc, by rw [List.length_set]; exact gl⟩, ncg, by omega⟩ k2.putG
      · rw [upd_ne nmg]
        exact em2
      · rw [upd_ne ncg]
        exact ec2
    · rintro σ H3 ⟨y3, y4, y5, rfl, ⟨⟨cs, gs, em3, ec3, eg3, gc3, gl3⟩, _, _⟩, k3⟩
      obtain ⟨k, hk, k64⟩ := mod_nat (z := s)
      obtain ⟨v, hv, v0, v1⟩ := gc3.at cs k64
      refine ⟨_, rfl, m, _, rfl, DGet.k (k := kCells) em3, ?_⟩
      refine ⟨_, rfl, _, rfl, .inl ⟨_, rfl, _, _, rfl, rfl, (show (0 : Int) < 64 by decide), _, _, _, _, rfl, rfl, SqL.of ec3, atI_of hk hv, ?_⟩⟩
      refine ⟨_, rfl, _, _, rfl, rfl, ⟨by decide, by decide⟩, _, _, rfl, rfl, .inl (by decide), _, _, rfl, rfl, ?_⟩
      refine ⟨_, rfl, _, _, rfl, by omega, by omega, s0, by omega, fun r1 a0 a1 => ?_⟩
      refine ⟨_, rfl, _, _, rfl, rfl, _, _, rfl, a0, by omega, by omega, by omega, fun r2 b0 b1 => ?_⟩
      refine .inl ⟨_, rfl, _, rfl, _, _, rfl, rfl, l0, ?_⟩
      exact q _ _ (Int.emod_nonneg _ (by omega)) (Int.emod_lt_of_pos _ l0) ⟨⟨cs, gs, em3, ec3, eg3, gc3, gl3⟩, ncg, by omega⟩ k3
end
end XB
set_option Elab.async false
set_option linter.all false
set_option maxRecDepth 100000
set_option maxHeartbeats 4000000
namespace XB
open PySem PySem.Spec PyProof.Rows L2
section
variable {P : Program} {w : World} {K : PySem.W.Frag} {mg : Str → Option Value} {base : Heap}
def spBegun (K : PySem.W.Frag) : Sp := fun vs H Q _ => ∃ (a : Addr) (ns : List Int), vs = [.ref a] ∧ SqL K H a (ns.map V.int) ∧ ns.length ≤ 1000 ∧
  ∀ H' m c g, Same H H' → H m = none → H c = none → H g = none → Dr H' m c g 0 → Q (.ref m) H'
theorem c_begun (T : Tx K mg) : Cl P w K mg base CX0 2 "_law_begun" (spBegun K) := by
  refine cl0 T.d__law_begun (ps := ["script"]) (fun _ _ _ _ _ _ us hl => match us, hl with | [_], _ => rfl) sc__law_begun (fun vs H Q E h => ?_) (fun f cdv A outer st H vs Q E hr h => ?_)
  · obtain ⟨a, ns, rfl, _⟩ := h
    rfl
  · obtain ⟨a, ns, rfl, hS, hlen, q⟩ := h
    have nd := sc__law_begun.nd
    have hu := hu_of hr
    refine ⟨_, pss_cons (ps_set (i := 1) nd rfl (.inl rfl) (pe_disp (pps_cons pe_str (pe_k (c_folded T) hr (by decide) (by rfl) (pa_cons (pv 0) pa_nil)) (pps_cons pe_str (pe_lst pa_nil) (pps_cons pe_str pe_int pps_nil))) (by rfl) (by rfl) (fun z => by cases z) (by decide)))
      (pss_cons (ps_dput hu (pv 1) pe_str (pe_lc (own := [("cell", 2)]) (g := gName 2) (tt := tYes) (by rfl) nd (pi_list (pv 0)) (blkOk_by (own := [("cell", 2)]) (N := ["script", "m", "cell"]) (sc := defScope s__law_begun) (by decide +kernel))
          (fun _ _ _ _ _ => pg_name (i := 2) nd rfl (Or.inl rfl)) (fun _ _ _ _ _ => pts_nil) (fun _ _ _ _ _ => pe_ifExp (pt_cmpR op_ge (pv 2) (pe_op op_pow pe_int pe_int) (nomark _)) (pv 2) pe_int)) rfl)
      (pss_one (ps_ret (pv 1)))), ?_⟩
    refine fun m hm => ?_
    have s1 : Same H (upd H m (.dK [])) := same_upd hm
    refine ⟨_, rfl, a, ns, rfl, s1.seq hS, hlen, fun H1 c cs sm nc ec gc => ?_⟩
    have hc0 : H c = none := s1.free nc
    have nmc : m ≠ c := fun e => by
      rw [← e, upd_same] at nc
      cases nc
    have em1 : H1 m = some (.dK []) := sm _ _ upd_same
    refine ⟨Nat.zero_le _, fun g0 hg0 => ?_⟩
    have em2 : upd H1 g0 (.lst []) m = some (.dK []) := (same_upd (o := .lst []) hg0) _ _ em1
    have ec2 : upd H1 g0 (.lst []) c = some (.lst (cs.map V.int)) := (same_upd (o := .lst []) hg0) _ _ ec
    have s2 : Same H (upd H1 g0 (.lst [])) := (s1.trans sm).trans (same_upd hg0)
    generalize upd H1 g0 (.lst []) = H2 at em2 ec2 s2 ⊢
    refine ⟨em2, [(kCells, .ref c), (kGreat, .ref g0), (kSpot, .int 0)], rfl, by show 3 ≤ 15; decide, ?_⟩
    have em3 : upd H2 m (.dK (mergeK [] [(kCells, .ref c), (kGreat, .ref g0), (kSpot, .int 0)])) m = some (.dK (drawn c g0 0)) := by
      rw [upd_same]
      rfl
    have ec3 : upd H2 m (.dK (mergeK [] [(kCells, .ref c), (kGreat, .ref g0), (kSpot, .int 0)])) c = some (.lst (cs.map V.int)) := by
      rw [upd_ne nmc.symm]
      exact ec2
    have s3 : Same H (upd H2 m (.dK (mergeK [] [(kCells, .ref c), (kGreat, .ref g0), (kSpot, .int 0)]))) := same_put s2 hm
    generalize upd H2 m (.dK (mergeK [] [(kCells, .ref c), (kGreat, .ref g0), (kSpot, .int 0)])) = H3 at em3 ec3 s3 ⊢
    refine ⟨_, rfl, a, rfl, ⟨_, s3.seq hS⟩, fun g hg => ?_⟩
    have hgH : H g = none := s3.free hg
    refine lc_list (K := K) (a := a) (xs := ns.map V.int) (fun i H' => ∃ acc : List Int, H' g = some (.lst (acc.map V.int)) ∧ acc.length = i ∧ Same H H' ∧ H' m = some (.dK (drawn c g0 0)) ∧ H' c = some (.lst (cs.map V.int)))
      ⟨[], upd_same, rfl, same_new s3 hg, (same_upd hg) _ _ em3, (same_upd hg) _ _ ec3⟩ (fun i H' _ ⟨_, _, _, s', _⟩ => s'.seq hS) (fun i x H' hi ⟨acc, eg, el, s', em', ec'⟩ => ?_) (fun H' ⟨acc, eg, el, s', em', ec'⟩ => ?_)
    · obtain ⟨z, hz, rfl⟩ := int_at hi
      have hil : i < ns.length := (List.getElem?_eq_some_iff.mp hz).1
      have nmg : m ≠ g := ne_of em' eg (by intro z; cases z)
      have ncg : c ≠ g := fun e => by
        rw [← e, ec3] at hg
        cases hg
      refine ⟨rfl, yes_ ?_⟩
      refine ⟨_, rfl, _, _, rfl, rfl, ⟨by decide, by decide, by decide⟩, _, _, rfl, rfl, _, rfl, ?_⟩
      have fin : ∀ y : Int, ∃ acc_1, H' g = some (.lst acc_1) ∧ acc_1.length < sizeLine ∧ ∃ acc2 : List Int, upd H' g (.lst (acc_1 ++ [V.int y])) g = some (.lst (acc2.map V.int)) ∧ acc2.length = i + 1 ∧ Same H (upd H' g (.lst (acc_1 ++ [V.int y]))) ∧
          upd H' g (.lst (acc_1 ++ [V.int y])) m = some (.dK (drawn c g0 0)) ∧ upd H' g (.lst (acc_1 ++ [V.int y])) c = some (.lst (cs.map V.int)) := fun y => by
        refine ⟨_, eg, by rw [List.length_map, el]; exact small1000 (by omega), acc ++ [y], ?_, by rw [List.length_append, el]; rfl, same_put s' hgH, ?_, ?_⟩
        · rw [upd_same, List.map_append]
          rfl
        · rw [upd_ne nmg]
          exact em'
        · rw [upd_ne ncg]
          exact ec'
      refine ite2 (fun _ => ?_) (fun _ => ?_)
      · exact ⟨_, rfl, fin z⟩
      · exact fin 0
    · have nmg : m ≠ g := ne_of em' eg (by intro z; cases z)
      have ncg : c ≠ g := fun e => by
        rw [← e, ec3] at hg
        cases hg
      refine ⟨_, rfl, m, _, rfl, DPut.k (k := kGreat) em' (by show 3 < sizeLine; decide), _, rfl, ?_⟩
      refine q _ m c g (same_put s' hm) hm hc0 hgH ⟨⟨cs, acc, ?_, ?_, ?_, gc, ?_⟩, ncg, Int.le_refl _⟩
      · rw [upd_same]
        rfl
      · rw [upd_ne nmc.symm]
        exact ec'
      · rw [upd_ne nmg.symm]
        exact eg
      · rw [el, List.length_map]
        exact hlen
end
end XB
set_option Elab.async false
set_option linter.all false
set_option maxRecDepth 100000
set_option maxHeartbeats 4000000
/-! promises of defs that may ask for repr: no repr runs around them -/
namespace XB
open PySem PySem.Spec PyProof.Rows L2
section
variable {P : Program} {w : World} {K : PySem.W.Frag} {mg : Str → Option Value} {base : Heap} {CX : CXT}
/-- a promise that is kept where no repr runs around -/
structure FnG (P : Program) (w : World) (K : PySem.W.Frag) (mg : Str → Option Value) (base : Heap) (CX : CXT) (lev : Nat) (at_ : Addr) (fdat : FuncData) (pars : List Str) (sp : Sp) : Prop where
  many : ∀ vs H Q E, sp vs H Q E → vs.length = pars.length
  goes : ∀ {A : Around} {outer : List Env} {s : Shared} {H : Hp} {args : Args} {us : List Value} {vs : List V} {Q : VK} {E : XK}, A.guards = some [] → Room lev A → Env0 P w K mg base A outer s H →
    BindsTo s fdat args (pars.zip us) → Vals vs us → sp vs H Q E → codeAny (model P w) A (.call (.ref at_) args) (CR CX outer P w H s Q E) s
theorem FnOk.toG {k : Nat} {f : Addr} {fd : FuncData} {ps : List Str} {sp : Sp} (F : FnOk P w K mg base CX k f fd ps sp) : FnG P w K mg base CX k f fd ps sp :=
  ⟨F.len, fun _ hr e0 hb r h => F.run _ _ _ _ _ _ _ _ _ hr e0 hb r h⟩
theorem FnG.mono {j k : Nat} {f : Addr} {fd : FuncData} {ps : List Str} {sp : Sp} (F : FnG P w K mg base CX j f fd ps sp) (h : j ≤ k) : FnG P w K mg base CX k f fd ps sp :=
  ⟨F.many, fun hg hr => F.goes hg (hr.mono h)⟩
/-- the def's body, where no repr runs around -/
theorem fng_of {k : Nat} {f : Addr} {nm ql : Str} {pars : Arguments} {bd : List Stmt} {sc : Scope} {d1 d2 d3 d4 cdv d5 d6 : Value} {o1 o2 : Option Addr} {osl : Array (Option Value)} {N ps : List Str} {sp : Sp}
    (lk : K.lookup f = some ⟨d6, o2, .func (PySem.W.fnOf nm ql pars bd sc d1 d2 d3 d4 o1 cdv d5), osl⟩) (hcd : PySem.W.codeIn K cdv ql = true) (S : FnScope N ps sc) (len : ∀ vs H Q E, sp vs H Q E → vs.length = ps.length)
    (hbody : ∀ (A : Around) (outer : List Env) (s : Shared) (H : Hp) (vs : List V) (Q : VK) (E : XK), A.guards = some [] → Room k (A.deeper (envOfC ql sc s.heap.objs.size f cdv)) → sp vs H Q E →
      ∃ t, PSs (cxOf CX P w K mg base N ql sc f cdv A outer s H E) bd t ∧ t { nx := fun _ H' => Q .non H', rt := Q } (start N vs) H) :
    FnG P w K mg base CX (k + 1) f (PySem.W.fnOf nm ql pars bd sc d1 d2 d3 d4 o1 cdv d5) ps sp := by
  constructor
  · exact len
  · intro A outer s H args us vs Q E hgu hr e0 hbd rel hsp
    have stays : ∀ b o, base.get? b = some o → s.heap.get? b = some o := fun b o e => (e0.bs b o e).1
    have KX : K.In s.heap := e0.mod.kin.keeps stays
    have kinds : ∀ y ∈ ps.zip us, sc.names.lookup y.1 = some .local ∨ (sc.names.lookup y.1 = some .cell ∧ ((cellsFrom (s.heap.objs.size + 1) sc.names []).lookup y.1).isSome = true) := by
      rintro ⟨x, v⟩ hy
      exact (S.par x (List.of_mem_zip hy).1).imp id fun q => ⟨q, PySem.W.cellsFrom_some _ _ _ (.inl q)⟩
    refine codeAny_call_function hr.depth (KX _ _ lk) rfl S.co S.gen rfl (PySem.W.codeRec_of KX hcd) (hbd _ _ _ _ ?_)
    refine wpAny_newFunctionEnv_cells S.kind kinds (fun env he s1 x => ?_)
    cases he
    refine ⟨(e0.mod.nolimit.keeps stays).keeps x.toInCall.keep, codeAny_func ?_⟩
    obtain ⟨t, ht, hq⟩ := hbody A outer s H vs Q E hgu (hr.deeper _) hsp
    have I := inv_start (CX := CX) (mg := mg) (base := base) (P := P) (w := w) (E := E) (cd := cdv) (f := f) (qual := ql) S hr.hd e0 (len _ _ _ _ hsp) rel x
    refine wpAny_mono (ht.run [] s1 _ H _ I hq) ?_ (fun _ _ z => z)
    rintro fl s' hs
    rcases fl with u | _ | _ | _ <;> first
      | (obtain ⟨v, σ', H', J, rv, q⟩ := hs; exact ⟨v, H', J.os, J.bare, J.base, J.hok, rv, q⟩)
      | (obtain ⟨σ', H', J, q⟩ := hs; first | exact ⟨V.non, H', J.os, J.bare, J.base, J.hok, rfl, q⟩ | exact False.elim q)
/-- a def that asks for repr, by its name -/
structure Cg (P : Program) (w : World) (K : PySem.W.Frag) (mg : Str → Option Value) (base : Heap) (CX : CXT) (k : Nat) (x : Str) (sp : Sp) : Prop where
  ex : ∃ (f : Addr) (fd : FuncData) (ps : List Str), FnG P w K mg base CX k f fd ps sp ∧ mg x = some (.ref f) ∧ PySem.W.keepIn K (.ref f) = true ∧ Binds K fd ps []
theorem Cl.toG {k : Nat} {x : Str} {sp : Sp} (c : Cl P w K mg base CX k x sp) : Cg P w K mg base CX k x sp := by
  obtain ⟨f, fd, ps, F, r⟩ := c.ex
  exact ⟨f, fd, ps, FnOk.toG F, r⟩
theorem cg0 {x : Str} {st : Stmt} {N ps : List Str} {k : Nat} {sp : Sp} (D : Dn K mg x st)
    (hb : ∀ (kV doc pm : Value) (an : Option Addr) (cdv ct : Value) (us : List Value), us.length = ps.length → bindArgs (PySem.W.fnOf x x (defArgs st) (defBody st) (defScope st) .none kV doc pm an cdv ct) ⟨us, []⟩ = pure (ps.zip us))
    (S : FnScope N ps (defScope st)) (len : ∀ vs H Q E, sp vs H Q E → vs.length = ps.length)
    (hbody : ∀ (f : Addr) (cdv : Value) (A : Around) (outer : List Env) (s : Shared) (H : Hp) (vs : List V) (Q : VK) (E : XK), (A.deeper (envOfC x (defScope st) s.heap.objs.size f cdv)).guards = some [] → Room k (A.deeper (envOfC x (defScope st) s.heap.objs.size f cdv)) → sp vs H Q E →
      ∃ t, PSs (cxOf CX0 P w K mg base N x (defScope st) f cdv A outer s H E).nox (defBody st) t ∧ t { nx := fun _ H' => Q .non H', rt := Q } (start N vs) H) : Cg P w K mg base CX0 (k + 1) x sp := by
  obtain ⟨f, fd, F, hm⟩ := D.ex
  obtain ⟨oc, od, kV, doc, pm, an, cdv, ct, osl, rfl, lk, hcd⟩ := id F.ex
  refine ⟨f, _, ps, fng_of lk hcd S len (fun A outer s H vs Q E hg hr h => ?_), hm, F.kp, F.binds hb⟩
  obtain ⟨t, ht, q⟩ := hbody f cdv A outer s H vs Q E hg hr h
  exact ⟨t, ht.nox, q⟩
end
section
variable {X : Cx} {k j : Nat} {x : Str} {sp : Sp} {p pos : Pos} {e : Expr} {es : List Expr} {t : TA}
theorem pe_g (c : Cg X.prog X.w X.K X.mg X.base CX0 k x sp) (hgu : X.A.guards = some []) (hr : Room j X.A) (hk : k ≤ j) (hg : Gl X x) (ha : PA X (e :: es) t)
    (hdb : (x == ("__debug__" : Str)) = false := by decide) (he : starEach (e :: es) X.env = (false, eval e X.env) :: starEach es X.env := by rfl) (hpl : (backTo pos (starEach es X.env)).any (·.1) = false := by rfl) :
    PE X (.Call (.Name x p) (e :: es) [] pos) (tCall sp [] E0 t) := by
  obtain ⟨f, fd, ps, F, hm, kp, b⟩ := c.ex
  constructor
  intro pins s σ H Q I h
  refine wpAny_Call_Name_kw (ld_glob I hg hm ?_ hdb)
  refine PySem.W.callWith_K (h₀ := X.base) I.ok.mod.kin kp (thn (ha.run pos pins s σ H _ I h) ?_) he hpl
  rintro us s1 ⟨vs, H1, I1, r, q⟩
  have q' : sp vs H1 Q E0 := by
    rw [List.append_nil] at q
    exact q
  have hl : us.length = ps.length := by
    rw [← r.length]
    exact F.many _ _ _ _ q'
  have bb := b s1 us I1.kIn (by rw [List.append_nil]; exact hl)
  rw [List.append_nil] at bb
  refine ⟨I1.kIn, wpAny_call (codeAny_mono (F.goes (outer := X.stack) (Q := Q) (E := E0) hgu (hr.mono hk) I1.env0 bb r q') ?_)⟩
  rintro (er | fl) s' hq
  · exact hq.elim
  · rcases fl with u | _ | _ | _ <;> first
      | exact I1.after hq
      | exact False.elim hq
/-- repr of data -/
theorem call_reprD (hgu : X.A.guards = some []) (hu : X.A.units + 70 < cLine) : CallR X (.builtin "repr") (fun xs H Q => ∃ x d, xs = [x] ∧ Dp X.K H x d ∧ d.showable = true ∧ d.hasDict = false ∧ d.depth ≤ 64 ∧ d.shown.length ≤ sizeLine ∧ Q (.str d.shown) H) := by
  intro pins s σ H xs us Q I r h
  obtain ⟨x, d, rfl, hd, hs, hnd, hdp, hz, q⟩ := h
  cases r with
  | cons rx rr =>
    cases rr
    obtain ⟨as, hr⟩ := Dp.reads I d x _ hd rx
    cases hr with
    | none => exact PySem.P.repr_of_none ⟨.str _, H, I.tok _, ⟨_, rfl⟩, q⟩
    | bool b => exact PySem.P.repr_of_bool ⟨.str _, H, I.tok _, ⟨_, rfl⟩, q⟩
    | int i t => exact PySem.P.repr_of_int (of_decide_eq_true hs) ⟨.str _, H, I.tok _, ⟨_, rfl⟩, q⟩
    | str z t => exact PySem.P.repr_of_str ⟨.str _, H, I.tok _, ⟨_, rfl⟩, q⟩ hz
    | list h1 h2 h3 h4 => exact repr_of_reads' (.list h1 h2 h3 h4) hs (fun z => by rw [hnd] at z; cases z) hgu (by omega) (fun _ _ e => e) (fun h' u tk k => ⟨.str _, H, I.kept k, ⟨_, rfl⟩, q⟩) hz
    | tuple h1 h2 h3 h4 => exact repr_of_reads' (.tuple h1 h2 h3 h4) hs (fun z => by rw [hnd] at z; cases z) hgu (by omega) (fun _ _ e => e) (fun h' u tk k => ⟨.str _, H, I.kept k, ⟨_, rfl⟩, q⟩) hz
    | dict h1 h2 h3 h4 h5 => cases hnd
end
end XB
set_option Elab.async false
set_option linter.all false
set_option maxRecDepth 100000
set_option maxHeartbeats 4000000
/-! further rules: enumerate of a tuple, min and max of two texts, the order of pairs of texts -/
namespace PySem
open Sem (wp)
open AutoSeq1 (wpAny_loadPart')
theorem XBmeets_enumT (l : Addr) (items : Array Value) :
    Meets (Builtin.«enumerate.__new__» ⟨[.type "enumerate", .ref l], []⟩) (fun _ R s => s.heap.IsTuple l items ∧
      R (.ok (.ret (.ref (s.heap.push { cls := .type "tuple_iterator", data := .fields #[.ref l, .int 0 0] }).objs.size)))
        { s with heap := (s.heap.push { cls := .type "tuple_iterator", data := .fields #[.ref l, .int 0 0] }).push { cls := .type "enumerate", data := .fields #[.none, .bool false, .ref s.heap.objs.size, rawInt 0, .none, .none] } }) :=
  .of_wp fun prog w A R s ⟨hT, hR⟩ => by
    obtain ⟨hp, gg, dd, tk, os⟩ := s
    have subE := sub_enumerate
    have hT' : Heap.IsTuple (Shared.heap ⟨hp, gg, dd, tk, os⟩) l items := hT
    have it_ : ∀ {A' : Around} {E : Value → Shared → Prop} {Q : Value → Shared → Prop}, Q (.ref hp.objs.size) ⟨hp.push { cls := .type "tuple_iterator", data := .fields #[.ref l, .int 0 0] }, gg, dd, tk, os⟩ → wpAny (model prog w) A' (pyIter (.ref l)) Q E ⟨hp, gg, dd, tk, os⟩ :=
      fun q => wpAny_pyIter_tuple hT' q
    wp_walk using it_
    refine wpAny_stack_any fun st => wpAny_pure ?_
    split
    · rename_i c _ _ _ _ _
      cases (c == Value.type "enumerate") <;> (wp_walk using it_; exact ⟨_, rfl, hR⟩)
    · wp_walk using it_
      exact ⟨_, rfl, hR⟩
section
variable {prog : Program} {w : World} {A : Around} {E : Value → Shared → Prop} {s : Shared}
theorem XBcall_enumT {l : Addr} {items : Array Value} {Q : Value → Shared → Prop} (hT : s.heap.IsTuple l items)
    (h : ∀ h', IsEnum h' (s.heap.objs.size + 1) s.heap.objs.size 0 .none → h'.IsTupleIter s.heap.objs.size l 0 → (∀ b o, s.heap.get? b = some o → h'.get? b = some o) → Q (.ref (s.heap.objs.size + 1)) { s with heap := h' }) :
    wpAny (model prog w) A (call (.type "enumerate") [.ref l]) Q E s := by
  refine callType_new F.called_enumerate (by decide) (F.typeCall_enumerate_1 _) (F.newCall_enumerate_1 _) (fun obj => F.args_object_init_2 obj _) F.entry_enumerate_new (XBmeets_enumT l items) ⟨hT, ?_⟩
  have hz : (s.heap.push { cls := .type "tuple_iterator", data := .fields #[.ref l, .int 0 0] }).objs.size = s.heap.objs.size + 1 := Heap.size_push ..
  show _ ∧ _
  rw [hz]
  have he := Heap.get?_push_size (s.heap.push { cls := .type "tuple_iterator", data := .fields #[.ref l, .int 0 0] }) (o := { cls := .type "enumerate", data := .fields #[.none, .bool false, .ref s.heap.objs.size, rawInt 0, .none, .none] }) rfl
  rw [hz] at he
  exact ⟨⟨_, he, rfl⟩, h _ he ⟨_, Heap.get?_push_of_some _ (Heap.get?_push_size _ rfl), rfl, rfl⟩ fun b o x => Heap.get?_push_of_some _ (Heap.get?_push_of_some _ x)⟩
end
end PySem
namespace XB
open PySem PySem.Spec PyProof.Rows L2
/-- the tuple at a, each item in a new pair with its number -/
def IeT (K : PySem.W.Frag) (a : Addr) : It where
  go := fun i H => ∃ (xs : List V) (x : V), SqT K H a xs ∧ xs[i]? = some x
  yld := fun i H v H' => ∃ T x, v = .ref T ∧ H T = none ∧ H' = upd H T (.tup [.int (i : Nat), x]) ∧ ∀ xs, SqT K H a xs → xs[i]? = some x
  stop := fun i H => ∃ xs : List V, SqT K H a xs ∧ xs.length = i
theorem turn_IeT {P : Program} {w : World} {K : PySem.W.Frag} {elts : List Expr} {kk : Nat} {tpos : Pos} (a e it : Addr) :
    Turn P w K (.Tuple elts kk tpos) (IeT K a) [e, it] e (fun i h => (∃ old, IsEnum h e it ((i : Nat) : Int) old) ∧ h.IsTupleIter it a i ∧ e ≠ it ∧ a ≠ it ∧ a ≠ e) where
  mem := List.mem_cons_self
  obj := fun i h st b hb => by
    obtain ⟨⟨old, he⟩, ⟨o, ho, hc, hd⟩, _⟩ := st
    rcases List.mem_cons.mp hb with rfl | hb
    · exact ⟨_, he, fun v q => nomatch q⟩
    · rw [List.mem_singleton.mp hb]
      exact ⟨o, ho, fun v q => by rw [hd] at q; cases q⟩
  keep := fun i h h' ⟨⟨old, he⟩, hi, r⟩ k => ⟨⟨old, k e List.mem_cons_self _ he⟩, hi.at fun o q => k it (by simp) o q, r⟩
  item := by
    intro X hP hw hK hc i pins s σ H E I hf st hg
    subst hP hw hK
    obtain ⟨⟨old, he⟩, hit, hne, nai, nae⟩ := st
    obtain ⟨xs, x, hq, hx⟩ := hg
    obtain ⟨its, rv, p, hz⟩ := I.tuple hq
    obtain ⟨u, hu, ru⟩ := rv.get hx
    have hel : e < s.heap.objs.size := Heap.lt_size he
    have hil : it < s.heap.objs.size := by
      obtain ⟨_, q, _⟩ := hit
      exact Heap.lt_size q
    have hlen : i < its.toArray.size := by
      rw [List.size_toArray]
      exact (List.getElem?_eq_some_iff.mp hu).1
    refine wpAny_pyNext_enum_itemD (Draws.tuple (prog := X.prog) (w := X.w) (A := X.A.in1) (I.ok.hd hc) it a nai its.toArray) he ⟨hit, p⟩ hlen hne (by simp [hne]; exact fun z => nae z.symm) fun v h' tk hv ho hs hT hsz hk => ?_
    have hv' : v = u := by
      rw [List.getElem?_toArray, hu] at hv
      exact (Option.some.inj hv).symm
    subst hv'
    refine ⟨_, rfl, wpAny_letOwnedTupleGo_enum (s := { s with heap := h', toks := tk + 1 }) ho fun h'' he' sb => ?_⟩
    have hT2 : h''.get? s.heap.objs.size = some { cls := .type "tuple", data := .seq #[.int i tk, v] } := (sb.2 _ (Nat.ne_of_gt hel)).trans hT
    have new : ObjOk X.prog X.w (upd H s.heap.objs.size (.tup [.int (i : Nat), x])) h'' s.heap.objs.size (.tup [.int (i : Nat), x]) :=
      ⟨by show 2 ≤ sizeLine; decide, [.int i tk, v], .cons ⟨_, rfl⟩ (.cons ru .nil), ⟨_, hT2, rfl, _, rfl⟩⟩
    have I1 := I.turnedNew (t' := tk + 1) (ch := [e, it]) (fun b ob hb q => (sb.2 b (fun z => hb (by simp [z]))).trans (hk b ob (fun z => hb (by simp [z])) (fun z => hb (by simp [z])) q)) hf (Nat.le_refl _) new
    refine ⟨.ref s.heap.objs.size, _, I1, rfl, ⟨_, x, rfl, I.hok.fresh (Nat.le_refl _), rfl, fun ys hy => by rw [I.tuple_inj hy hq]; exact hx⟩, ⟨⟨v, ?_⟩, hs.1.at fun o q => (sb.2 it (Ne.symm hne)).trans q, hne, nai, nae⟩, fun b hb => ?_⟩
    · rw [show ((i + 1 : Nat) : Int) = (i : Int) + 1 by omega]
      exact he'
    · have hb' : b < s.heap.objs.size := by
        rcases List.mem_cons.mp hb with rfl | z
        · exact hel
        · rw [List.mem_singleton.mp z]
          exact hil
      rw [upd_ne (Nat.ne_of_lt hb')]
      exact (hf b hb).1
  done := by
    intro X hP hw hK hc i pins s σ H E I hf st hg
    subst hP hw hK
    obtain ⟨⟨old, he⟩, hit, hne, nai, nae⟩ := st
    obtain ⟨xs, hq, hx⟩ := hg
    obtain ⟨its, rv, p, hz⟩ := I.tuple hq
    obtain ⟨f0, f1, f2, f3, f4, f5⟩ := hf it (by simp)
    have hsz : its.toArray.size = i := by
      rw [List.size_toArray, ← rv.length]
      exact hx
    refine wpAny_pyNext_enum_endD (Draws.tuple (prog := X.prog) (w := X.w) (A := X.A.in1) (I.ok.hd hc) it a nai its.toArray) he (by rw [hsz]; exact ⟨hit, p⟩) fun h' eb => ⟨rfl, I.turned (t' := s.toks) (fun b o hb q => eb b o hb q) f0 f1 f3 f4 f5⟩
  self := fun A i s Q E st h => let ⟨⟨_, he⟩, _⟩ := st; wpAny_pyIter_enum he h
def iEnT (K : PySem.W.Frag) (ta : TA) : TI := fun σ H R => ta σ H fun vs H1 => ∃ a xs, vs = [.ref a] ∧ SqT K H1 a xs ∧ R (IeT K a) H1
/-- enumerate(t), t a tuple, to a target of several names -/
theorem pi_enumT {X : Cx} {e : Expr} {ta : TA} {p pos tpos : Pos} {elts : List Expr} {kk : Nat} (hg : Gl X "enumerate") (hm : X.mg "enumerate" = none) (ha : PA X [e] ta) (hs : starEach [e] X.env = [(false, eval e X.env)] := by rfl) :
    PI X (.Tuple elts kk tpos) (.Call (.Name "enumerate" p) [e] [] pos) (iEnT X.K ta) := by
  constructor
  intro pins s σ H R I h
  refine Call_ (ld_blt I hg hm boot_enumerate (PyProof.Rows.callWith_type1 (thn (ha.run pos pins s σ H _ I h) ?_) hs rfl))
  rintro us s1 ⟨vs, H1, I1, r1, a, xs, rfl, hq, q⟩
  cases r1 with
  | cons r rr =>
    cases rr
    cases r
    obtain ⟨its, rv, p', hz⟩ := I1.tuple hq
    refine XBcall_enumT p' fun h' he hit hk => wpAny_pyIter_enum he ?_
    have hal : a < s1.heap.objs.size := by
      obtain ⟨o, e1, _⟩ := p'
      exact Heap.lt_size e1
    have I2 : Inv X pins σ H1 { s1 with heap := h' } := I1.kept (t' := s1.toks) hk
    refine ⟨s1.heap.objs.size + 1, [s1.heap.objs.size + 1, s1.heap.objs.size], _, _, H1, rfl, I2, turn_IeT a (s1.heap.objs.size + 1) s1.heap.objs.size, ⟨⟨.none, he⟩, hit, Nat.succ_ne_self _, Nat.ne_of_lt hal, Nat.ne_of_lt (Nat.lt_succ_of_lt hal)⟩, fun b hb => ?_, q⟩
    have hle : s1.heap.objs.size ≤ b := by
      rcases List.mem_cons.mp hb with rfl | z
      · exact Nat.le_succ _
      · rw [List.mem_singleton.mp z]
        exact Nat.le_refl _
    exact I1.fpOk hle (I1.hok.fresh hle)
theorem walk_IeT {K : PySem.W.Frag} {a : Addr} {xs : List V} : Walk (IeT K a) xs.length (fun H => SqT K H a xs) (YPair (fun i => some (.int (i : Nat))) (fun i => xs[i]?)) := by
  refine ⟨fun i _ hi q => ⟨xs, xs[i], q, by simp [hi]⟩, fun _ q => ⟨xs, q, rfl⟩, fun i H v H' _ q y => ?_⟩
  obtain ⟨T, x, h1, h2, h3, h4⟩ := y
  exact ⟨T, .int (i : Nat), x, h1, h2, h3, rfl, h4 xs q⟩
/-! ### the order of texts -/
/-- the one text ahead of the other -/
def sLt (a b : Str) : Bool := decide (a.cps.toList < b.cps.toList)
theorem cmp_gt {prog : Program} {w : World} {A : Around} {a b : Str} {t u : Tok} : CmpOf prog w A .Gt (fun i v => (#[Value.str a t, Value.str b u] : Array Value)[i]? = some v) (fun i j => sLt ([a, b].getD j a) ([a, b].getD i a)) := fun i j vi vj s Q E hi hj h => by
  rcases i with _ | _ | i <;> rcases j with _ | _ | j <;> simp at hi hj
  all_goals (subst hi; subst hj; exact PySem.P.gt_str h)
theorem cmp_lt {prog : Program} {w : World} {A : Around} {a b : Str} {t u : Tok} : CmpOf prog w A .Lt (fun i v => (#[Value.str a t, Value.str b u] : Array Value)[i]? = some v) (fun i j => sLt ([a, b].getD i a) ([a, b].getD j a)) := fun i j vi vj s Q E hi hj h => by
  rcases i with _ | _ | i <;> rcases j with _ | _ | j <;> simp at hi hj
  all_goals (subst hi; subst hj; exact PyProof.Rows.lt_str h)
section
variable {prog : Program} {w : World} {A : Around} {E : Value → Shared → Prop} {s : Shared}
/-- the pair that min and max lay, walked -/
theorem two_walk {x y : Value} (hh : A.handled = none) {op : CmpOp} {bt : Nat → Nat → Bool} {Q : Value → Shared → Prop} (cmp : CmpOf prog w A.in1 op (fun i v => (#[x, y] : Array Value)[i]? = some v) bt)
    (h : ∀ v h' tk, (#[x, y] : Array Value)[argBest bt 1]? = some v → (∀ c o, s.heap.get? c = some o → h'.get? c = some o) → Q v { s with heap := h', toks := tk }) :
    wpAny (model prog w) A.in1 (pyIter (.ref s.heap.objs.size)) (fun it s₂ => ∃ I fp wr n P St bt, it = .ref I ∧ Walks prog w A.in1 I fp wr n P St ∧ St 0 s₂.heap ∧ (∀ b ∈ fp, b < s₂.heap.objs.size) ∧ 0 < n ∧ CmpOf prog w A.in1 op P bt ∧
      ∀ v h' tk, P (argBest bt (n - 1)) v → (∀ b o, b ∉ wr → s₂.heap.get? b = some o → h'.get? b = some o) → Q v { s₂ with heap := h', toks := tk }) E
      { s with heap := s.heap.push { cls := .type "tuple", data := .seq #[x, y] } } := by
  have hT : (s.heap.push { cls := .type "tuple", data := .seq #[x, y] }).IsTuple s.heap.objs.size #[x, y] := ⟨_, Heap.get?_push_size _ rfl, rfl, 0, rfl⟩
  have hsz : (s.heap.push { cls := .type "tuple", data := .seq #[x, y] }).objs.size = s.heap.objs.size + 1 := Heap.size_push ..
  refine wpAny_pyIter_tuple hT ?_
  refine ⟨(s.heap.push { cls := .type "tuple", data := .seq #[x, y] }).objs.size, [(s.heap.push { cls := .type "tuple", data := .seq #[x, y] }).objs.size, s.heap.objs.size], [(s.heap.push { cls := .type "tuple", data := .seq #[x, y] }).objs.size], 2, _, _, bt, rfl,
    Walks.tuple (A := A.in1) hh _ s.heap.objs.size (by rw [hsz]; exact Nat.ne_of_lt (Nat.lt_succ_self _)) #[x, y], ⟨⟨_, Heap.get?_push_size _ rfl, rfl, rfl⟩, hT.push _⟩, fun c hc => ?_, by decide, cmp, fun v h' tk hP hk => ?_⟩
  · show c < ((s.heap.push _).push _).objs.size
    rw [Heap.size_push, hsz]
    rcases List.mem_cons.mp hc with rfl | hc
    · rw [hsz]
      exact Nat.lt_succ_self _
    · rw [List.mem_singleton.mp hc]
      exact Nat.lt_succ_of_lt (Nat.lt_succ_self _)
  · refine h v h' tk hP fun c o e => hk c o (fun hm => ?_) (Heap.get?_push_of_some _ (Heap.get?_push_of_some _ e))
    have e2 := Heap.lt_size e
    rw [List.mem_singleton.mp hm, hsz] at e2
    exact Nat.lt_irrefl _ (Nat.lt_of_succ_lt e2)
end
section
variable {X : Cx}
theorem call_max2S (hc : X.calm = true) : CallR X (.builtin "max") (fun xs H Q => ∃ i j, xs = [.str i, .str j] ∧ Q (.str (if sLt i j then j else i)) H) := by
  intro pins s σ H xs us Q I r h
  obtain ⟨i, j, rfl, q⟩ := h
  obtain ⟨u, w', rfl, ⟨t, rfl⟩, ⟨t', rfl⟩⟩ := vals2 r
  refine call_max_two (two_walk (I.ok.hd hc) cmp_gt fun v h' tk hv k => ?_)
  refine ⟨_, H, I.kept k, ?_, q⟩
  have e : argBest (fun a b => sLt ([i, j].getD b i) ([i, j].getD a i)) 1 = if sLt i j then 1 else 0 := rfl
  rw [e] at hv
  cases hb : sLt i j
  · rw [hb] at hv
    exact ⟨t, (Option.some.inj hv).symm⟩
  · rw [hb] at hv
    exact ⟨t', (Option.some.inj hv).symm⟩
theorem call_min2S (hc : X.calm = true) : CallR X (.builtin "min") (fun xs H Q => ∃ i j, xs = [.str i, .str j] ∧ Q (.str (if sLt j i then j else i)) H) := by
  intro pins s σ H xs us Q I r h
  obtain ⟨i, j, rfl, q⟩ := h
  obtain ⟨u, w', rfl, ⟨t, rfl⟩, ⟨t', rfl⟩⟩ := vals2 r
  refine call_min_two (two_walk (I.ok.hd hc) cmp_lt fun v h' tk hv k => ?_)
  refine ⟨_, H, I.kept k, ?_, q⟩
  have e : argBest (fun a b => sLt ([i, j].getD a i) ([i, j].getD b i)) 1 = if sLt j i then 1 else 0 := rfl
  rw [e] at hv
  cases hb : sLt j i
  · rw [hb] at hv
    exact ⟨t, (Option.some.inj hv).symm⟩
  · rw [hb] at hv
    exact ⟨t', (Option.some.inj hv).symm⟩
/-- t < u, two pairs of texts -/
theorem op_ltSS (hu : X.A.units + 64 < cLine) : OpR X (compareOp .Lt) (fun x y H Q => ∃ p q a b c d, x = .ref p ∧ y = .ref q ∧ SqT X.K H p [.str a, .str b] ∧ SqT X.K H q [.str c, .str d] ∧ Q (.bl (if a == c then (if b == d then false else sLt b d) else sLt a c)) H) := by
  intro pins s σ H x y v u Q I rx ry h
  obtain ⟨p, q, a, b, c, d, rfl, rfl, hp, hq, h⟩ := h
  cases rx
  cases ry
  obtain ⟨its, r1, t1, _⟩ := I.tuple hp
  obtain ⟨jts, r2, t2, _⟩ := I.tuple hq
  obtain ⟨_, _, rfl, ⟨ta, rfl⟩, ⟨tb, rfl⟩⟩ := vals2 r1
  obtain ⟨_, _, rfl, ⟨tc, rfl⟩, ⟨td, rfl⟩⟩ := vals2 r2
  have L := Ob.RcOp.tuples_lt (A := X.A) (s := s) (e := fun j => [a == c, b == d].getD j false) (r := fun j => [sLt a c, sLt b d].getD j false) t1 t2 (by omega)
    (fun j h1 h2 => by
      rcases j with _ | _ | j
      · exact SeqAt.EqAt.str_str _ _ _ _
      · exact SeqAt.EqAt.str_str _ _ _ _
      · exact absurd h1 (by simp))
    (fun j h1 h2 _ => by
      rcases j with _ | _ | j
      · exact fun _ _ _ _ z => PyProof.Rows.lt_str z
      · exact fun _ _ _ _ z => PyProof.Rows.lt_str z
      · exact absurd h1 (by simp))
  exact L _ _ _ _ ⟨.bl _, H, I, rfl, h⟩
end
end XB
/-! piles as rows read from the last piece on: the action of steps on least piles -/
namespace XM
/-- what is asked of names: which touch, and an order -/
structure Ord (α : Type) [DecidableEq α] where
  tc : α → α → Bool
  lt : α → α → Bool
  refl : ∀ a, tc a a = true
  symm : ∀ a b, tc a b = tc b a
  irr : ∀ a, lt a a = false
  trans : ∀ a b c, lt a b = true → lt b c = true → lt a c = true
  tot : ∀ a b, a ≠ b → lt a b = false → lt b a = true
section
variable {α : Type} [DecidableEq α] (O : Ord α)
abbrev Row (α : Type) := List (α × Int)
/-- a piece of this name comes to lie on top: no other of its name is met, all that it might pass are less -/
def top (a : α) : Row α → Bool
  | [] => true
  | y :: r => if O.tc y.1 a then decide (y.1 ≠ a) else O.lt y.1 a && top a r
def ins (x : α × Int) : Row α → Row α
  | [] => [x]
  | y :: r => if y.1 = x.1 then (if y.2 + x.2 = 0 then r else (x.1, y.2 + x.2) :: r)
    else if O.tc y.1 x.1 then x :: y :: r
    else if O.lt y.1 x.1 && top O x.1 r then x :: y :: r else y :: ins x r
/-- a least pile, from the last piece on -/
def NF : Row α → Prop
  | [] => True
  | y :: r => y.2 ≠ 0 ∧ top O y.1 r = true ∧ NF r
variable {O}
theorem lt_of_not {a b : α} (h : O.tc a b = false) (n : O.lt a b = false) : O.lt b a = true :=
  O.tot a b (fun e => by rw [e, O.refl] at h; cases h) n
theorem lt_asym {a b : α} (h : O.lt a b = true) : O.lt b a = false := by
  cases e : O.lt b a
  · rfl
  · have := O.trans a b a h e
    rw [O.irr] at this
    cases this
theorem ne_of_apart {a b : α} (h : O.tc a b = false) : a ≠ b := fun e => by
  rw [e, O.refl] at h
  cases h
theorem top_same {a : α} {s : Int} {r : Row α} : top O a ((a, s) :: r) = false := by
  unfold top
  rw [if_pos (O.refl a)]
  simp
theorem top_touch {a : α} {y : α × Int} {r : Row α} (h : O.tc y.1 a = true) (n : y.1 ≠ a) : top O a (y :: r) = true := by
  unfold top
  rw [if_pos h]
  simpa using n
theorem top_apart {a : α} {y : α × Int} {r : Row α} (h : O.tc y.1 a = false) : top O a (y :: r) = (O.lt y.1 a && top O a r) := by
  show (if O.tc y.1 a then decide (y.1 ≠ a) else O.lt y.1 a && top O a r) = _
  rw [if_neg (by rw [h]; decide)]
theorem ins_same {a : α} {s u : Int} {r : Row α} : ins O (a, s) ((a, u) :: r) = if u + s = 0 then r else (a, u + s) :: r := by
  unfold ins
  rw [if_pos rfl]
theorem ins_touch {x y : α × Int} {r : Row α} (h : O.tc y.1 x.1 = true) (n : y.1 ≠ x.1) : ins O x (y :: r) = x :: y :: r := by
  unfold ins
  rw [if_neg n, if_pos h]
theorem ins_apart {x y : α × Int} {r : Row α} (h : O.tc y.1 x.1 = false) : ins O x (y :: r) = if O.lt y.1 x.1 && top O x.1 r then x :: y :: r else y :: ins O x r := by
  show (if y.1 = x.1 then _ else if O.tc y.1 x.1 then _ else _) = _
  rw [if_neg (ne_of_apart h), if_neg (by rw [h]; decide)]
theorem ins_top {x : α × Int} : ∀ {r : Row α}, top O x.1 r = true → ins O x r = x :: r
  | [], _ => rfl
  | y :: r, h => by
    cases hc : O.tc y.1 x.1
    · rw [top_apart hc] at h
      rw [ins_apart hc, if_pos h]
    · by_cases e : y.1 = x.1
      · unfold top at h
        rw [if_pos hc] at h
        simp [e] at h
      · exact ins_touch hc e
theorem apart_symm {a b : α} (h : O.tc a b = false) : O.tc b a = false := by rw [O.symm]; exact h
/-- what is put below the top does not bar another name that lay on top -/
theorem top_ins {z : α} {x : α × Int} (hx : O.tc x.1 z = false) : ∀ {r : Row α}, top O z r = true → top O x.1 r = false → top O z (ins O x r) = true
  | [], _, h => by cases h
  | w :: r, hz, h => by
    by_cases e : w.1 = x.1
    · obtain ⟨w1, w2⟩ := w
      obtain ⟨x1, x2⟩ := x
      have e : w1 = x1 := e
      subst e
      have hw : O.tc w1 z = false := hx
      rw [top_apart (y := (w1, w2)) hw] at hz
      rw [ins_same]
      by_cases h0 : w2 + x2 = 0
      · rw [if_pos h0]
        exact (Bool.and_eq_true_iff.mp hz).2
      · rw [if_neg h0, top_apart (y := (w1, w2 + x2)) hw]
        exact hz
    · cases hc : O.tc w.1 x.1
      · rw [top_apart hc] at h
        rw [ins_apart hc, if_neg (by rw [h]; decide)]
        cases hwz : O.tc w.1 z
        · rw [top_apart hwz] at hz ⊢
          obtain ⟨z1, z2⟩ := Bool.and_eq_true_iff.mp hz
          rw [z1, Bool.true_and]
          cases ht : top O x.1 r
          · exact top_ins hx z2 ht
          · rw [ins_top ht, top_apart hx, z2, Bool.and_true]
            rw [ht, Bool.and_true] at h
            exact O.trans _ _ _ (lt_of_not hc h) z1
        · have n : w.1 ≠ z := by
            intro q
            unfold top at hz
            rw [if_pos hwz] at hz
            simp [q] at hz
          exact top_touch hwz n
      · rw [top_touch hc e] at h
        cases h
theorem nf_ins {x : α × Int} (hx : x.2 ≠ 0) : ∀ {r : Row α}, NF O r → NF O (ins O x r)
  | [], _ => ⟨hx, rfl, True.intro⟩
  | w :: r, h => by
    obtain ⟨w0, wt, wr⟩ := h
    by_cases e : w.1 = x.1
    · obtain ⟨w1, w2⟩ := w
      obtain ⟨x1, x2⟩ := x
      have e : w1 = x1 := e
      subst e
      rw [ins_same]
      by_cases h0 : w2 + x2 = 0
      · rw [if_pos h0]
        exact wr
      · rw [if_neg h0]
        exact ⟨h0, wt, wr⟩
    · cases hc : O.tc w.1 x.1
      · rw [ins_apart hc]
        cases ht : O.lt w.1 x.1 && top O x.1 r
        · rw [if_neg (by decide)]
          refine ⟨w0, ?_, nf_ins hx wr⟩
          cases h2 : top O x.1 r
          · exact top_ins (apart_symm hc) wt h2
          · rw [h2, Bool.and_true] at ht
            rw [ins_top h2, top_apart (apart_symm hc), wt, Bool.and_true]
            exact lt_of_not hc ht
        · rw [if_pos rfl]
          exact ⟨hx, by rw [top_apart hc]; exact ht, w0, wt, wr⟩
      · rw [ins_touch hc e]
        exact ⟨hx, top_touch hc e, w0, wt, wr⟩
/-- if a put step frees the top for a name, it took away the piece on the very top -/
theorem freed {b : α} {x : α × Int} (hx : O.tc x.1 b = false) : ∀ {r : Row α}, NF O r → top O x.1 r = false → top O b r = false → top O b (ins O x r) = true →
    ∃ u r', r = (x.1, u) :: r' ∧ O.lt x.1 b = false
  | [], _, h, _, _ => by cases h
  | w :: r, hN, h1, h2, h3 => by
    obtain ⟨w0, wt, wr⟩ := hN
    by_cases e : w.1 = x.1
    · obtain ⟨w1, w2⟩ := w
      obtain ⟨x1, x2⟩ := x
      have e : w1 = x1 := e
      subst e
      refine ⟨w2, r, rfl, ?_⟩
      rw [ins_same] at h3
      rw [top_apart (y := (w1, w2)) hx] at h2
      by_cases h0 : w2 + x2 = 0
      · rw [if_pos h0] at h3
        rw [h3, Bool.and_true] at h2
        exact h2
      · rw [if_neg h0, top_apart (y := (w1, w2 + x2)) hx] at h3
        have h2' : (O.lt w1 b && top O b r) = false := h2
        have h3' : (O.lt w1 b && top O b r) = true := h3
        rw [h2'] at h3'
        cases h3'
    · cases hc : O.tc w.1 x.1
      · rw [top_apart hc] at h1
        rw [ins_apart hc, if_neg (by rw [h1]; decide)] at h3
        cases hwb : O.tc w.1 b
        · rw [top_apart hwb] at h2 h3
          obtain ⟨p1, p2⟩ := Bool.and_eq_true_iff.mp h3
          rw [p1, Bool.true_and] at h2
          have h4 : top O x.1 r = false := by
            cases q : top O x.1 r
            · rfl
            · rw [ins_top q, top_apart hx, h2, Bool.and_false] at p2
              cases p2
          obtain ⟨u, r', rfl, h5⟩ := freed hx wr h4 h2 p2
          rw [top_apart (y := (x.1, u)) (apart_symm hc)] at wt
          have q1 := (Bool.and_eq_true_iff.mp wt).1
          have q2 := O.trans _ _ _ q1 p1
          have q3 : O.lt x.1 b = true := q2
          rw [h5] at q3
          cases q3
        · have n : w.1 ≠ b := by
            intro q
            unfold top at h3
            rw [if_pos hwb] at h3
            simp [q] at h3
          rw [top_touch hwb n] at h2
          cases h2
      · rw [top_touch hc e] at h1
        cases h1
theorem freed_same {x : α × Int} : ∀ {r : Row α}, NF O r → top O x.1 r = false → top O x.1 (ins O x r) = true → ∃ u r', r = (x.1, u) :: r'
  | [], _, h, _ => by cases h
  | w :: r, hN, h1, h3 => by
    obtain ⟨w0, wt, wr⟩ := hN
    by_cases e : w.1 = x.1
    · exact ⟨w.2, r, by rw [← e]⟩
    · cases hc : O.tc w.1 x.1
      · rw [top_apart hc] at h1
        rw [ins_apart hc, if_neg (by rw [h1]; decide), top_apart hc] at h3
        obtain ⟨p1, p2⟩ := Bool.and_eq_true_iff.mp h3
        rw [p1, Bool.true_and] at h1
        obtain ⟨u, r', rfl⟩ := freed_same wr h1 p2
        rw [top_apart (y := (x.1, u)) (apart_symm hc)] at wt
        have q1 := (Bool.and_eq_true_iff.mp wt).1
        have q2 := lt_asym p1
        have q3 : O.lt x.1 w.1 = true := q1
        rw [q2] at q3
        cases q3
      · rw [top_touch hc e] at h1
        cases h1
/-- steps of names that are apart may be put in either order -/
theorem ins_comm {x y : α × Int} (hxy : O.tc x.1 y.1 = false) : ∀ {r : Row α}, NF O r → ins O x (ins O y r) = ins O y (ins O x r)
  | [], _ => by
    show ins O x [y] = ins O y [x]
    rw [ins_apart (apart_symm hxy), ins_apart hxy]
    show (if O.lt y.1 x.1 && true then [x, y] else [y, x]) = if O.lt x.1 y.1 && true then [y, x] else [x, y]
    cases h : O.lt y.1 x.1
    · rw [lt_of_not (apart_symm hxy) h]
      rfl
    · rw [lt_asym h]
      rfl
  | z :: r, hN => by
    have hyx := apart_symm hxy
    have key : ∀ {x y : α × Int}, O.tc x.1 y.1 = false → z.1 = x.1 → ins O x (ins O y (z :: r)) = ins O y (ins O x (z :: r)) := by
      intro x y hxy e
      obtain ⟨z1, z2⟩ := z
      obtain ⟨x1, x2⟩ := x
      have e : z1 = x1 := e
      subst e
      obtain ⟨_, zt, zr⟩ := hN
      have hzy : O.tc z1 y.1 = false := hxy
      rw [ins_apart (x := y) (y := (z1, z2)) hzy, ins_same]
      cases hB : O.lt z1 y.1 && top O y.1 r
      · rw [if_neg (by decide), ins_same]
        by_cases h0 : z2 + x2 = 0
        · rw [if_pos h0, if_pos h0]
        · rw [if_neg h0, if_neg h0, ins_apart (x := y) (y := (z1, z2 + x2)) hzy, if_neg (by rw [hB]; decide)]
      · rw [if_pos rfl, ins_apart (x := (z1, x2)) (y := y) (apart_symm hxy), if_neg (by rw [top_same (s := z2)]; simp), ins_same]
        by_cases h0 : z2 + x2 = 0
        · rw [if_pos h0, ins_top (Bool.and_eq_true_iff.mp hB).2]
        · rw [if_neg h0, ins_apart (x := y) (y := (z1, z2 + x2)) hzy, if_pos hB]
    by_cases ex : z.1 = x.1
    · exact key hxy ex
    by_cases ey : z.1 = y.1
    · exact (key hyx ey).symm
    obtain ⟨z0, zt, zr⟩ := hN
    have ih := ins_comm hxy zr
    have topx : ∀ {x y : α × Int}, O.tc x.1 y.1 = false → z.1 ≠ x.1 → z.1 ≠ y.1 → O.tc z.1 x.1 = true → ins O x (ins O y (z :: r)) = ins O y (ins O x (z :: r)) := by
      intro x y hxy ex ey hx
      have hyx := apart_symm hxy
      rw [ins_touch hx ex, ins_apart (x := y) (y := x) hxy]
      cases hT : top O y.1 (z :: r)
      · rw [if_neg (by simp)]
        have hy : O.tc z.1 y.1 = false := by
          cases q : O.tc z.1 y.1
          · rfl
          · rw [top_touch q ey] at hT
            cases hT
        rw [top_apart hy] at hT
        rw [ins_apart (x := y) (y := z) hy, if_neg (by rw [hT]; decide), ins_touch hx ex]
      · rw [ins_top hT, ins_apart (x := x) (y := y) hyx, top_touch hx ex, ins_touch hx ex]
        cases h : O.lt x.1 y.1
        · rw [lt_of_not hxy h]
          rfl
        · rw [lt_asym h]
          rfl
    cases hx : O.tc z.1 x.1
    · cases hy : O.tc z.1 y.1
      · -- z is apart from both
        have mixed : ∀ {x y : α × Int}, O.tc x.1 y.1 = false → O.tc z.1 x.1 = false → O.tc z.1 y.1 = false → (O.lt z.1 x.1 && top O x.1 r) = true → (O.lt z.1 y.1 && top O y.1 r) = false → ins O x (ins O y (z :: r)) = ins O y (ins O x (z :: r)) := by
          intro x y hxy hx hy hA hB
          have hyx := apart_symm hxy
          obtain ⟨a1, a2⟩ := Bool.and_eq_true_iff.mp hA
          rw [ins_apart (x := y) (y := z) hy, if_neg (by rw [hB]; decide), ins_apart (x := x) (y := z) hx (r := r), if_pos hA, ins_apart (x := y) (y := x) hxy, top_apart hy, hB, Bool.and_false, if_neg (by decide)]
          rw [ins_apart (x := y) (y := z) hy, if_neg (by rw [hB]; decide), ins_apart (x := x) (y := z) hx]
          have t : top O x.1 (ins O y r) = true := by
            cases q : top O y.1 r
            · exact top_ins hyx a2 q
            · rw [q, Bool.and_true] at hB
              rw [ins_top q, top_apart hyx, a2, Bool.and_true]
              exact O.trans _ _ _ (lt_of_not hy hB) a1
          rw [a1, t]
          rfl
        cases hA : O.lt z.1 x.1 && top O x.1 r
        · cases hB : O.lt z.1 y.1 && top O y.1 r
          · rw [ins_apart (x := y) (y := z) hy, if_neg (by rw [hB]; decide), ins_apart (x := x) (y := z) hx (r := r), if_neg (by rw [hA]; decide)]
            have no : ∀ {x y : α × Int}, O.tc x.1 y.1 = false → O.tc z.1 x.1 = false → (O.lt z.1 x.1 && top O x.1 r) = false → (O.lt z.1 y.1 && top O y.1 r) = false → (O.lt z.1 y.1 && top O y.1 (ins O x r)) = false := by
              intro x y hxy hx hA hB
              cases q : O.lt z.1 y.1 && top O y.1 (ins O x r)
              · rfl
              · obtain ⟨q1, q2⟩ := Bool.and_eq_true_iff.mp q
                rw [q1, Bool.true_and] at hB
                cases t : top O x.1 r
                · obtain ⟨u, r', rfl, h5⟩ := freed hxy zr t hB q2
                  rw [top_apart (y := (x.1, u)) (apart_symm hx)] at zt
                  have w1 : O.lt x.1 z.1 = true := (Bool.and_eq_true_iff.mp zt).1
                  rw [O.trans _ _ _ w1 q1] at h5
                  cases h5
                · rw [ins_top t, top_apart hxy, hB, Bool.and_false] at q2
                  cases q2
            rw [ins_apart (x := x) (y := z) hx, if_neg (by rw [no hyx hy hB hA]; decide), ins_apart (x := y) (y := z) hy, if_neg (by rw [no hxy hx hA hB]; decide), ih]
          · exact (mixed hyx hy hx hB hA).symm
        · cases hB : O.lt z.1 y.1 && top O y.1 r
          · exact mixed hxy hx hy hA hB
          · rw [ins_apart (x := y) (y := z) hy, if_pos hB, ins_apart (x := x) (y := z) hx (r := r), if_pos hA, ins_apart (x := x) (y := y) hyx, ins_apart (x := y) (y := x) hxy, top_apart hx, top_apart hy, hA, hB, ins_apart (x := x) (y := z) hx, if_pos hA, ins_apart (x := y) (y := z) hy, if_pos hB]
            cases h : O.lt x.1 y.1
            · rw [lt_of_not hxy h]
              rfl
            · rw [lt_asym h]
              rfl
      · exact (topx hyx ey ex hy).symm
    · exact topx hxy ex ey hx
/-- two steps of one name are one, or none -/
theorem ins_join {a : α} {s t : Int} (hs : s ≠ 0) (ht : t ≠ 0) : ∀ {r : Row α}, NF O r → ins O (a, t) (ins O (a, s) r) = if s + t = 0 then r else ins O (a, s + t) r
  | [], _ => by
    show ins O (a, t) [(a, s)] = _
    rw [ins_same]
    rfl
  | (c, u) :: r, hN => by
    obtain ⟨u0, zt, zr⟩ := hN
    have u0 : u ≠ 0 := u0
    by_cases e : c = a
    · subst e
      rw [ins_same, ins_same]
      by_cases h0 : u + s = 0
      · rw [if_pos h0, ins_top (x := (c, t)) zt]
        by_cases h1 : s + t = 0
        · rw [if_pos h1, show t = u by omega]
        · rw [if_neg h1, if_neg (by omega), show u + (s + t) = t by omega]
      · rw [if_neg h0, ins_same]
        by_cases h1 : s + t = 0
        · rw [if_pos h1, if_neg (by omega), show u + s + t = u by omega]
        · rw [if_neg h1]
          by_cases h2 : u + s + t = 0
          · rw [if_pos h2, if_pos (by omega)]
          · rw [if_neg h2, if_neg (by omega), Int.add_assoc]
    · cases hc : O.tc c a
      · rw [ins_apart (x := (a, s)) (y := (c, u)) hc, ins_apart (x := (a, s + t)) (y := (c, u)) hc]
        cases hA : O.lt c a && top O a r
        · rw [if_neg (by decide), ins_apart (x := (a, t)) (y := (c, u)) hc]
          have no : (O.lt c a && top O a (ins O (a, s) r)) = false := by
            cases q : O.lt c a && top O a (ins O (a, s) r)
            · rfl
            · obtain ⟨q1, q2⟩ := Bool.and_eq_true_iff.mp q
              rw [q1, Bool.true_and] at hA
              obtain ⟨v, r', rfl⟩ := freed_same (x := (a, s)) zr hA q2
              rw [top_apart (y := (a, v)) (apart_symm hc)] at zt
              have w1 : O.lt a c = true := (Bool.and_eq_true_iff.mp zt).1
              rw [lt_asym q1] at w1
              cases w1
          rw [if_neg (show ¬ ((O.lt c a && top O a (ins O (a, s) r)) = true) by rw [no]; decide), ins_join hs ht zr]
          by_cases h1 : s + t = 0
          · rw [if_pos h1, if_pos h1]
          · rw [if_neg h1, if_neg h1, if_neg Bool.false_ne_true]
        · rw [if_pos rfl, if_pos rfl, ins_same]
      · rw [ins_touch (x := (a, s)) (y := (c, u)) hc e, ins_touch (x := (a, s + t)) (y := (c, u)) hc e, ins_same]
end
end XM
set_option linter.all false
namespace XM
section
variable {α : Type} [DecidableEq α] (O : Ord α)
/-- steps put on a least pile, one after another -/
def act (l r : Row α) : Row α := l.foldl (fun r x => ins O x r) r
def NZ (l : Row α) : Prop := ∀ x ∈ l, x.2 ≠ 0
/-- the next step of this name that can come together with one ahead -/
def near (a : α) : Row α → Option Nat
  | [] => none
  | y :: r => if y.1 = a then some 0 else if O.tc y.1 a then none else (near a r).map (· + 1)
def pl : Row α → Bool
  | [] => true
  | x :: r => (near O x.1 r).isNone && pl r
def met : Row α → Option (Nat × Nat)
  | [] => none
  | x :: r => match near O x.1 r with
    | some d => some (0, d + 1)
    | none => (met r).map fun p => (p.1 + 1, p.2 + 1)
variable {O}
theorem NZ.app {l m : Row α} (h : NZ l) (g : NZ m) : NZ (l ++ m) := fun x hx => (List.mem_append.mp hx).elim (h x) (g x)
theorem NZ.left {l m : Row α} (h : NZ (l ++ m)) : NZ l := fun x hx => h x (List.mem_append_left _ hx)
theorem NZ.right {l m : Row α} (h : NZ (l ++ m)) : NZ m := fun x hx => h x (List.mem_append_right _ hx)
theorem act_nil {r : Row α} : act O [] r = r := rfl
theorem act_cons {x : α × Int} {l r : Row α} : act O (x :: l) r = act O l (ins O x r) := rfl
theorem act_app {l m r : Row α} : act O (l ++ m) r = act O m (act O l r) := List.foldl_append
theorem nf_act : ∀ {l r : Row α}, NZ l → NF O r → NF O (act O l r)
  | [], _, _, h => h
  | x :: l, r, z, h => nf_act (l := l) (fun y hy => z y (List.mem_cons_of_mem _ hy)) (nf_ins (z x List.mem_cons_self) h)
theorem nf_nz : ∀ {r : Row α}, NF O r → NZ r
  | [], _ => fun _ h => nomatch h
  | y :: r, h => fun x hx => (List.mem_cons.mp hx).elim (fun e => e ▸ h.1) (nf_nz h.2.2 x)
theorem act_swap {u v r : Row α} {x y : α × Int} (h : O.tc x.1 y.1 = false) (z : NZ u) (hN : NF O r) : act O (u ++ x :: y :: v) r = act O (u ++ y :: x :: v) r := by
  rw [act_app, act_app, act_cons, act_cons, act_cons, act_cons, ins_comm (apart_symm h) (nf_act z hN)]
/-- a step may be brought ahead of those that are apart from it -/
theorem act_move {x : α × Int} {v : Row α} : ∀ {p u r : Row α}, (∀ w ∈ p, O.tc w.1 x.1 = false) → NZ u → NZ p → NF O r → act O (u ++ (p ++ x :: v)) r = act O (u ++ (x :: (p ++ v))) r
  | [], _, _, _, _, _, _ => rfl
  | y :: p, u, r, hp, zu, zp, hN => by
    have e := act_move (x := x) (v := v) (p := p) (u := u ++ [y]) (r := r) (fun w hw => hp w (List.mem_cons_of_mem _ hw)) (zu.app fun w hw => zp w (by rw [List.mem_singleton.mp hw]; exact List.mem_cons_self)) (fun w hw => zp w (List.mem_cons_of_mem _ hw)) hN
    rw [List.append_assoc, List.append_assoc] at e
    have e2 : act O (u ++ (y :: p ++ x :: v)) r = act O (u ++ (y :: x :: (p ++ v))) r := e
    rw [e2, act_swap (hp y List.mem_cons_self) zu hN]
    rfl
/-- the two that can come together do -/
theorem act_meet {a : α} {s t : Int} {u m v r : Row α} (hm : ∀ w ∈ m, O.tc w.1 a = false) (hs : s ≠ 0) (ht : t ≠ 0) (zu : NZ u) (zm : NZ m) (hN : NF O r) :
    act O (u ++ (a, s) :: (m ++ (a, t) :: v)) r = act O (u ++ ((if s + t = 0 then [] else [(a, s + t)]) ++ (m ++ v))) r := by
  have e := act_move (x := (a, t)) (v := v) (p := m) (u := u ++ [(a, s)]) (r := r) hm (zu.app fun w hw => by rw [List.mem_singleton.mp hw]; exact hs) zm hN
  rw [List.append_assoc, List.append_assoc] at e
  have e2 : act O (u ++ (a, s) :: (m ++ (a, t) :: v)) r = act O (u ++ (a, s) :: (a, t) :: (m ++ v)) r := e
  rw [e2, act_app, act_app, act_cons, act_cons, ins_join hs ht (nf_act zu hN)]
  by_cases h : s + t = 0
  · rw [if_pos h, if_pos h, List.nil_append]
  · rw [if_neg h, if_neg h]
    rfl
theorem act_fix : ∀ {r : Row α}, NF O r → act O r.reverse [] = r
  | [], _ => rfl
  | y :: r, h => by
    rw [List.reverse_cons, act_app, act_fix h.2.2]
    exact ins_top h.2.1
/-- a least pile does what its steps did -/
theorem act_ins {x : α × Int} : ∀ {r q : Row α}, NF O r → x.2 ≠ 0 → NF O q → act O (ins O x r).reverse q = ins O x (act O r.reverse q)
  | [], _, _, _, _ => rfl
  | y :: r, q, h, hx, hq => by
    obtain ⟨y0, yt, yr⟩ := h
    have hQ : NF O (act O r.reverse q) := nf_act (fun w hw => nf_nz yr w (List.mem_reverse.mp hw)) hq
    by_cases e : y.1 = x.1
    · obtain ⟨y1, y2⟩ := y
      obtain ⟨x1, x2⟩ := x
      have e : y1 = x1 := e
      subst e
      rw [ins_same, List.reverse_cons, act_app, act_cons, act_nil, ins_join y0 hx hQ]
      by_cases h0 : y2 + x2 = 0
      · rw [if_pos h0, if_pos h0]
      · rw [if_neg h0, if_neg h0, List.reverse_cons, act_app]
        rfl
    · have stay : act O (x :: y :: r).reverse q = ins O x (act O (y :: r).reverse q) := by
        rw [List.reverse_cons, act_app]
        rfl
      cases hc : O.tc y.1 x.1
      · rw [ins_apart hc]
        cases hA : O.lt y.1 x.1 && top O x.1 r
        · rw [if_neg (by decide), List.reverse_cons, act_app, act_ins yr hx hq, List.reverse_cons, act_app]
          exact ins_comm hc hQ
        · rw [if_pos rfl]
          exact stay
      · rw [ins_touch hc e]
        exact stay
theorem act_self : ∀ {l q : Row α}, NZ l → NF O q → act O (act O l []).reverse q = act O l q := by
  intro l
  have gen : ∀ (n : Nat) (l q : Row α), l.length = n → NZ l → NF O q → act O (act O l []).reverse q = act O l q := by
    intro n
    induction n with
    | zero =>
      intro l q h _ _
      rw [List.length_eq_zero_iff.mp h]
      rfl
    | succ n ih =>
      intro l q h z hq
      obtain ⟨p, x, rfl⟩ : ∃ p x, l = p ++ [x] := ⟨l.dropLast, l.getLast (fun e => by rw [e] at h; cases h), (List.dropLast_concat_getLast _).symm⟩
      rw [act_app, act_app, act_cons, act_nil, act_cons, act_nil, act_ins (nf_act z.left (show NF O [] from True.intro)) (z x (by simp)) hq, ih p q (by rw [List.length_append] at h; simpa using h) z.left hq]
  exact fun {q} => gen _ l q rfl
/-- the steps that take steps back -/
def back (l : Row α) : Row α := (l.map fun x => (x.1, -x.2)).reverse
theorem back_nz {l : Row α} (h : NZ l) : NZ (back l) := fun x hx => by
  obtain ⟨y, hy, rfl⟩ := List.mem_map.mp (List.mem_reverse.mp hx)
  have := h y hy
  show -y.2 ≠ 0
  omega
theorem act_back : ∀ {l r : Row α}, NZ l → NF O r → act O (back l) (act O l r) = r
  | [], _, _, _ => rfl
  | x :: l, r, z, h => by
    have hx := z x List.mem_cons_self
    have zl : NZ l := fun y hy => z y (List.mem_cons_of_mem _ hy)
    unfold back
    rw [List.map_cons, List.reverse_cons, act_app, act_cons, act_cons]
    have e := act_back zl (nf_ins hx h)
    unfold back at e
    rw [e, act_nil]
    have j := ins_join (O := O) (a := x.1) (s := x.2) (t := -x.2) hx (by omega) h
    rw [if_pos (by omega)] at j
    exact j
theorem back_back (l : Row α) : back (back l) = l := by
  unfold back
  rw [List.map_reverse, List.reverse_reverse, List.map_map]
  have e : ((fun x : α × Int => (x.1, -x.2)) ∘ fun x => (x.1, -x.2)) = id := by
    funext x
    show (x.1, - -x.2) = x
    rw [Int.neg_neg]
  rw [e, List.map_id]
/-- what makes the same pile is taken back alike -/
theorem act_back_eq {l m r : Row α} (zl : NZ l) (zm : NZ m) (h : act O l [] = act O m []) (hN : NF O r) : act O (back l) r = act O (back m) r := by
  have same : ∀ {q}, NF O q → act O l q = act O m q := fun {q} hq => by rw [← act_self zl hq, h, act_self zm hq]
  have e := act_back (back_nz zl) hN
  rw [back_back] at e
  have e2 := same (nf_act (back_nz zl) hN)
  rw [e] at e2
  have e3 := act_back zm (nf_act (back_nz zl) hN)
  rw [← e2] at e3
  exact e3.symm
/-! ### coming together -/
theorem near_none {a : α} : ∀ {m v : Row α}, (∀ w ∈ m, O.tc w.1 a = false) → (near O a (m ++ v)) = (near O a v).map (· + m.length)
  | [], v, _ => by
    show near O a v = (near O a v).map (· + 0)
    cases near O a v <;> rfl
  | y :: m, v, h => by
    have hy := h y List.mem_cons_self
    show (if y.1 = a then some 0 else if O.tc y.1 a then none else (near O a (m ++ v)).map (· + 1)) = _
    rw [if_neg (ne_of_apart hy), if_neg (by rw [hy]; decide), near_none (fun w hw => h w (List.mem_cons_of_mem _ hw))]
    cases near O a v <;> rfl
theorem near_some {a : α} : ∀ {r : Row α} {d : Nat}, near O a r = some d → ∃ m t v, r = m ++ (a, t) :: v ∧ m.length = d ∧ ∀ w ∈ m, O.tc w.1 a = false
  | [], _, h => by cases h
  | y :: r, d, h => by
    unfold near at h
    by_cases e : y.1 = a
    · rw [if_pos e] at h
      cases h
      exact ⟨[], y.2, r, by rw [← e]; rfl, rfl, fun _ h => nomatch h⟩
    · rw [if_neg e] at h
      cases hc : O.tc y.1 a
      · rw [hc, if_neg (by decide)] at h
        obtain ⟨d', hd, rfl⟩ := Option.map_eq_some_iff.mp h
        obtain ⟨m, t, v, rfl, hl, hm⟩ := near_some hd
        refine ⟨y :: m, t, v, rfl, by rw [List.length_cons, hl], fun w hw => ?_⟩
        rcases List.mem_cons.mp hw with rfl | hw
        · exact hc
        · exact hm w hw
      · rw [hc, if_pos rfl] at h
        cases h
theorem met_pl : ∀ {l : Row α}, met O l = none ↔ pl O l = true
  | [] => ⟨fun _ => rfl, fun _ => rfl⟩
  | x :: r => by
    unfold met pl
    cases near O x.1 r with
    | some d => simp
    | none =>
      simp only [Option.isNone_none, Bool.true_and, Option.map_eq_none_iff]
      exact met_pl
theorem met_some : ∀ {l : Row α} {i j : Nat}, met O l = some (i, j) → ∃ u a s m t v, l = u ++ (a, s) :: (m ++ (a, t) :: v) ∧ u.length = i ∧ i + 1 + m.length = j ∧ ∀ w ∈ m, O.tc w.1 a = false
  | [], _, _, h => by cases h
  | x :: r, i, j, h => by
    unfold met at h
    cases hn : near O x.1 r with
    | some d =>
      rw [hn] at h
      cases h
      obtain ⟨m, t, v, rfl, hl, hm⟩ := near_some hn
      exact ⟨[], x.1, x.2, m, t, v, rfl, rfl, by rw [hl]; omega, hm⟩
    | none =>
      rw [hn] at h
      obtain ⟨⟨i', j'⟩, h2, e⟩ := Option.map_eq_some_iff.mp h
      cases e
      obtain ⟨u, a, s, m, t, v, rfl, h3, h4, h5⟩ := met_some h2
      exact ⟨x :: u, a, s, m, t, v, rfl, by rw [List.length_cons, h3], by omega, h5⟩
/-! ### changes of neighbours that are apart -/
theorem near_swap {a : α} {x y : α × Int} (h : O.tc x.1 y.1 = false) {v : Row α} : ∀ {u : Row α}, (near O a (u ++ x :: y :: v)).isSome = (near O a (u ++ y :: x :: v)).isSome
  | [] => by
    show (near O a (x :: y :: v)).isSome = (near O a (y :: x :: v)).isSome
    have ne := ne_of_apart h
    simp only [near]
    by_cases ex : x.1 = a
    · have ey : y.1 ≠ a := fun q => ne (ex.trans q.symm)
      have ty : O.tc y.1 a = false := by rw [← ex]; exact apart_symm h
      rw [if_pos ex, if_neg ey, ty]
      simp [ex]
    · by_cases ey : y.1 = a
      · have tx : O.tc x.1 a = false := by rw [← ey]; exact h
        simp [ex, ey, tx]
      · cases tx : O.tc x.1 a <;> cases ty : O.tc y.1 a <;> simp [ex, ey]
  | z :: u => by
    have ih := near_swap (a := a) h (v := v) (u := u)
    show (near O a (z :: (u ++ x :: y :: v))).isSome = (near O a (z :: (u ++ y :: x :: v))).isSome
    simp only [near]
    by_cases ez : z.1 = a
    · simp [ez]
    · cases tz : O.tc z.1 a
      · simp [ez, ih]
      · simp [ez]
theorem pl_swap {x y : α × Int} (h : O.tc x.1 y.1 = false) {v : Row α} : ∀ {u : Row α}, pl O (u ++ x :: y :: v) = pl O (u ++ y :: x :: v)
  | [] => by
    have ne := ne_of_apart h
    show ((near O x.1 (y :: v)).isNone && ((near O y.1 v).isNone && pl O v)) = ((near O y.1 (x :: v)).isNone && ((near O x.1 v).isNone && pl O v))
    have e1 : (near O x.1 (y :: v)).isNone = (near O x.1 v).isNone := by
      simp [near, Ne.symm ne, apart_symm h]
    have e2 : (near O y.1 (x :: v)).isNone = (near O y.1 v).isNone := by
      simp [near, ne, h]
    rw [e1, e2, ← Bool.and_assoc, ← Bool.and_assoc, Bool.and_comm (near O x.1 v).isNone]
  | z :: u => by
    have ih := pl_swap h (v := v) (u := u)
    have e := near_swap (a := z.1) h (v := v) (u := u)
    show ((near O z.1 (u ++ x :: y :: v)).isNone && pl O (u ++ x :: y :: v)) = ((near O z.1 (u ++ y :: x :: v)).isNone && pl O (u ++ y :: x :: v))
    rw [ih]
    congr 1
    cases h1 : near O z.1 (u ++ x :: y :: v) <;> cases h2 : near O z.1 (u ++ y :: x :: v) <;> rw [h1, h2] at e <;> first | rfl | cases e
theorem near_move {a : α} {x : α × Int} {v : Row α} : ∀ {p u : Row α}, (∀ w ∈ p, O.tc w.1 x.1 = false) → (near O a (u ++ (p ++ x :: v))).isSome = (near O a (u ++ (x :: (p ++ v)))).isSome
  | [], _, _ => rfl
  | y :: p, u, h => by
    have e := near_move (a := a) (x := x) (v := v) (p := p) (u := u ++ [y]) fun w hw => h w (List.mem_cons_of_mem _ hw)
    rw [List.append_assoc, List.append_assoc] at e
    exact Eq.trans e (near_swap (h y List.mem_cons_self))
theorem pl_move {x : α × Int} {v : Row α} : ∀ {p u : Row α}, (∀ w ∈ p, O.tc w.1 x.1 = false) → pl O (u ++ (p ++ x :: v)) = pl O (u ++ (x :: (p ++ v)))
  | [], _, _ => rfl
  | y :: p, u, h => by
    have e := pl_move (x := x) (v := v) (p := p) (u := u ++ [y]) fun w hw => h w (List.mem_cons_of_mem _ hw)
    rw [List.append_assoc, List.append_assoc] at e
    exact Eq.trans e (pl_swap (h y List.mem_cons_self))
theorem pl_right : ∀ {u v : Row α}, pl O (u ++ v) = true → pl O v = true
  | [], _, h => h
  | x :: u, v, h => pl_right (u := u) (Bool.and_eq_true_iff.mp (show ((near O x.1 (u ++ v)).isNone && pl O (u ++ v)) = true from h)).2
theorem pl_ne {x y : α × Int} {u v q : Row α} (h : pl O (u ++ y :: (v ++ x :: q)) = true) (hv : ∀ w ∈ v, O.tc w.1 x.1 = false) : y.1 ≠ x.1 := fun e => by
  have h1 := (Bool.and_eq_true_iff.mp (show ((near O y.1 (v ++ x :: q)).isNone && pl O (v ++ x :: q)) = true from pl_right h)).1
  rw [e, near_none hv] at h1
  simp [near] at h1
/-! ### sorting a pile -/
/-- where least names came first -/
structure Srt (O : Ord α) (found left : Row α) : Prop where
  own : ∀ u y v z q, found = u ++ y :: (v ++ z :: q) → O.tc y.1 z.1 = false → (∀ w ∈ v, O.tc w.1 z.1 = false) → O.lt y.1 z.1 = true
  out : ∀ u y v p z q, found = u ++ y :: v → left = p ++ z :: q → O.tc y.1 z.1 = false → (∀ w ∈ v, O.tc w.1 z.1 = false) → (∀ w ∈ p, O.tc w.1 z.1 = false) → O.lt y.1 z.1 = true
theorem Srt.nil (left : Row α) : Srt O [] left := ⟨fun u y v z q h => by simp at h, fun u y v p z q h => by simp at h⟩
/-- the least of those that can stand first -/
structure LeastFirst (O : Ord α) (p : Row α) (x : α × Int) (q : Row α) : Prop where
  free : ∀ w ∈ p, O.tc w.1 x.1 = false
  least : ∀ p' z q', p ++ x :: q = p' ++ z :: q' → (∀ w ∈ p', O.tc w.1 z.1 = false) → z.1 ≠ x.1 → O.lt x.1 z.1 = true
theorem split_end {u v : Row α} {y x : α × Int} {l : Row α} (h : l ++ [x] = u ++ y :: v) : (v = [] ∧ l = u ∧ x = y) ∨ ∃ v', v = v' ++ [x] ∧ l = u ++ y :: v' := by
  rcases List.eq_nil_or_concat v with rfl | ⟨v', z, rfl⟩
  · left
    have := List.append_inj' h rfl
    exact ⟨rfl, this.1, by simpa using this.2⟩
  · right
    rw [List.concat_eq_append] at h ⊢
    have h' : l ++ [x] = (u ++ y :: v') ++ [z] := by rw [h]; simp
    have := List.append_inj' h' rfl
    have e : x = z := by simpa using this.2
    exact ⟨v', by rw [e], this.1⟩
theorem Srt.step {found p q : Row α} {x : α × Int} (S : Srt O found (p ++ x :: q)) (L : LeastFirst O p x q) : Srt O (found ++ [x]) (p ++ q) := by
  constructor
  · intro u y v z r h hyz hv
    have h' : found ++ [x] = (u ++ y :: v) ++ z :: r := by rw [h]; simp
    rcases split_end h' with ⟨rfl, e1, e2⟩ | ⟨r', rfl, e1⟩
    · subst e2
      exact S.out u y v p x q e1 rfl hyz hv L.free
    · exact S.own u y v z r' (by rw [e1]; simp) hyz hv
  · intro u y v p' z q' h h2 hyz hv hp'
    -- z in the row with x
    have place : (∃ q1, p = p' ++ z :: q1) ∨ (∃ q1, q = q1 ++ z :: q' ∧ p' = p ++ q1) := by
      rcases List.append_eq_append_iff.mp h2 with ⟨as, e1, e2⟩ | ⟨bs, e1, e2⟩
      · exact .inr ⟨as, e2, e1⟩
      · cases bs with
        | nil => exact .inr ⟨[], by simpa using e2.symm, by simpa using e1.symm⟩
        | cons b bs =>
          rw [List.cons_append] at e2
          injection e2 with e3 e4
          subst e3
          exact .inl ⟨bs, e1⟩
    rcases split_end h with ⟨rfl, e1, e2⟩ | ⟨v', rfl, e1⟩
    · subst e2
      rcases place with ⟨q1, rfl⟩ | ⟨q1, rfl, rfl⟩
      · exact L.least p' z (q1 ++ x :: q) (by simp) hp' (fun e => by rw [e, O.refl] at hyz; cases hyz)
      · refine L.least (p ++ x :: q1) z q' (by simp) (fun w hw => ?_) (fun e => by rw [e, O.refl] at hyz; cases hyz)
        rcases List.mem_append.mp hw with hw | hw
        · exact hp' w (List.mem_append_left _ hw)
        · rcases List.mem_cons.mp hw with rfl | hw
          · exact hyz
          · exact hp' w (List.mem_append_right _ hw)
    · have hx : O.tc x.1 z.1 = false := hv x (by simp)
      have hv' : ∀ w ∈ v', O.tc w.1 z.1 = false := fun w hw => hv w (List.mem_append_left _ hw)
      rcases place with ⟨q1, rfl⟩ | ⟨q1, rfl, rfl⟩
      · exact S.out u y v' p' z (q1 ++ x :: q) e1 (by simp) hyz hv' hp'
      · refine S.out u y v' (p ++ x :: q1) z q' e1 (by simp) hyz hv' fun w hw => ?_
        rcases List.mem_append.mp hw with hw | hw
        · exact hp' w (List.mem_append_left _ hw)
        · rcases List.mem_cons.mp hw with rfl | hw
          · exact hx
          · exact hp' w (List.mem_append_right _ hw)
theorem top_of {a : α} : ∀ {r : Row α}, (∀ v' y u', r = v' ++ y :: u' → (∀ w ∈ v', O.tc w.1 a = false) → O.tc y.1 a = false → O.lt y.1 a = true) → (∀ v' y u', r = v' ++ y :: u' → (∀ w ∈ v', O.tc w.1 a = false) → y.1 ≠ a) → top O a r = true
  | [], _, _ => rfl
  | y :: r, h1, h2 => by
    cases hc : O.tc y.1 a
    · rw [top_apart hc, h1 [] y r rfl (fun _ h => nomatch h) hc, Bool.true_and]
      refine top_of (fun v' z u' e hv hz => h1 (y :: v') z u' (by rw [e]; rfl) (fun w hw => ?_) hz) (fun v' z u' e hv => h2 (y :: v') z u' (by rw [e]; rfl) fun w hw => ?_)
      · rcases List.mem_cons.mp hw with rfl | hw
        · exact hc
        · exact hv w hw
      · rcases List.mem_cons.mp hw with rfl | hw
        · exact hc
        · exact hv w hw
    · exact top_touch hc (h2 [] y r rfl fun _ h => nomatch h)
/-- a pile in which least names came first is a least pile -/
theorem nf_of {left : Row α} : ∀ (n : Nat) (found : Row α), found.length = n → Srt O found left → pl O (found ++ left) = true → NZ found → NF O found.reverse := by
  intro n
  have pre : ∀ (n : Nat) (found : Row α) (tail : Row α), found.length = n → (∀ u y v z q, found = u ++ y :: (v ++ z :: q) → O.tc y.1 z.1 = false → (∀ w ∈ v, O.tc w.1 z.1 = false) → O.lt y.1 z.1 = true) → pl O (found ++ tail) = true → NZ found → NF O found.reverse := by
    intro n
    induction n with
    | zero =>
      intro found tail h _ _ _
      rw [List.length_eq_zero_iff.mp h]
      exact True.intro
    | succ n ih =>
      intro found tail h hS hP hZ
      obtain ⟨f, x, rfl⟩ : ∃ f x, found = f ++ [x] := ⟨found.dropLast, found.getLast (fun e => by rw [e] at h; cases h), (List.dropLast_concat_getLast _).symm⟩
      have hl : f.length = n := by
        rw [List.length_append] at h
        simpa using h
      rw [List.reverse_append]
      refine ⟨hZ x (by simp), ?_, ih f (x :: tail) hl (fun u y v z q e => hS u y v z (q ++ [x]) (by rw [e]; simp)) (by simpa using hP) hZ.left⟩
      refine top_of (fun v' y u' e hv hy => ?_) (fun v' y u' e hv => ?_)
      · have e2 : f = u'.reverse ++ y :: v'.reverse := by
          have := congrArg List.reverse e
          simpa using this
        exact hS u'.reverse y v'.reverse x [] (by rw [e2]; simp) hy fun w hw => hv w (List.mem_reverse.mp hw)
      · have e2 : f = u'.reverse ++ y :: v'.reverse := by
          have := congrArg List.reverse e
          simpa using this
        exact pl_ne (O := O) (x := x) (y := y) (u := u'.reverse) (v := v'.reverse) (q := tail) (by rw [e2] at hP; simpa using hP) fun w hw => hv w (List.mem_reverse.mp hw)
  intro found h S hP hZ
  exact pre n found left h S.own hP hZ
end
end XM
set_option linter.all false
namespace XM
section
variable {α : Type} [DecidableEq α] {O : Ord α}
theorem ins_len {x : α × Int} : ∀ {r : Row α}, (ins O x r).length ≤ r.length + 1
  | [] => Nat.le_refl _
  | y :: r => by
    have ih := ins_len (x := x) (r := r)
    unfold ins
    split
    · split <;> simp <;> omega
    · split
      · simp
      · split
        · simp
        · simp only [List.length_cons]
          omega
theorem act_len : ∀ {l r : Row α}, (act O l r).length ≤ l.length + r.length
  | [], r => by simp [act]
  | x :: l, r => by
    have h1 := act_len (l := l) (r := ins O x r)
    have h2 := ins_len (O := O) (x := x) (r := r)
    rw [act_cons, List.length_cons]
    omega
/-! ### those that can stand first -/
/-- the first of those that can stand first -/
theorem ex_least : ∀ (n : Nat) (left : Row α), left.length = n → left ≠ [] → ∃ p x q, left = p ++ x :: q ∧ LeastFirst O p x q := by
  intro n
  -- among the splits with a free item there is one of least name
  have gen : ∀ (k : Nat) (left : Row α) (p : Row α) (x : α × Int) (q : Row α), left = p ++ x :: q → (∀ w ∈ p, O.tc w.1 x.1 = false) →
      (left.filter fun y => O.lt y.1 x.1).length ≤ k → ∃ p x q, left = p ++ x :: q ∧ LeastFirst O p x q := by
    intro k
    induction k with
    | zero =>
      intro left p x q e hp hk
      refine ⟨p, x, q, e, hp, fun p' z q' e' hp' hn => ?_⟩
      cases h : O.lt x.1 z.1
      · have hz : O.lt z.1 x.1 = true := O.tot _ _ (fun e => hn e.symm) h
        have hm : z ∈ left.filter fun y => O.lt y.1 x.1 := List.mem_filter.mpr ⟨by rw [e, e']; simp, hz⟩
        rw [List.length_eq_zero_iff.mp (Nat.le_zero.mp hk)] at hm
        cases hm
      · rfl
    | succ k ih =>
      intro left p x q e hp hk
      by_cases hex : ∃ p' z q', left = p' ++ z :: q' ∧ (∀ w ∈ p', O.tc w.1 z.1 = false) ∧ O.lt z.1 x.1 = true
      · obtain ⟨p', z, q', e', hp', hz⟩ := hex
        refine ih left p' z q' e' hp' ?_
        have hlt : (left.filter fun y => O.lt y.1 z.1).length < (left.filter fun y => O.lt y.1 x.1).length := by
          have hsub : (left.filter fun y => O.lt y.1 z.1) = (left.filter fun y => O.lt y.1 x.1).filter fun y => O.lt y.1 z.1 := by
            rw [List.filter_filter]
            congr 1
            funext y
            cases h1 : O.lt y.1 z.1
            · rfl
            · rw [O.trans _ _ _ h1 hz]
              rfl
          rw [hsub]
          have hm : z ∈ left.filter fun y => O.lt y.1 x.1 := List.mem_filter.mpr ⟨by rw [e']; simp, hz⟩
          refine Nat.lt_of_le_of_ne (List.length_filter_le _ _) fun he => ?_
          have := List.length_filter_eq_length_iff.mp he z hm
          rw [O.irr] at this
          cases this
        omega
      · refine ⟨p, x, q, e, hp, fun p' z q' e' hp' hn => ?_⟩
        cases h : O.lt x.1 z.1
        · exact absurd ⟨p', z, q', by rw [e, e'], hp', O.tot _ _ (fun e => hn e.symm) h⟩ hex
        · rfl
  intro left h hne
  cases left with
  | nil => exact absurd rfl hne
  | cons x q => exact gen _ (x :: q) [] x q rfl (fun _ h => nomatch h) (Nat.le_refl _)
/-- each pile can be sorted -/
theorem sort_ex {l : Row α} (hP : pl O l = true) (hZ : NZ l) : ∃ f : Row α, NF O f.reverse ∧ act O f [] = act O l [] ∧ f.length = l.length ∧ ∀ a, (near O a f).isSome = (near O a l).isSome := by
  have go : ∀ (n : Nat) (found left : Row α), left.length = n → Srt O found left → pl O (found ++ left) = true → NZ (found ++ left) →
      ∃ f : Row α, NF O f.reverse ∧ act O f [] = act O (found ++ left) [] ∧ f.length = (found ++ left).length ∧ ∀ a, (near O a f).isSome = (near O a (found ++ left)).isSome := by
    intro n
    induction n with
    | zero =>
      intro found left h S P Z
      have e : left = [] := List.length_eq_zero_iff.mp h
      subst e
      rw [List.append_nil] at Z ⊢
      exact ⟨found, nf_of _ found rfl S P Z, rfl, rfl, fun _ => rfl⟩
    | succ n ih =>
      intro found left h S P Z
      obtain ⟨p, x, q, rfl, L⟩ := ex_least (O := O) _ left rfl (fun e => by rw [e] at h; cases h)
      have zf := Z.left
      have zp : NZ p := Z.right.left
      have e0 : found ++ x :: (p ++ q) = found ++ [x] ++ (p ++ q) := by simp
      have P' : pl O (found ++ [x] ++ (p ++ q)) = true := by rw [← e0, ← pl_move L.free]; exact P
      have Z' : NZ (found ++ [x] ++ (p ++ q)) := fun y hy => Z y (by
        simp only [List.mem_append, List.mem_cons, List.mem_nil_iff, or_false] at hy ⊢
        rcases hy with (hy | hy) | hy | hy <;> simp [hy])
      obtain ⟨f, h1, h2, h3, h4⟩ := ih (found ++ [x]) (p ++ q) (by rw [List.length_append] at h ⊢; simp at h; omega) (S.step L) P' Z'
      refine ⟨f, h1, h2.trans ?_, h3.trans ?_, fun a => (h4 a).trans ?_⟩
      · rw [← e0, act_move L.free zf zp (show NF O [] from True.intro)]
      · simp only [List.length_append, List.length_cons, List.length_nil]
        omega
      · rw [← e0, near_move L.free]
  have := go l.length [] l rfl (Srt.nil l) (by simpa using hP) (by simpa using hZ)
  simpa using this
theorem near_pile {l : Row α} (hP : pl O l = true) (hZ : NZ l) (a : α) : (near O a (act O l []).reverse).isSome = (near O a l).isSome := by
  obtain ⟨f, h1, h2, _, h4⟩ := sort_ex hP hZ
  have e : (act O l []).reverse = f := by
    have := act_fix h1
    rw [List.reverse_reverse] at this
    rw [← h2, this, List.reverse_reverse]
  rw [e]
  exact h4 a
/-- a row is a pile exactly if its pile has as many pieces -/
theorem pile_iff {l : Row α} (hZ : NZ l) : (act O l []).length = l.length ↔ met O l = none := by
  constructor
  · intro h
    cases hm : met O l with
    | none => rfl
    | some ij =>
      obtain ⟨u, a, s, m, t, v, rfl, _, _, h5⟩ := met_some hm
      have hs : s ≠ 0 := hZ (a, s) (by simp)
      have ht : t ≠ 0 := hZ (a, t) (by simp)
      have zu : NZ u := hZ.left
      have zm : NZ m := fun w hw => hZ w (by simp [hw])
      rw [act_meet h5 hs ht zu zm (show NF O [] from True.intro)] at h
      have hl := act_len (O := O) (l := u ++ ((if s + t = 0 then [] else [(a, s + t)]) ++ (m ++ v))) (r := [])
      rw [h] at hl
      simp only [List.length_append, List.length_cons, List.length_nil] at hl
      by_cases h0 : s + t = 0
      · rw [if_pos h0] at hl
        simp at hl
        omega
      · rw [if_neg h0] at hl
        simp at hl
        omega
  · intro h
    obtain ⟨f, h1, h2, h3, _⟩ := sort_ex (O := O) (met_pl.mp h) hZ
    have := act_fix h1
    rw [List.reverse_reverse] at this
    rw [← h2, this, List.length_reverse, h3]
theorem pl_nf : ∀ {r : Row α}, NF O r → pl O r.reverse = true := fun {r} h => by
  have hz : NZ r.reverse := fun x hx => nf_nz h x (List.mem_reverse.mp hx)
  refine met_pl.mp ((pile_iff hz).mp ?_)
  rw [act_fix h, List.length_reverse]
/-! ### the other way round -/
theorem near_map {a : α} {g : α × Int → α × Int} (hg : ∀ x, (g x).1 = x.1) : ∀ {l : Row α}, near O a (l.map g) = near O a l
  | [] => rfl
  | x :: l => by
    show (if (g x).1 = a then some 0 else if O.tc (g x).1 a then none else (near O a (l.map g)).map (· + 1)) = _
    rw [near_map hg, hg]
    rfl
/-- none of one name behind one of the same that could come to it: told from the end -/
theorem pl_rev : ∀ {l : Row α}, pl O l = true → pl O l.reverse = true := by
  have key : ∀ (l : Row α), (∀ u a s m t v, l = u ++ (a, s) :: (m ++ (a, t) :: v) → ∃ w ∈ m, O.tc w.1 a = true) ↔ pl O l = true := by
    intro l
    constructor
    · intro h
      refine met_pl.mp ?_
      cases hm : met O l with
      | none => rfl
      | some ij =>
        obtain ⟨u, a, s, m, t, v, e, _, _, h5⟩ := met_some hm
        obtain ⟨w, hw, h6⟩ := h u a s m t v e
        rw [h5 w hw] at h6
        cases h6
    · intro h u a s m t v e
      by_cases hex : ∃ w ∈ m, O.tc w.1 a = true
      · exact hex
      · exact absurd rfl (pl_ne (O := O) (x := (a, t)) (y := (a, s)) (u := u) (v := m) (q := v) (by rw [← e]; exact h) fun w hw => by
          cases q : O.tc w.1 a
          · rfl
          · exact absurd ⟨w, hw, q⟩ hex)
  intro l h
  refine (key _).mp fun u a s m t v e => ?_
  have e2 : l = v.reverse ++ (a, t) :: (m.reverse ++ (a, s) :: u.reverse) := by
    have := congrArg List.reverse e
    simpa using this
  obtain ⟨w, hw, hc⟩ := (key l).mpr h _ _ _ _ _ _ e2
  exact ⟨w, List.mem_reverse.mp hw, hc⟩
theorem pl_map {g : α × Int → α × Int} (hg : ∀ x, (g x).1 = x.1) : ∀ {l : Row α}, pl O (l.map g) = pl O l
  | [] => rfl
  | x :: l => by
    show ((near O (g x).1 (l.map g)).isNone && pl O (l.map g)) = _
    rw [near_map hg, hg, pl_map hg]
    rfl
/-- what can stand last in a pile can stand first in that of what takes back -/
theorem near_back {l : Row α} (hZ : NZ l) (a : α) : (near O a (act O (back l) []).reverse).isSome = (near O a (act O l [])).isSome := by
  have hN : NF O (act O l []) := nf_act hZ (show NF O [] from True.intro)
  have hz : NZ (act O l []).reverse := fun x hx => nf_nz hN x (List.mem_reverse.mp hx)
  have e : act O (back l) [] = act O (back (act O l []).reverse) [] := act_back_eq hZ hz (act_fix hN).symm (show NF O [] from True.intro)
  have hb : back (act O l []).reverse = (act O l []).map fun x => (x.1, -x.2) := by
    unfold back
    rw [List.map_reverse, List.reverse_reverse]
  have hp : pl O ((act O l []).map fun x => (x.1, -x.2)) = true := by
    rw [pl_map (g := fun x => (x.1, -x.2)) fun _ => rfl]
    have := pl_rev (pl_nf hN)
    rwa [List.reverse_reverse] at this
  rw [e, hb, near_pile hp (by rw [← hb]; exact back_nz hz), near_map (g := fun x => (x.1, -x.2)) fun _ => rfl]
/-! ### names that can stand first, in their order -/
def frs (O : Ord α) (bar : Row α) : Row α → List α
  | [] => []
  | x :: r => if bar.all (fun w => !O.tc w.1 x.1) then x.1 :: frs O (bar ++ [x]) r else frs O (bar ++ [x]) r
theorem mem_frs {n : α} : ∀ {l bar : Row α}, n ∈ frs O bar l ↔ (∀ w ∈ bar, O.tc w.1 n = false) ∧ (near O n l).isSome = true
  | [], bar => by simp [frs, near]
  | x :: l, bar => by
    have ih := mem_frs (n := n) (l := l) (bar := bar ++ [x])
    have all_iff : (bar.all fun w => !O.tc w.1 x.1) = true ↔ ∀ w ∈ bar, O.tc w.1 x.1 = false := by simp
    have hx : (∀ w ∈ bar ++ [x], O.tc w.1 n = false) ↔ (∀ w ∈ bar, O.tc w.1 n = false) ∧ O.tc x.1 n = false := by
      constructor
      · exact fun h => ⟨fun w hw => h w (by simp [hw]), h x (by simp)⟩
      · rintro ⟨h1, h2⟩ w hw
        rcases List.mem_append.mp hw with hw | hw
        · exact h1 w hw
        · rw [List.mem_singleton.mp hw]
          exact h2
    rw [hx] at ih
    unfold frs near
    by_cases e : x.1 = n
    · subst e
      rw [if_pos rfl]
      simp only [Option.isSome_some, and_true]
      have no : x.1 ∉ frs O (bar ++ [x]) l := fun hm => by
        have := (ih.mp hm).1.2
        rw [O.refl] at this
        cases this
      split
      · rename_i h
        exact ⟨fun _ => all_iff.mp h, fun _ => List.mem_cons_self⟩
      · rename_i h
        exact ⟨fun hm => absurd hm no, fun hb => absurd (all_iff.mpr hb) h⟩
    · rw [if_neg e]
      have base : n ∈ frs O (bar ++ [x]) l ↔ (∀ w ∈ bar, O.tc w.1 n = false) ∧ (if O.tc x.1 n then none else (near O n l).map (· + 1)).isSome = true := by
        rw [ih]
        cases hc : O.tc x.1 n <;> simp
      split
      · rw [List.mem_cons]
        exact ⟨fun h => h.elim (fun q => absurd q.symm e) base.mp, fun h => .inr (base.mpr h)⟩
      · exact base
theorem nodup_frs : ∀ {l bar : Row α}, (frs O bar l).Nodup
  | [], _ => List.nodup_nil
  | x :: l, bar => by
    have ih := nodup_frs (l := l) (bar := bar ++ [x])
    unfold frs
    split
    · refine List.nodup_cons.mpr ⟨fun hm => ?_, ih⟩
      have := (mem_frs.mp hm).1 x (by simp)
      rw [O.refl] at this
      cases this
    · exact ih
end
end XM
set_option Elab.async false
set_option linter.all false
set_option maxRecDepth 100000
set_option maxHeartbeats 4000000
namespace XB
open PySem PySem.Spec PyProof.Rows L2
/-! ### the order of texts is one -/
theorem str_ext {a b : Str} (h : a.cps.toList = b.cps.toList) : a = b := by
  obtain ⟨⟨x⟩⟩ := a
  obtain ⟨⟨y⟩⟩ := b
  have h : x = y := h
  rw [h]
theorem sLt_irr (a : Str) : sLt a a = false := decide_eq_false (List.lt_irrefl _)
theorem sLt_trans (a b c : Str) (h : sLt a b = true) (g : sLt b c = true) : sLt a c = true := decide_eq_true (List.lt_trans (of_decide_eq_true h) (of_decide_eq_true g))
theorem sLt_tot (a b : Str) (n : a ≠ b) (h : sLt a b = false) : sLt b a = true := by
  have h1 : ¬ a.cps.toList < b.cps.toList := of_decide_eq_false h
  refine decide_eq_true ?_
  have h2 : b.cps.toList ≤ a.cps.toList := List.not_lt.mp h1
  rcases Classical.em (b.cps.toList < a.cps.toList) with h3 | h3
  · exact h3
  · exact absurd (str_ext (List.le_antisymm (List.not_lt.mp h3) h2)) n
/-! ### fields and rows of steps as data -/
structure Fld where
  names : List Str
  pairs : List (Str × Str)
def apart (F : Fld) (a b : Str) : Bool := F.pairs.contains (a, b) || F.pairs.contains (b, a)
def OF (F : Fld) : XM.Ord Str where
  tc := fun a b => decide (a = b) || !apart F a b
  lt := sLt
  refl := fun a => by simp
  symm := fun a b => by
    unfold apart
    rw [Bool.or_comm (F.pairs.contains (a, b))]
    congr 1
    exact decide_eq_decide.mpr ⟨Eq.symm, Eq.symm⟩
  irr := sLt_irr
  trans := sLt_trans
  tot := sLt_tot
/-- what a field keeps, as far as the functions of piles lean on it -/
structure Fld.Ok (F : Fld) : Prop where
  n0 : 0 < F.names.length
  n6 : F.names.length ≤ 6
  asc : ∀ p ∈ F.pairs, sLt p.1 p.2 = true
  inN : ∀ p ∈ F.pairs, p.1 ∈ F.names ∧ p.2 ∈ F.names
  sgn : ∀ n ∈ F.names, 1 ≤ n.length ∧ n.length ≤ 6 ∧ ∀ c ∈ n.cps.toList, 97 ≤ c ∧ c ≤ 122
  asN : F.names.Pairwise fun a b => sLt a b = true
  asP : F.pairs.Pairwise fun p q => (if p.1 == q.1 then (if p.2 == q.2 then false else sLt p.2 q.2) else sLt p.1 q.1) = true
  len : F.pairs.length ≤ 100
theorem apart_ne {F : Fld} (ok : F.Ok) {a : Str} : apart F a a = false := by
  have h : ¬ (a, a) ∈ F.pairs := fun h => by
    have := ok.asc _ h
    rw [sLt_irr] at this
    cases this
  unfold apart
  simp [h]
theorem tc_eq {F : Fld} (ok : F.Ok) (a b : Str) : (OF F).tc a b = !apart F a b := by
  show (decide (a = b) || !apart F a b) = _
  by_cases e : a = b
  · subst e
    rw [apart_ne ok]
    simp
  · simp [e]
/-- as the program asks it: the less one first -/
theorem apart_min {F : Fld} (ok : F.Ok) (a b : Str) : F.pairs.contains ((if sLt b a then b else a), (if sLt a b then b else a)) = apart F a b := by
  unfold apart
  cases h : sLt a b
  · by_cases e : a = b
    · subst e
      rw [sLt_irr]
      simp
    · have h2 := sLt_tot _ _ e h
      rw [h2]
      have n : ¬ (a, b) ∈ F.pairs := fun q => by
        have := ok.asc _ q
        rw [h] at this
        cases this
      simp [n]
  · have h2 : sLt b a = false := by
      cases q : sLt b a
      · rfl
      · have := sLt_trans _ _ _ h q
        rw [sLt_irr] at this
        cases this
    rw [h2]
    have n : ¬ (b, a) ∈ F.pairs := fun q => by
      have := ok.asc _ q
      rw [h2] at this
      cases this
    simp [n]
def touchL (F : Fld) (n : Str) : List Str := F.names.filter fun o => !apart F n o
theorem mem_touch {F : Fld} {a b : Str} (ok : F.Ok) (hb : b ∈ F.names) : (touchL F a).contains b = (OF F).tc b a := by
  rw [(OF F).symm, tc_eq ok]
  unfold touchL
  cases h : apart F a b <;> simp [hb, h]
def dPair (p : Str × Str) : PyData := .tuple [.str p.1, .str p.2]
def dNames (l : List Str) : PyData := .tuple (l.map .str)
def dField (F : Fld) : PyData := .tuple [dNames F.names, .tuple (F.pairs.map dPair)]
def dStep (s : Str × Int) : PyData := .tuple [.str s.1, .int s.2]
def dSteps (l : List (Str × Int)) : PyData := .tuple (l.map dStep)
/-! ### what stands while other things change -/
/-- tuples stand -/
structure Tk (H H' : Hp) : Prop where
  t : ∀ b xs, H b = some (.tup xs) → H' b = some (.tup xs)
  z : ∀ b o u, H b = some (.frz o u) → H' b = some (.frz o u)
theorem Tk.refl {H : Hp} : Tk H H := ⟨fun _ _ e => e, fun _ _ _ e => e⟩
theorem Tk.trans {H H1 H2 : Hp} (a : Tk H H1) (b : Tk H1 H2) : Tk H H2 := ⟨fun x xs e => b.t x xs (a.t x xs e), fun x o u e => b.z x o u (a.z x o u e)⟩
theorem Tk.of {H H1 : Hp} (a : Same H H1) : Tk H H1 := ⟨fun x xs e => a x _ e, fun x o u e => a x _ e⟩
theorem Tk.new {H H1 : Hp} {p : Addr} {o : HO} (a : Tk H H1) (hp : H1 p = none) : Tk H (upd H1 p o) := a.trans (Tk.of (same_upd hp))
theorem Tk.mut {H H1 : Hp} {p : Addr} {o u : HO} (a : Tk H H1) (hp : H1 p = some u) (h1 : ∀ xs, u ≠ .tup xs) (h2 : ∀ o' u', u ≠ .frz o' u') : Tk H (upd H1 p o) :=
  a.trans ⟨fun b xs e => by rw [upd_ne (ne_of e hp fun q => h1 xs q.symm)]; exact e, fun b o' u' e => by rw [upd_ne (ne_of e hp fun q => h2 o' u' q.symm)]; exact e⟩
theorem Tk.lst {H H1 : Hp} {p : Addr} {o : HO} {xs : List V} (a : Tk H H1) (hp : H1 p = some (.lst xs)) : Tk H (upd H1 p o) := a.mut hp (fun _ q => nomatch q) (fun _ _ q => nomatch q)
theorem Tk.sqT {K : PySem.W.Frag} {H H' : Hp} {a : Addr} {xs : List V} (k : Tk H H') (h : SqT K H a xs) : SqT K H' a xs := by
  rcases h with h | h
  · rcases h with h | ⟨o, h⟩
    · exact .inl (.inl (k.t _ _ h))
    · exact .inl (.inr ⟨o, k.z _ _ _ h⟩)
  · exact .inr h
mutual
def flatD : PyData → Bool
  | .none | .bool _ | .int _ | .str _ => true
  | .tuple xs => flatAll xs
  | .list _ | .dict _ => false
def flatAll : List PyData → Bool
  | [] => true
  | x :: xs => flatD x && flatAll xs
end
mutual
theorem Dp.tk {K : PySem.W.Frag} {H H' : Hp} (k : Tk H H') : ∀ (d : PyData) {v : V}, flatD d = true → Dp K H v d → Dp K H' v d
  | .none, _, _, h => by cases h; exact .non
  | .bool b, _, _, h => by cases h; exact .bl b
  | .int i, _, _, h => by cases h; exact .int i
  | .str x, _, _, h => by cases h; exact .str x
  | .tuple ds, _, hf, h => by
    cases h with
    | tup hs ha => exact .tup (k.sqT hs) (DpAll.tk k ds (by simpa only [flatD] using hf) ha)
  | .list _, _, hf, _ => by simp only [flatD] at hf; cases hf
  | .dict _, _, hf, _ => by simp only [flatD] at hf; cases hf
theorem DpAll.tk {K : PySem.W.Frag} {H H' : Hp} (k : Tk H H') : ∀ (ds : List PyData) {vs : List V}, flatAll ds = true → DpAll K H vs ds → DpAll K H' vs ds
  | [], _, _, h => by cases h; exact .nil
  | d :: ds, _, hf, h => by
    simp only [flatAll, Bool.and_eq_true] at hf
    cases h with
    | cons h1 h2 => exact .cons (Dp.tk k d hf.1 h1) (DpAll.tk k ds hf.2 h2)
end
theorem flatAll_of : ∀ {l : List PyData}, (∀ d ∈ l, flatD d = true) → flatAll l = true
  | [], _ => rfl
  | d :: l, h => by
    simp only [flatAll, Bool.and_eq_true]
    exact ⟨h d List.mem_cons_self, flatAll_of fun x hx => h x (List.mem_cons_of_mem _ hx)⟩
theorem flat_step (s : Str × Int) : flatD (dStep s) = true := rfl
theorem flat_all_steps (l : List (Str × Int)) : flatAll (l.map dStep) = true := flatAll_of fun d hd => by
  obtain ⟨s, _, rfl⟩ := List.mem_map.mp hd
  exact flat_step s
theorem flat_steps (l : List (Str × Int)) : flatD (dSteps l) = true := by
  show flatD (.tuple _) = true
  simp only [flatD]
  exact flat_all_steps l
theorem flat_names (l : List Str) : flatD (dNames l) = true := by
  show flatD (.tuple _) = true
  simp only [flatD]
  exact flatAll_of fun d hd => by
    obtain ⟨s, _, rfl⟩ := List.mem_map.mp hd
    rfl
theorem flat_field (F : Fld) : flatD (dField F) = true := by
  show flatD (.tuple _) = true
  simp only [flatD, flatAll, flat_names, Bool.true_and, Bool.and_true]
  exact flatAll_of fun d hd => by
    obtain ⟨s, _, rfl⟩ := List.mem_map.mp hd
    rfl
end XB
namespace L2
open PySem PySem.Spec PyProof.Rows XB
/-! ### rows of data by places -/
section
variable {K : PySem.W.Frag} {H : Hp}
theorem DpAll.len : ∀ {vs : List V} {ds : List PyData}, DpAll K H vs ds → vs.length = ds.length
  | _, _, .nil => rfl
  | _, _, .cons _ t => by rw [List.length_cons, List.length_cons, DpAll.len t]
theorem DpAll.get : ∀ {vs : List V} {ds : List PyData} {i : Nat} {v : V}, DpAll K H vs ds → vs[i]? = some v → ∃ d, ds[i]? = some d ∧ Dp K H v d
  | _, _, _, _, .nil, e => by simp at e
  | _, _, 0, _, .cons h _, e => by
    cases e
    exact ⟨_, rfl, h⟩
  | _, _, i + 1, _, .cons _ t, e => DpAll.get (i := i) t (by simpa using e)
theorem DpAll.app : ∀ {vs ws : List V} {ds es : List PyData}, DpAll K H vs ds → DpAll K H ws es → DpAll K H (vs ++ ws) (ds ++ es)
  | _, _, _, _, .nil, s => s
  | _, _, _, _, .cons h t, s => .cons h (DpAll.app t s)
theorem DpAll.take : ∀ {vs : List V} {ds : List PyData} (n : Nat), DpAll K H vs ds → DpAll K H (vs.take n) (ds.take n)
  | _, _, 0, _ => .nil
  | _, _, _ + 1, .nil => .nil
  | _, _, n + 1, .cons h t => .cons h (DpAll.take n t)
theorem DpAll.drop : ∀ {vs : List V} {ds : List PyData} (n : Nat), DpAll K H vs ds → DpAll K H (vs.drop n) (ds.drop n)
  | _, _, 0, h => h
  | _, _, _ + 1, .nil => .nil
  | _, _, n + 1, .cons _ t => DpAll.drop n t
theorem DpAll.rev : ∀ {vs : List V} {ds : List PyData}, DpAll K H vs ds → DpAll K H vs.reverse ds.reverse
  | _, _, .nil => .nil
  | _, _, .cons h t => by
    rw [List.reverse_cons, List.reverse_cons]
    exact (DpAll.rev t).app (.cons h .nil)
theorem DpAll.strs : ∀ l : List Str, DpAll K H (l.map V.str) (l.map PyData.str)
  | [] => .nil
  | x :: l => .cons (.str x) (DpAll.strs l)
theorem DpAll.of_strs : ∀ {l : List Str} {vs : List V}, DpAll K H vs (l.map PyData.str) → vs = l.map V.str
  | [], _, h => by
    cases h
    rfl
  | x :: l, _, h => by
    cases h with
    | cons h1 h2 =>
      cases h1
      rw [DpAll.of_strs h2]
      rfl
theorem Dp.step {v : V} {s : Str × Int} (h : Dp K H v (dStep s)) : ∃ a, v = .ref a ∧ SqT K H a [.str s.1, .int s.2] := by
  cases h with
  | tup hs ha =>
    cases ha with
    | cons h1 t =>
      cases t with
      | cons h2 t =>
        cases t
        cases h1
        cases h2
        exact ⟨_, rfl, hs⟩
theorem Dp.of_step {a : Addr} {s : Str × Int} (h : SqT K H a [.str s.1, .int s.2]) : Dp K H (.ref a) (dStep s) := .tup h (.cons (.str _) (.cons (.int _) .nil))
theorem Dp.pair {v : V} {s : Str × Str} (h : Dp K H v (dPair s)) : ∃ a, v = .ref a ∧ SqT K H a [.str s.1, .str s.2] := by
  cases h with
  | tup hs ha =>
    cases ha with
    | cons h1 t =>
      cases t with
      | cons h2 t =>
        cases t
        cases h1
        cases h2
        exact ⟨_, rfl, hs⟩
theorem Dp.steps {v : V} {l : List (Str × Int)} (h : Dp K H v (dSteps l)) : ∃ a vs, v = .ref a ∧ SqT K H a vs ∧ DpAll K H vs (l.map dStep) := by
  cases h with
  | tup hs ha => exact ⟨_, _, rfl, hs, ha⟩
theorem Dp.field {v : V} {F : Fld} (h : Dp K H v (dField F)) : ∃ a n p ps, v = .ref a ∧ SqT K H a [.ref n, .ref p] ∧ SqT K H n (F.names.map V.str) ∧ SqT K H p ps ∧ DpAll K H ps (F.pairs.map dPair) := by
  cases h with
  | tup hs ha =>
    cases ha with
    | cons h1 t =>
      cases t with
      | cons h2 t =>
        cases t
        cases h1 with
        | tup n1 n2 =>
          cases h2 with
          | tup p1 p2 =>
            rw [DpAll.of_strs n2] at n1
            exact ⟨_, _, _, _, rfl, hs, n1, p1, p2⟩
/-- the step at a place -/
theorem DpAll.step {vs : List V} {l : List (Str × Int)} {i : Nat} {s : Str × Int} (h : DpAll K H vs (l.map dStep)) (e : l[i]? = some s) : ∃ a, vs[i]? = some (.ref a) ∧ SqT K H a [.str s.1, .int s.2] := by
  have hl := h.len
  rw [List.length_map] at hl
  have hi : i < vs.length := by
    rw [hl]
    exact (List.getElem?_eq_some_iff.mp e).1
  obtain ⟨d, hd, hv⟩ := h.get (List.getElem?_eq_getElem hi)
  rw [List.getElem?_map, e] at hd
  cases hd
  obtain ⟨a, ha, hs⟩ := hv.step
  exact ⟨a, by rw [List.getElem?_eq_getElem hi, ha], hs⟩
end
end L2
set_option Elab.async false
set_option linter.all false
set_option maxRecDepth 100000
set_option maxHeartbeats 4000000
namespace XB
open PySem PySem.Spec PyProof.Rows L2
theorem tyx_tup {K : PySem.W.Frag} {H : Hp} {a : Addr} {xs : List V} (h : SqT K H a xs) : TyX K H (.ref a) (.type "tuple") := by
  rcases h with (h | ⟨o, h⟩) | ⟨o, its, n, hk, hc, _⟩
  · exact .base (.tup h)
  · exact .fTuple h
  · exact .kTuple hk hc
section
variable {X : Cx} {e : Expr} {te : TE} {x : Str} {p q pos : Pos}
/-- isinstance(e, T), T a built-in class -/
theorem pe_isT (T : String) (hgI : Gl X "isinstance") (hmI : X.mg "isinstance" = none) (hgT : Gl X x) (hmT : X.mg x = none) (hv : bootBuiltins x = some (.type T)) (he : PE X e te)
    (hn : x ≠ "__name__" := by decide) (hdb : (x == ("__debug__" : Str)) = false := by decide)
    (h1 : starEach [e, .Name x q] X.env = (false, eval e X.env) :: starEach [.Name x q] X.env := by rfl) (h2 : starEach [.Name x q] X.env = (false, eval (.Name x q) X.env) :: starEach [] X.env := by rfl) :
    PE X (.Call (.Name "isinstance" p) [e, .Name x q] [] pos) (tCB (rIsi X.K) (tCons te (tCons (tC (.ty T)) tNil))) :=
  pe_callB call_isi hgI hmI (by decide +kernel) (pa_cons he (pa_cons (pe_bltn (v := .ty T) hgT hmT hv rfl hn hdb) pa_nil h2) h1) (by decide) (by decide) h1 (by rw [h2]; rfl)
/-- len(e) of a list or a tuple -/
theorem pe_lenS (hg : Gl X "len") (hm : X.mg "len" = none) (he : PE X e te) (h1 : starEach [e] X.env = (false, eval e X.env) :: starEach [] X.env := by rfl) :
    PE X (.Call (.Name "len" p) [e] [] pos) (tCB (fun xs H Q => ∃ p ys, xs = [V.ref p] ∧ (SqL X.K H p ys ∨ SqT X.K H p ys) ∧ Q (.int ys.length) H) (tCons te tNil)) :=
  pe_callB call_len_seq hg hm PySem.boot_len (pa_cons he pa_nil h1) (by decide) (by decide) h1 (by rfl)
/-- len(e) of a text -/
theorem pe_lenT (hg : Gl X "len") (hm : X.mg "len" = none) (he : PE X e te) (h1 : starEach [e] X.env = (false, eval e X.env) :: starEach [] X.env := by rfl) :
    PE X (.Call (.Name "len" p) [e] [] pos) (tCB (fun xs H Q => ∃ z, xs = [V.str z] ∧ z.length ≤ sizeLine ∧ Q (.int z.length) H) (tCons te tNil)) :=
  pe_callB call_len_str hg hm PySem.boot_len (pa_cons he pa_nil h1) (by decide) (by decide) h1 (by rfl)
theorem walk_zipT {K : PySem.W.Frag} {a b : Addr} {xs ys : List V} {n : Nat} (hn : n = min xs.length ys.length) : Walk (RZ.ItzT K a b) n (fun H => SqT K H a xs ∧ SqT K H b ys) (YPair (fun i => xs[i]?) (fun i => ys[i]?)) := by
  subst hn
  constructor
  · intro i H hi q
    have h1 : i < xs.length := by omega
    have h2 : i < ys.length := by omega
    exact ⟨xs, ys, xs[i], ys[i], q.1, q.2, List.getElem?_eq_getElem h1, List.getElem?_eq_getElem h2⟩
  · intro H q
    exact ⟨xs, ys, q.1, q.2, by omega⟩
  · rintro i H v H' _ q ⟨T, x, z, h1, h2, h3, h4, h5⟩
    exact ⟨T, x, z, h1, h2, h3, h4 xs q.1, h5 ys q.2⟩
theorem cut_tail (xs : List V) : cutV xs (some 1) none = xs.drop 1 := by
  unfold cutV
  rw [show HT.sIx xs.length 0 (some 1) = min 1 xs.length from HT.sIx_nat xs.length 0 1, HT.sIx_none]
  cases xs with
  | nil => rfl
  | cons x r =>
    rw [List.length_cons, show min 1 (r.length + 1) = 1 by omega]
    show List.take (r.length + 1 - 1) r = r
    rw [Nat.add_sub_cancel]
    exact List.take_length
/-- the rules within a comprehension's block, where the written part is told by its name -/
theorem op_ltSSk {X : Cx} {K : PySem.W.Frag} (hk : X.K = K) (hu : X.A.units + 64 < cLine) : OpR X (compareOp .Lt) (fun x y H Q => ∃ p q a b c d, x = .ref p ∧ y = .ref q ∧ SqT K H p [.str a, .str b] ∧ SqT K H q [.str c, .str d] ∧ Q (.bl (if a == c then (if b == d then false else sLt b d) else sLt a c)) H) := by
  subst hk
  exact op_ltSS hu
theorem ixk_list {X : Cx} {K : PySem.W.Frag} (hk : X.K = K) : IxR X (rIxL K) := by
  subst hk
  exact ix_list
theorem ixk_tup {X : Cx} {K : PySem.W.Frag} (hk : X.K = K) : IxR X (rIxT K) := by
  subst hk
  exact ix_tup
theorem opk_in_seq {X : Cx} {K : PySem.W.Frag} (hk : X.K = K) : OpR X (compareOp .In) (rIn K false) := by
  subst hk
  exact op_in_seq
theorem opk_notIn_seq {X : Cx} {K : PySem.W.Frag} (hk : X.K = K) : OpR X (compareOp .NotIn) (rIn K true) := by
  subst hk
  exact op_notIn_seq
theorem noPart {σ : L2.St} {H : Hp} {Q : Option Int → Hp → Prop} (h : Q none H) : tNoPart σ H Q := h
/-- t[1:] of a tuple, whatever its length -/
theorem sl_tail {K : PySem.W.Frag} {H : Hp} {a : Addr} {xs : List V} {Q : VK} (h : SqT K H a xs) (q0 : xs = [] → Q (.ref a) H) (q1 : xs ≠ [] → ∀ p, H p = none → Q (.ref p) (upd H p (.tup (xs.drop 1)))) : rSlA K (.ref a) (some 1) none H Q := by
  refine ⟨a, xs, rfl, h, fun e => q0 ?_, fun hn p hp => ?_⟩
  · have e1 : HT.sIx xs.length 0 (some 1) = min 1 xs.length := HT.sIx_nat xs.length 0 1
    rw [e1] at e
    cases xs with
    | nil => rfl
    | cons x r =>
      rw [List.length_cons] at e
      omega
  · rw [cut_tail]
    refine q1 (fun e => ?_) p hp
    subst e
    exact hn ⟨rfl, rfl⟩
end
end XB
set_option Elab.async false
set_option linter.all false
set_option maxRecDepth 100000
set_option maxHeartbeats 4000000
namespace XB
open PySem PySem.Spec PyProof.Rows L2
section
variable {P : Program} {w : World} {K : PySem.W.Frag} {mg : Str → Option Value} {base : Heap}
def spIsPair (K : PySem.W.Frag) : Sp := fun vs H Q _ => ∃ (a : Addr) (xs : List V), vs = [.ref a] ∧ SqT K H a xs ∧ Q (.bl (decide (xs.length = 2))) H
theorem c_is_pair (T : Tx K mg) : Cl P w K mg base CX0 1 "is_pair" (spIsPair K) := by
  refine cl0 T.d_is_pair (ps := ["value"]) (fun _ _ _ _ _ _ us hl => match us, hl with | [_], _ => rfl) sc_is_pair (fun vs H Q E h => ?_) (fun f cdv A outer st H vs Q E hr h => ?_)
  · obtain ⟨a, xs, rfl, _⟩ := h
    rfl
  · obtain ⟨a, xs, rfl, hS, q⟩ := h
    refine ⟨_, pss_one (ps_ret (pe_and (pe_isT "tuple" (by rfl) T.b_isinstance (by rfl) T.b_tuple (by decide +kernel) (pv 0)) (pe_one (pe_cmpR op_eq (pe_lenS (by rfl) T.b_len (pv 0)) pe_int (nomark _))))), ?_⟩
    refine ⟨_, rfl, _, _, _, _, _, rfl, .ty _, tyx_tup hS, kit_ty (by decide +kernel), _, rfl, iteT ?_⟩
    refine ⟨_, rfl, a, xs, rfl, .inr hS, rfl, ?_⟩
    have e : decide (V.int (xs.length : Int) = V.int 2) = decide (xs.length = 2) := by
      refine decide_eq_decide.mpr ⟨fun h => ?_, fun h => ?_⟩
      · injection h with h
        omega
      · rw [h]
        rfl
    show Q (.bl (decide (V.int (xs.length : Int) = V.int 2))) H
    rw [e]
    exact q
/-- each text ahead of the next one -/
def spAscN (K : PySem.W.Frag) : Sp := fun vs H Q _ => (∃ (a : Addr) (l : List Str), vs = [.ref a] ∧ SqT K H a (l.map V.str) ∧ l.length ≤ 1000 ∧ l.Pairwise (fun a b => sLt a b = true) ∧ ∀ H', Same H H' → Q (.bl true) H') ∨
  (∃ (a : Addr) (vs' : List V) (l : List (Str × Str)), vs = [.ref a] ∧ SqT K H a vs' ∧ DpAll K H vs' (l.map dPair) ∧ l.length ≤ 1000 ∧ l.Pairwise (fun p q => (if p.1 == q.1 then (if p.2 == q.2 then false else sLt p.2 q.2) else sLt p.1 q.1) = true) ∧ ∀ H', Same H H' → Q (.bl true) H')
theorem all_true : ∀ n : Nat, (List.replicate n true).all id = true
  | 0 => rfl
  | n + 1 => by
    rw [List.replicate_succ, List.all_cons, all_true n]
    rfl
theorem map_rep (n : Nat) : (List.replicate n true).map V.bl = List.replicate n (V.bl true) := by
  rw [List.map_replicate]
theorem c_is_ascending (T : Tx K mg) : Cl P w K mg base CX0 1 "is_ascending" (spAscN K) := by
  refine cl0 T.d_is_ascending (ps := ["items"]) (fun _ _ _ _ _ _ us hl => match us, hl with | [_], _ => rfl) sc_is_ascending (fun vs H Q E h => ?_) (fun f cdv A outer st H vs Q E hr h => ?_)
  · rcases h with ⟨a, l, rfl, _⟩ | ⟨a, l, _, rfl, _⟩ <;> rfl
  · have nd := sc_is_ascending.nd
    have hu := hr.units
    rcases h with ⟨a, l, rfl, hS, hlen, hP, q⟩ | ⟨a, vs', l, rfl, hS, hD, hlen, hP, q⟩
    · refine ⟨_, pss_one (ps_ret (pe_callB (cr_all rfl) (by rfl) T.b_all (by decide +kernel) (pa_cons (pe_lc (own := [("one", 1), ("other", 2)]) (g := gTup K 2 (gCons (gName 1) (gCons (gName 2) gNil))) (tt := tYes) (by rfl) nd
        (RZ.pi_zipA (by rfl) T.b_zip (pa_cons (pv 0) (pa_cons (pe_slice sl_tupA (pv 0) (po_some pe_int) po_none) pa_nil)))
        (blkOk_by (own := [("one", 1), ("other", 2)]) (N := ["items", "one", "other"]) (sc := defScope s_is_ascending) (by decide +kernel))
        (fun _ _ _ _ _ => pg_tup rfl (pgs_cons (pg_name (i := 1) nd rfl (Or.inl rfl)) (pgs_cons (pg_name (i := 2) nd rfl (Or.inl rfl)) pgs_nil))) (fun _ _ _ _ _ => pts_nil) (fun _ _ _ _ _ => pe_cmpR op_lt_str (pv 1) (pv 2) (nomark _))) pa_nil))), ?_⟩
      refine ⟨_, rfl, _, rfl, 1, rfl, ?_⟩
      refine noPart ?_
      refine sl_tail hS (fun e => ?_) (fun hne b hb => ?_)
      rotate_left
      · have hB : SqT K (upd H b (.tup ((l.map V.str).drop 1))) b ((l.drop 1).map V.str) := by
          rw [List.map_drop]
          exact SqT.of upd_same
        have hA := (Tk.of (same_upd (o := .tup ((l.map V.str).drop 1)) hb)).sqT hS
        have sm := same_upd (o := .tup ((l.map V.str).drop 1)) hb
        generalize upd H b (.tup ((l.map V.str).drop 1)) = H1 at hA hB sm ⊢
        refine ⟨a, b, _, _, rfl, .inr ⟨hA, hB, fun D hD => ?_⟩⟩
        refine lc_it (walk_zipT (xs := l.map V.str) (ys := (l.drop 1).map V.str) rfl) (fun i H' => H' D = some (.lst (List.replicate i (V.bl true))) ∧ Same H1 H') ⟨upd_same, same_upd hD⟩ (fun i H' _ ⟨_, s'⟩ => ⟨(Tk.of s').sqT hA, (Tk.of s').sqT hB⟩)
          (fun i x H2 H3 hi ⟨eD, s'⟩ hy => ?_) (fun H2 ⟨eD, s'⟩ => ?_)
        · obtain ⟨Tt, x1, x2, rfl, nT, rfl, f1, f2⟩ := hy
          obtain ⟨y1, g1, rfl⟩ := str_at f1
          obtain ⟨y2, g2, rfl⟩ := str_at f2
          have nDT : D ≠ Tt := ne_of_none eD nT
          refine ⟨Tt, _, rfl, SqT.of upd_same, rfl, _, _, rfl, _, _, rfl, rfl, rfl, yes_ ?_⟩
          refine ⟨_, rfl, _, rfl, _, _, rfl, rfl, _, by rw [upd_ne nDT]; exact eD, ?_, ?_, ?_⟩
          · rw [List.length_replicate, List.length_map, List.length_map] at *
            exact small1000 (by omega)
          · rw [upd_same]
            have lt : sLt y1 y2 = true := by
              rw [List.getElem?_drop] at g2
              obtain ⟨h1, e1⟩ := List.getElem?_eq_some_iff.mp g1
              obtain ⟨h2, e2⟩ := List.getElem?_eq_some_iff.mp g2
              rw [← e1, ← e2]
              exact List.pairwise_iff_getElem.mp hP i (1 + i) h1 h2 (by omega)
            have e : decide (y1.cps.toList < y2.cps.toList) = true := lt
            rw [e, List.replicate_succ']
          · exact same_put (same_new s' nT) hD
        · refine ⟨D, List.replicate _ true, rfl, SqL.of (by rw [map_rep]; exact eD), ?_⟩
          rw [all_true]
          exact q _ (sm.trans s')
      · have e0 : l = [] := List.map_eq_nil_iff.mp e
        subst e0
        refine ⟨a, a, _, _, rfl, .inr ⟨hS, hS, fun D hD => ?_⟩⟩
        refine lc_it (walk_zipT (xs := []) (ys := []) rfl) (fun i H' => H' D = some (.lst []) ∧ Same H H') ⟨upd_same, same_upd hD⟩ (fun i H' _ ⟨_, s'⟩ => ⟨(Tk.of s').sqT hS, (Tk.of s').sqT hS⟩)
          (fun i x H2 H3 hi _ _ => absurd hi (Nat.not_lt_zero _)) (fun H2 ⟨eD, s'⟩ => ?_)
        exact ⟨D, [], rfl, SqL.of eD, q _ s'⟩
    · refine ⟨_, pss_one (ps_ret (pe_callB (cr_all rfl) (by rfl) T.b_all (by decide +kernel) (pa_cons (pe_lc (own := [("one", 1), ("other", 2)]) (g := gTup K 2 (gCons (gName 1) (gCons (gName 2) gNil))) (tt := tYes) (by rfl) nd
        (RZ.pi_zipA (by rfl) T.b_zip (pa_cons (pv 0) (pa_cons (pe_slice sl_tupA (pv 0) (po_some pe_int) po_none) pa_nil)))
        (blkOk_by (own := [("one", 1), ("other", 2)]) (N := ["items", "one", "other"]) (sc := defScope s_is_ascending) (by decide +kernel))
        (fun _ _ _ _ _ => pg_tup rfl (pgs_cons (pg_name (i := 1) nd rfl (Or.inl rfl)) (pgs_cons (pg_name (i := 2) nd rfl (Or.inl rfl)) pgs_nil))) (fun _ _ _ _ _ => pts_nil) (fun _ _ _ _ _ => pe_cmpR (op_ltSSk (K := K) rfl hu) (pv 1) (pv 2) (nomark _))) pa_nil))), ?_⟩
      refine ⟨_, rfl, _, rfl, 1, rfl, ?_⟩
      have hl := hD.len
      rw [List.length_map] at hl
      refine noPart ?_
      refine sl_tail hS (fun e => ?_) (fun hne b hb => ?_)
      rotate_left
      · have hB : SqT K (upd H b (.tup (vs'.drop 1))) b (vs'.drop 1) := SqT.of upd_same
        have hA := (Tk.of (same_upd (o := .tup (vs'.drop 1)) hb)).sqT hS
        have sm := same_upd (o := .tup (vs'.drop 1)) hb
        generalize upd H b (.tup (vs'.drop 1)) = H1 at hA hB sm ⊢
        refine ⟨a, b, _, _, rfl, .inr ⟨hA, hB, fun D hD' => ?_⟩⟩
        refine lc_it (walk_zipT (xs := vs') (ys := vs'.drop 1) rfl) (fun i H' => H' D = some (.lst (List.replicate i (V.bl true))) ∧ Same H1 H') ⟨upd_same, same_upd hD'⟩ (fun i H' _ ⟨_, s'⟩ => ⟨(Tk.of s').sqT hA, (Tk.of s').sqT hB⟩)
          (fun i x H2 H3 hi ⟨eD, s'⟩ hy => ?_) (fun H2 ⟨eD, s'⟩ => ?_)
        · obtain ⟨Tt, x1, x2, rfl, nT, rfl, f1, f2⟩ := hy
          have f1 : vs'[i]? = some x1 := f1
          have f2 : (vs'.drop 1)[i]? = some x2 := f2
          rw [List.getElem?_drop] at f2
          obtain ⟨d1, g1, p1⟩ := hD.get f1
          obtain ⟨d2, g2, p2⟩ := hD.get f2
          rw [List.getElem?_map] at g1 g2
          obtain ⟨y1, k1, rfl⟩ := Option.map_eq_some_iff.mp g1
          obtain ⟨y2, k2, rfl⟩ := Option.map_eq_some_iff.mp g2
          obtain ⟨b1, rfl, c1⟩ := p1.pair
          obtain ⟨b2, rfl, c2⟩ := p2.pair
          have kT : Tk H (upd H2 Tt (.tup [.ref b1, .ref b2])) := (Tk.of (sm.trans s')).new nT
          have nDT : D ≠ Tt := ne_of_none eD nT
          refine ⟨Tt, _, rfl, SqT.of upd_same, rfl, _, _, rfl, _, _, rfl, rfl, rfl, yes_ ?_⟩
          refine ⟨_, rfl, _, rfl, _, _, _, _, _, _, rfl, rfl, kT.sqT c1, kT.sqT c2, _, by rw [upd_ne nDT]; exact eD, ?_, ?_, ?_⟩
          · rw [List.length_replicate]
            exact small1000 (by omega)
          · rw [upd_same]
            have lt : (if y1.1 == y2.1 then (if y1.2 == y2.2 then false else sLt y1.2 y2.2) else sLt y1.1 y2.1) = true := by
              obtain ⟨h1, e1⟩ := List.getElem?_eq_some_iff.mp k1
              obtain ⟨h2, e2⟩ := List.getElem?_eq_some_iff.mp k2
              rw [← e1, ← e2]
              exact List.pairwise_iff_getElem.mp hP i (1 + i) h1 h2 (by omega)
            rw [lt, List.replicate_succ']
          · exact same_put (same_new s' nT) hD'
        · refine ⟨D, List.replicate _ true, rfl, SqL.of (by rw [map_rep]; exact eD), ?_⟩
          rw [all_true]
          exact q _ (sm.trans s')
      · subst e
        refine ⟨a, a, _, _, rfl, .inr ⟨hS, hS, fun D hD' => ?_⟩⟩
        refine lc_it (walk_zipT (xs := []) (ys := []) rfl) (fun i H' => H' D = some (.lst []) ∧ Same H H') ⟨upd_same, same_upd hD'⟩ (fun i H' _ ⟨_, s'⟩ => ⟨(Tk.of s').sqT hS, (Tk.of s').sqT hS⟩)
          (fun i x H2 H3 hi _ _ => absurd hi (Nat.not_lt_zero _)) (fun H2 ⟨eD, s'⟩ => ?_)
        exact ⟨D, [], rfl, SqL.of eD, q _ s'⟩
end
end XB
set_option Elab.async false
set_option linter.all false
set_option maxRecDepth 100000
set_option maxHeartbeats 4000000
namespace XB
open PySem PySem.Spec PyProof.Rows L2
theorem inV_strs (a : Str) : ∀ l : List Str, inV (.str a) (l.map V.str) = l.contains a
  | [] => rfl
  | x :: l => by
    have ih := inV_strs a l
    unfold inV at ih ⊢
    rw [List.map_cons, List.any_cons, ih, List.contains_cons]
    congr 1
    show decide (x = a) = (a == x)
    by_cases e : x = a
    · subst e
      simp
    · have : a ≠ x := fun q => e q.symm
      simp [e, this]
theorem flat_strs (l : List Str) : (l.map V.str).all flatV = true := by
  rw [List.all_map]
  exact List.all_eq_true.mpr fun _ _ => rfl
section
variable {P : Program} {w : World} {K : PySem.W.Frag} {mg : Str → Option Value} {base : Heap}
def GoodName (n : Str) : Prop := 1 ≤ n.length ∧ n.length ≤ 6 ∧ ∀ c ∈ n.cps.toList, 97 ≤ c ∧ c ≤ 122
def spIsName : Sp := fun vs H Q _ => ∃ n : Str, vs = [.str n] ∧ GoodName n ∧ ∀ H', Same H H' → Q (.bl true) H'
theorem c_is_name (T : Tx K mg) : Cl P w K mg base CX0 1 "is_name" spIsName := by
  refine cl0 T.d_is_name (ps := ["value"]) (fun _ _ _ _ _ _ us hl => match us, hl with | [_], _ => rfl) sc_is_name (fun vs H Q E h => ?_) (fun f cdv A outer st H vs Q E hr h => ?_)
  · obtain ⟨n, rfl, _⟩ := h
    rfl
  · obtain ⟨n, rfl, ⟨n1, n6, nc⟩, q⟩ := h
    have nd := sc_is_name.nd
    obtain ⟨tk, hML⟩ := T.g_MOST_LETTERS
    have hsz : n.length ≤ sizeLine := Nat.le_trans n6 (by decide)
    refine ⟨_, pss_cons (ps_if (PW.pt (pw_or (pt_not (pt_val (pe_isT "str" (by rfl) T.b_isinstance (by rfl) T.b_str (by decide +kernel) (pv 0)))) (pw_or1 (pt_not (pt_chain op_le op_le pe_int (pe_lenT (by rfl) T.b_len (pv 0)) (pe_glob (v := .int 6) (by rfl) hML ⟨_, rfl⟩)))))) pss_never pss_nil)
      (pss_one (ps_ret (pe_callB (cr_all rfl) (by rfl) T.b_all (by decide +kernel) (pa_cons (pe_lc (own := [("letter", 1)]) (g := gName 1) (tt := tYes) (by rfl) nd (pi_str (pv 0))
        (blkOk_by (own := [("letter", 1)]) (N := ["value", "letter"]) (sc := defScope s_is_name) (by decide +kernel)) (fun _ _ _ _ _ => pg_name (i := 1) nd rfl (Or.inl rfl)) (fun _ _ _ _ _ => pts_nil) (fun _ _ _ _ _ => pe_chain op_le_str op_le_str pe_str (pv 1) pe_str)) pa_nil)))), ?_⟩
    refine ⟨_, rfl, _, _, _, _, _, rfl, .ty _, .base (.str n), kit_ty (r := true) (by decide +kernel), _, rfl, iteF ?_⟩
    refine ⟨_, rfl, n, rfl, hsz, _, _, rfl, rfl, _, rfl, ?_⟩
    rw [decide_eq_true (show (1 : Int) ≤ (n.length : Int) by omega)]
    refine iteT ⟨_, _, rfl, rfl, _, rfl, ?_⟩
    rw [decide_eq_true (show (n.length : Int) ≤ 6 by omega)]
    refine iteF ?_
    refine ⟨_, rfl, n, rfl, fun D hD => ?_⟩
    refine lc_it walk_str (fun i H' => H' D = some (.lst (List.replicate i (V.bl true))) ∧ Same H H') ⟨upd_same, same_upd hD⟩ (fun _ _ _ _ => True.intro) (fun i x H2 H3 hi ⟨eD, s'⟩ hy => ?_) (fun H2 ⟨eD, s'⟩ => ?_)
    · obtain ⟨rfl, c, hc, rfl⟩ := hy
      have hm : c ∈ n.cps.toList := by
        rw [← Array.getElem?_toList] at hc
        exact List.mem_of_getElem? hc
      obtain ⟨c1, c2⟩ := nc c hm
      refine ⟨rfl, yes_ ?_⟩
      refine ⟨_, rfl, _, _, rfl, rfl, _, rfl, ?_⟩
      have e1 : (!decide ((⟨#[c]⟩ : Str).cps.toList < ("a" : Str).cps.toList)) = true := by
        show (!decide ([c] < [97])) = true
        simp [List.cons_lt_cons_iff]
        omega
      have e2 : (!decide (("z" : Str).cps.toList < (⟨#[c]⟩ : Str).cps.toList)) = true := by
        show (!decide ([122] < [c])) = true
        simp [List.cons_lt_cons_iff]
        omega
      rw [e1]
      refine iteT ⟨_, _, rfl, rfl, ?_⟩
      rw [e2]
      refine ⟨_, eD, ?_, ?_, same_put s' hD⟩
      · rw [List.length_replicate]
        have : n.cps.size = n.length := rfl
        exact small1000 (by omega)
      · rw [upd_same, List.replicate_succ']
    · refine ⟨D, List.replicate _ true, rfl, SqL.of (by rw [map_rep]; exact eD), ?_⟩
      rw [all_true]
      exact q _ s'
def spAreNames (K : PySem.W.Frag) : Sp := fun vs H Q _ => ∃ (a : Addr) (l : List Str), vs = [.ref a] ∧ SqT K H a (l.map V.str) ∧ 1 ≤ l.length ∧ l.length ≤ 6 ∧ (∀ n ∈ l, GoodName n) ∧ l.Pairwise (fun a b => sLt a b = true) ∧ ∀ H', Same H H' → Q (.bl true) H'
theorem c_are_names (T : Tx K mg) : Cl P w K mg base CX0 2 "are_names" (spAreNames K) := by
  refine cl0 T.d_are_names (ps := ["value"]) (fun _ _ _ _ _ _ us hl => match us, hl with | [_], _ => rfl) sc_are_names (fun vs H Q E h => ?_) (fun f cdv A outer st H vs Q E hr h => ?_)
  · obtain ⟨a, l, rfl, _⟩ := h
    rfl
  · obtain ⟨a, l, rfl, hS, l1, l6, hg, hP, q⟩ := h
    have nd := sc_are_names.nd
    obtain ⟨tk, hMN⟩ := T.g_MOST_NAMES
    refine ⟨_, pss_cons (ps_if (PW.pt (pw_or (pt_not (pt_val (pe_isT "tuple" (by rfl) T.b_isinstance (by rfl) T.b_tuple (by decide +kernel) (pv 0)))) (pw_or1 (pt_not (pt_chain op_le op_le pe_int (pe_lenS (by rfl) T.b_len (pv 0)) (pe_glob (v := .int 6) (by rfl) hMN ⟨_, rfl⟩)))))) pss_never pss_nil)
      (pss_one (ps_ret (pe_and (pe_callB (cr_all rfl) (by rfl) T.b_all (by decide +kernel) (pa_cons (pe_lc (own := [("item", 1)]) (g := gName 1) (tt := tYes) (by rfl) nd (pi_tup (pv 0))
        (blkOk_by (own := [("item", 1)]) (N := ["value", "item"]) (sc := defScope s_are_names) (by decide +kernel)) (fun _ _ _ _ _ => pg_name (i := 1) nd rfl (Or.inl rfl)) (fun _ _ _ _ _ => pts_nil) (fun _ _ _ _ _ => pe_k (c_is_name T) hr (by decide) (by rfl) (pa_cons (pv 1) pa_nil))) pa_nil))
        (pe_one (pe_k (c_is_ascending T) hr (by decide) (by rfl) (pa_cons (pv 0) pa_nil)))))), ?_⟩
    refine ⟨_, rfl, _, _, _, _, _, rfl, .ty _, tyx_tup hS, kit_ty (r := true) (by decide +kernel), _, rfl, iteF ?_⟩
    refine ⟨_, rfl, a, _, rfl, .inr hS, _, _, rfl, rfl, _, rfl, ?_⟩
    rw [List.length_map, decide_eq_true (show (1 : Int) ≤ (l.length : Int) by omega)]
    refine iteT ⟨_, _, rfl, rfl, _, rfl, ?_⟩
    rw [decide_eq_true (show (l.length : Int) ≤ 6 by omega)]
    refine iteF ?_
    refine ⟨_, rfl, a, rfl, ⟨_, hS⟩, fun D hD => ?_⟩
    refine lc_it (walk_tup (xs := l.map V.str)) (fun i H' => H' D = some (.lst (List.replicate i (V.bl true))) ∧ Same H H') ⟨upd_same, same_upd hD⟩ (fun _ _ _ ⟨_, s'⟩ => (Tk.of s').sqT hS) (fun i x H2 H3 hi ⟨eD, s'⟩ hy => ?_) (fun H2 ⟨eD, s'⟩ => ?_)
    · obtain ⟨rfl, hx⟩ := hy
      obtain ⟨n, hn, rfl⟩ := str_at hx
      refine ⟨rfl, yes_ ?_⟩
      refine ⟨_, rfl, n, rfl, hg n (List.mem_of_getElem? hn), fun H4 s4 => ⟨_, s4 _ _ eD, ?_, ?_, same_put (s'.trans s4) hD⟩⟩
      · rw [List.length_map] at hi
        rw [List.length_replicate]
        exact small1000 (by omega)
      · rw [upd_same, List.replicate_succ']
    · refine ⟨D, List.replicate _ true, rfl, SqL.of (by rw [map_rep]; exact eD), _, rfl, ?_⟩
      rw [all_true]
      refine iteT ?_
      refine ⟨_, rfl, .inl ⟨a, l, rfl, (Tk.of s').sqT hS, by omega, hP, fun H4 s4 => q _ (s'.trans s4)⟩⟩
def spIsPairOf (K : PySem.W.Frag) : Sp := fun vs H Q _ => ∃ (n v : Addr) (l : List Str) (a b : Str), vs = [.ref n, .ref v] ∧ SqT K H n (l.map V.str) ∧ SqT K H v [.str a, .str b] ∧ a ∈ l ∧ b ∈ l ∧ sLt a b = true ∧ Q (.bl true) H
theorem c_is_pair_of (T : Tx K mg) : Cl P w K mg base CX0 2 "is_pair_of" (spIsPairOf K) := by
  refine cl0 T.d_is_pair_of (ps := ["names", "value"]) (fun _ _ _ _ _ _ us hl => match us, hl with | [_, _], _ => rfl) sc_is_pair_of (fun vs H Q E h => ?_) (fun f cdv A outer st H vs Q E hr h => ?_)
  · obtain ⟨n, v, l, a, b, rfl, _⟩ := h
    rfl
  · obtain ⟨n, v, l, a, b, rfl, hN, hV, ha, hb, lt, q⟩ := h
    have nd := sc_is_pair_of.nd
    refine ⟨_, pss_cons (ps_if (pt_not (pt_val (pe_k (c_is_pair T) hr (by decide) (by rfl) (pa_cons (pv 1) pa_nil)))) pss_never pss_nil)
      (pss_cons (ps_asg (pv 1) (pg_tup rfl (pgs_cons (pg_name (i := 2) nd rfl (.inl rfl)) (pgs_cons (pg_name (i := 3) nd rfl (.inl rfl)) pgs_nil))))
      (pss_one (ps_ret (pe_and (pe_cmpR op_in_seq (pv 2) (pv 0) (by rfl)) (pe_and (pe_cmpR op_in_seq (pv 3) (pv 0) (by rfl)) (pe_one (pe_cmpR op_lt_str (pv 2) (pv 3) (nomark _)))))))), ?_⟩
    refine ⟨_, rfl, v, _, rfl, hV, _, rfl, iteF ?_⟩
    refine ⟨_, rfl, v, _, rfl, hV, rfl, _, _, rfl, _, _, rfl, rfl, ?_⟩
    refine ⟨_, rfl, _, rfl, n, _, rfl, .inr hN, rfl, flat_strs l, _, rfl, ?_⟩
    rw [if_neg Bool.false_ne_true, inV_strs, show l.contains a = true by simpa using ha]
    refine iteT ⟨_, rfl, _, rfl, n, _, rfl, .inr hN, rfl, flat_strs l, _, rfl, ?_⟩
    rw [if_neg Bool.false_ne_true, inV_strs, show l.contains b = true by simpa using hb]
    refine iteT ⟨_, rfl, _, rfl, _, _, rfl, rfl, ?_⟩
    have e : decide (a.cps.toList < b.cps.toList) = true := lt
    rw [e]
    exact q
def spArePairs (K : PySem.W.Frag) : Sp := fun vs H Q _ => ∃ (n v : Addr) (ps : List V) (F : Fld), vs = [.ref n, .ref v] ∧ SqT K H n (F.names.map V.str) ∧ SqT K H v ps ∧ DpAll K H ps (F.pairs.map dPair) ∧ F.Ok ∧ ∀ H', Same H H' → Q (.bl true) H'
theorem c_are_pairs (T : Tx K mg) : Cl P w K mg base CX0 3 "are_pairs" (spArePairs K) := by
  refine cl0 T.d_are_pairs (ps := ["names", "value"]) (fun _ _ _ _ _ _ us hl => match us, hl with | [_, _], _ => rfl) sc_are_pairs (fun vs H Q E h => ?_) (fun f cdv A outer st H vs Q E hr h => ?_)
  · obtain ⟨n, v, ps, F, rfl, _⟩ := h
    rfl
  · obtain ⟨n, v, ps, F, rfl, hN, hV, hD, ok, q⟩ := h
    have nd := sc_are_pairs.nd
    have hl := hD.len
    rw [List.length_map] at hl
    have hl2 := ok.len
    refine ⟨_, pss_cons (ps_if (pt_not (pt_val (pe_isT "tuple" (by rfl) T.b_isinstance (by rfl) T.b_tuple (by decide +kernel) (pv 1)))) pss_never pss_nil)
      (pss_one (ps_ret (pe_and (pe_callB (cr_all rfl) (by rfl) T.b_all (by decide +kernel) (pa_cons (pe_lc (own := [("item", 2)]) (g := gName 2) (tt := tYes) (by rfl) nd (pi_tup (pv 1))
        (blkOk_by (own := [("item", 2)]) (N := ["names", "value", "item"]) (sc := defScope s_are_pairs) (by decide +kernel)) (fun _ _ _ _ _ => pg_name (i := 2) nd rfl (Or.inl rfl)) (fun _ _ _ _ _ => pts_nil) (fun _ _ _ _ _ => pe_k (c_is_pair_of T) hr (by decide) (by rfl) (pa_cons (pv 0) (pa_cons (pv 2) pa_nil)))) pa_nil))
        (pe_one (pe_k (c_is_ascending T) hr (by decide) (by rfl) (pa_cons (pv 1) pa_nil)))))), ?_⟩
    refine ⟨_, rfl, _, _, _, _, _, rfl, .ty _, tyx_tup hV, kit_ty (r := true) (by decide +kernel), _, rfl, iteF ?_⟩
    refine ⟨_, rfl, v, rfl, ⟨_, hV⟩, fun D hD' => ?_⟩
    refine lc_it (walk_tup (xs := ps)) (fun i H' => H' D = some (.lst (List.replicate i (V.bl true))) ∧ Same H H') ⟨upd_same, same_upd hD'⟩ (fun _ _ _ ⟨_, s'⟩ => (Tk.of s').sqT hV) (fun i x H2 H3 hi ⟨eD, s'⟩ hy => ?_) (fun H2 ⟨eD, s'⟩ => ?_)
    · obtain ⟨rfl, hx⟩ := hy
      obtain ⟨d, g1, p1⟩ := hD.get hx
      rw [List.getElem?_map] at g1
      obtain ⟨y, k1, rfl⟩ := Option.map_eq_some_iff.mp g1
      obtain ⟨b, rfl, cb⟩ := p1.pair
      have my := List.mem_of_getElem? k1
      refine ⟨rfl, yes_ ?_⟩
      refine ⟨_, rfl, _, rfl, n, b, F.names, y.1, y.2, rfl, (Tk.of s').sqT hN, (Tk.of s').sqT cb, (ok.inN y my).1, (ok.inN y my).2, ok.asc y my, _, eD, ?_, ?_, same_put s' hD'⟩
      · rw [List.length_replicate]
        exact small1000 (by omega)
      · rw [upd_same, List.replicate_succ']
    · refine ⟨D, List.replicate _ true, rfl, SqL.of (by rw [map_rep]; exact eD), _, rfl, ?_⟩
      rw [all_true]
      refine iteT ?_
      refine ⟨_, rfl, .inr ⟨v, ps, F.pairs, rfl, (Tk.of s').sqT hV, DpAll.tk (Tk.of s') _ (flatAll_of fun d hd => ?_) hD, by omega, ok.asP, fun H4 s4 => q _ (s'.trans s4)⟩⟩
      obtain ⟨y, _, rfl⟩ := List.mem_map.mp hd
      rfl
def spNeedField (K : PySem.W.Frag) : Sp := fun vs H Q _ => ∃ (a : Addr) (F : Fld), vs = [.ref a] ∧ Dp K H (.ref a) (dField F) ∧ F.Ok ∧ ∀ H', Same H H' → Q (.ref a) H'
theorem c_need_field (T : Tx K mg) : Cl P w K mg base CX0 4 "need_field" (spNeedField K) := by
  refine cl0 T.d_need_field (ps := ["field"]) (fun _ _ _ _ _ _ us hl => match us, hl with | [_], _ => rfl) sc_need_field (fun vs H Q E h => ?_) (fun f cdv A outer st H vs Q E hr h => ?_)
  · obtain ⟨a, F, rfl, _⟩ := h
    rfl
  · obtain ⟨a, F, rfl, hF, ok, q⟩ := h
    have nd := sc_need_field.nd
    obtain ⟨_, n, p, ps, e, hA, hN, hP, hD⟩ := hF.field
    cases e
    refine ⟨_, pss_cons (ps_if (pt_not (pt_val (pe_k (c_is_pair T) hr (by decide) (by rfl) (pa_cons (pv 0) pa_nil)))) pss_never pss_nil)
      (pss_cons (ps_asg (pv 0) (pg_tup rfl (pgs_cons (pg_name (i := 1) nd rfl (.inl rfl)) (pgs_cons (pg_name (i := 2) nd rfl (.inl rfl)) pgs_nil))))
      (pss_cons (ps_if (pt_not (pt_val (pe_k (c_are_names T) hr (by decide) (by rfl) (pa_cons (pv 1) pa_nil)))) pss_never pss_nil)
      (pss_cons (ps_if (pt_not (pt_val (pe_k (c_are_pairs T) hr (by decide) (by rfl) (pa_cons (pv 1) (pa_cons (pv 2) pa_nil))))) pss_never pss_nil)
      (pss_one (ps_ret (pv 0)))))), ?_⟩
    refine ⟨_, rfl, a, _, rfl, hA, _, rfl, iteF ?_⟩
    refine ⟨_, rfl, a, _, rfl, hA, rfl, _, _, rfl, _, _, rfl, rfl, ?_⟩
    refine ⟨_, rfl, n, F.names, rfl, hN, ok.n0, ok.n6, ok.sgn, ok.asN, fun H1 s1 => ⟨_, rfl, iteF ?_⟩⟩
    refine ⟨_, rfl, _, rfl, n, p, ps, F, rfl, (Tk.of s1).sqT hN, (Tk.of s1).sqT hP, DpAll.tk (Tk.of s1) _ (flatAll_of fun d hd => ?_) hD, ok, fun H2 s2 => ⟨_, rfl, iteF ?_⟩⟩
    · obtain ⟨y, _, rfl⟩ := List.mem_map.mp hd
      rfl
    · exact ⟨_, rfl, q _ (s1.trans s2)⟩
end
end XB
set_option linter.all false
namespace XM
section
variable {α : Type} [DecidableEq α] {O : Ord α}
/-- the place of the last that touches (from the last piece on), or -1 -/
def lastIx (p : α → Bool) : Row α → Int
  | [] => -1
  | y :: r => if p y.1 then (r.length : Int) else lastIx p r
/-- a row cut where the last one touches -/
theorem last_cut {p : α → Bool} : ∀ r : Row α, (lastIx p r = -1 ∧ ∀ y ∈ r, p y.1 = false) ∨ ∃ v z r0, r = v ++ z :: r0 ∧ lastIx p r = (r0.length : Int) ∧ p z.1 = true ∧ ∀ y ∈ v, p y.1 = false
  | [] => .inl ⟨rfl, fun _ h => nomatch h⟩
  | y :: r => by
    cases h : p y.1
    · have e : lastIx p (y :: r) = lastIx p r := by
        unfold lastIx
        rw [if_neg (by rw [h]; decide)]
        cases r <;> rfl
      rcases last_cut (p := p) r with ⟨h1, h2⟩ | ⟨v, z, r0, rfl, h2, h3, h4⟩
      · exact .inl ⟨by rw [e, h1], fun w hw => (List.mem_cons.mp hw).elim (fun q => q ▸ h) (h2 w)⟩
      · exact .inr ⟨y :: v, z, r0, rfl, by rw [e, h2], h3, fun w hw => (List.mem_cons.mp hw).elim (fun q => q ▸ h) (h4 w)⟩
    · refine .inr ⟨[], y, r, rfl, ?_, h, fun _ h => nomatch h⟩
      unfold lastIx
      rw [if_pos h]
/-- how many stand at the begin that are less -/
def lead (O : Ord α) (a : α) : Row α → Nat
  | [] => 0
  | y :: r => if O.lt y.1 a then lead O a r + 1 else 0
theorem lead_le {a : α} : ∀ w : Row α, lead O a w ≤ w.length
  | [] => Nat.le_refl _
  | y :: r => by
    have := lead_le (a := a) r
    unfold lead
    split <;> simp <;> omega
theorem lead_snoc {a : α} {y : α × Int} : ∀ {w : Row α}, lead O a (w ++ [y]) = if lead O a w = w.length then (if O.lt y.1 a then w.length + 1 else w.length) else lead O a w
  | [] => by
    show (if O.lt y.1 a then 0 + 1 else 0) = _
    rw [if_pos (show lead O a [] = ([] : Row α).length from rfl)]
    rfl
  | z :: w => by
    have ih := lead_snoc (a := a) (y := y) (w := w)
    have hle := lead_le (O := O) (a := a) w
    show (if O.lt z.1 a then lead O a (w ++ [y]) + 1 else 0) = if (if O.lt z.1 a then lead O a w + 1 else 0) = (z :: w).length then _ else (if O.lt z.1 a then lead O a w + 1 else 0)
    cases h : O.lt z.1 a
    · have n : ¬ (0 = (z :: w).length) := by simp
      have q : ∀ {c d : Nat}, (if false = true then c else d) = d := fun {_ _} => rfl
      rw [q, q, if_neg n]
    · have q : ∀ {c d : Nat}, (if true = true then c else d) = c := fun {_ _} => rfl
      rw [q, q, ih, List.length_cons]
      by_cases e : lead O a w = w.length
      · rw [if_pos e, if_pos (congrArg (· + 1) e)]
        cases O.lt y.1 a <;> rfl
      · rw [if_neg e, if_neg (fun q => e (Nat.succ.inj q))]
theorem lead_all {a : α} : ∀ {w : Row α}, lead O a w = w.length ↔ ∀ y ∈ w, O.lt y.1 a = true
  | [] => by
    constructor
    · intro _ y h
      cases h
    · intro _
      rfl
  | y :: w => by
    have ih := lead_all (a := a) (w := w)
    show (if O.lt y.1 a then lead O a w + 1 else 0) = w.length + 1 ↔ _
    cases h : O.lt y.1 a
    · rw [if_neg (by decide)]
      constructor
      · intro q
        omega
      · intro q
        rw [q y List.mem_cons_self] at h
        cases h
    · rw [if_pos rfl]
      constructor
      · intro q z hz
        rcases List.mem_cons.mp hz with rfl | hz
        · exact h
        · exact ih.mp (by omega) z hz
      · intro q
        have := ih.mpr fun z hz => q z (List.mem_cons_of_mem _ hz)
        omega
/-- put among those that it may pass, ahead of the first greater one -/
def among (O : Ord α) (x : α × Int) (w : Row α) : Row α := w.take (lead O x.1 w) ++ x :: w.drop (lead O x.1 w)
theorem ins_among {x : α × Int} {r0 : Row α} (h0 : top O x.1 r0 = true) : ∀ {v : Row α}, (∀ y ∈ v, O.tc y.1 x.1 = false) → ins O x (v ++ r0) = (among O x v.reverse).reverse ++ r0 ∧ (top O x.1 (v ++ r0) = true ↔ ∀ y ∈ v, O.lt y.1 x.1 = true)
  | [], _ => ⟨by rw [List.nil_append, ins_top h0]; rfl, Iff.intro (fun _ _ h => (by cases h)) (fun _ => h0)⟩
  | y :: v, h => by
    have hy := h y List.mem_cons_self
    obtain ⟨i1, i2⟩ := ins_among h0 (v := v) fun z hz => h z (List.mem_cons_of_mem _ hz)
    have ht : top O x.1 (y :: v ++ r0) = (O.lt y.1 x.1 && top O x.1 (v ++ r0)) := top_apart hy
    have e2 : top O x.1 (y :: v ++ r0) = true ↔ ∀ z ∈ y :: v, O.lt z.1 x.1 = true := by
      rw [ht, Bool.and_eq_true, i2]
      constructor
      · rintro ⟨q1, q2⟩ z hz
        rcases List.mem_cons.mp hz with rfl | hz
        · exact q1
        · exact q2 z hz
      · exact fun q => ⟨q y List.mem_cons_self, fun z hz => q z (List.mem_cons_of_mem _ hz)⟩
    refine ⟨?_, e2⟩
    show ins O x (y :: (v ++ r0)) = _
    rw [ins_apart hy, i1, List.reverse_cons]
    have hl : lead O x.1 v.reverse = v.reverse.length ↔ top O x.1 (v ++ r0) = true := by
      rw [lead_all, i2]
      simp
    have hle := lead_le (O := O) (a := x.1) v.reverse
    unfold among
    rw [lead_snoc]
    cases hA : O.lt y.1 x.1 && top O x.1 (v ++ r0)
    · rw [if_neg (by decide)]
      have hk : (if lead O x.1 v.reverse = v.reverse.length then (if O.lt y.1 x.1 then v.reverse.length + 1 else v.reverse.length) else lead O x.1 v.reverse) = lead O x.1 v.reverse := by
        by_cases e : lead O x.1 v.reverse = v.reverse.length
        · rw [hl.mp e, Bool.and_true] at hA
          rw [if_pos e, hA, if_neg (by decide), e]
        · rw [if_neg e]
      rw [hk, List.take_append_of_le_length hle, List.drop_append_of_le_length hle]
      simp
    · obtain ⟨a1, a2⟩ := Bool.and_eq_true_iff.mp hA
      rw [if_pos rfl, if_pos (hl.mpr a2), if_pos a1]
      have e : v.reverse.length + 1 = (v.reverse ++ [y]).length := by simp
      rw [e, List.take_length, List.drop_length]
      simp
theorem ins_merge {a : α} {s t : Int} {r0 : Row α} : ∀ {v : Row α}, (∀ y ∈ v, O.tc y.1 a = false) → ins O (a, t) (v ++ (a, s) :: r0) = v ++ (if s + t = 0 then r0 else (a, s + t) :: r0) ∧ top O a (v ++ (a, s) :: r0) = false
  | [], _ => ⟨ins_same, top_same⟩
  | y :: v, h => by
    have hy := h y List.mem_cons_self
    obtain ⟨i1, i2⟩ := ins_merge (s := s) (t := t) (r0 := r0) (v := v) fun z hz => h z (List.mem_cons_of_mem _ hz)
    have ht : top O a (y :: v ++ (a, s) :: r0) = (O.lt y.1 a && top O a (v ++ (a, s) :: r0)) := top_apart hy
    refine ⟨?_, by rw [ht, i2, Bool.and_false]⟩
    show ins O (a, t) (y :: (v ++ (a, s) :: r0)) = _
    rw [ins_apart (x := (a, t)) hy, i2, Bool.and_false, if_neg (by decide), i1]
    rfl
/-- what the program does with a step, told by places of the row in its own order -/
theorem ins_code {l : Row α} {x : α × Int} {k : Int} (hk : lastIx (fun b => O.tc b x.1) l.reverse = k) :
    (k = -1 ∧ ins O x l.reverse = (among O x l).reverse) ∨
    ∃ (i : Nat) (z : α × Int), k = (i : Int) ∧ l[i]? = some z ∧
      ((z.1 ≠ x.1 ∧ ins O x l.reverse = (l.take (i + 1) ++ among O x (l.drop (i + 1))).reverse) ∨
       (z.1 = x.1 ∧ z.2 + x.2 ≠ 0 ∧ ins O x l.reverse = (l.set i (x.1, z.2 + x.2)).reverse) ∨
       (z.1 = x.1 ∧ z.2 + x.2 = 0 ∧ ins O x l.reverse = (l.eraseIdx i).reverse)) := by
  rcases last_cut (p := fun b => O.tc b x.1) l.reverse with ⟨h1, h2⟩ | ⟨v, z, r0, e, h2, h3, h4⟩
  · refine .inl ⟨by rw [← hk, h1], ?_⟩
    have := (ins_among (O := O) (x := x) (r0 := []) rfl (v := l.reverse) h2).1
    rw [List.append_nil, List.append_nil, List.reverse_reverse] at this
    exact this
  · right
    have el : l = r0.reverse ++ z :: v.reverse := by
      have := congrArg List.reverse e
      simpa using this
    have hi : l[r0.length]? = some z := by
      rw [el, List.getElem?_append_right (by simp)]
      simp
    refine ⟨r0.length, z, by rw [← hk, h2], hi, ?_⟩
    by_cases hz : z.1 = x.1
    · obtain ⟨z1, z2⟩ := z
      obtain ⟨x1, x2⟩ := x
      have hz : z1 = x1 := hz
      subst hz
      have m := (ins_merge (O := O) (a := z1) (s := z2) (t := x2) (r0 := r0) h4).1
      right
      by_cases h0 : z2 + x2 = 0
      · right
        refine ⟨rfl, h0, ?_⟩
        rw [e, m, if_pos h0, el]
        rw [List.eraseIdx_append_of_length_le (by simp)]
        simp
      · left
        refine ⟨rfl, h0, ?_⟩
        rw [e, m, if_neg h0, el]
        rw [List.set_append_right _ _ (by simp)]
        simp
    · left
      refine ⟨hz, ?_⟩
      have hc : O.tc z.1 x.1 = true := h3
      have m := (ins_among (O := O) (x := x) (r0 := z :: r0) (top_touch hc hz) h4).1
      rw [e, m]
      have t1 : l.take (r0.length + 1) = r0.reverse ++ [z] := by
        rw [el, List.take_append, List.length_reverse, Nat.add_sub_cancel_left, List.take_of_length_le (by simp)]
        rfl
      have t2 : l.drop (r0.length + 1) = v.reverse := by
        rw [el, List.drop_append, List.length_reverse, Nat.add_sub_cancel_left, List.drop_of_length_le (by simp)]
        rfl
      rw [t1, t2]
      simp
end
end XM
set_option Elab.async false
set_option linter.all false
set_option maxRecDepth 100000
set_option maxHeartbeats 4000000
namespace XB
open PySem PySem.Spec PyProof.Rows L2
theorem u65 {k : Nat} {A : Around} (r : Room k A) : A.units + 65 < cLine := by
  have := r.un
  omega
section
variable {X : Cx}
theorem op_inDTk {K : PySem.W.Frag} (hk : X.K = K) (hu : X.A.units + 65 < cLine) : OpR X (compareOp .In) (fun x y H Q => ∃ d ds, Dp K H x d ∧ Dp K H y (.tuple ds) ∧ SeqAt.shaped d = true ∧ SeqAt.shaped (.tuple ds) = true ∧ Q (.bl (ds.any fun z => PyData.eqv z d)) H) := by
  subst hk
  intro pins s σ H x y v u Q I rx ry h
  obtain ⟨d, ds, hd, he, sd, se, q⟩ := h
  obtain ⟨as, r1⟩ := Dp.reads I d x v hd rx
  obtain ⟨bs, r2⟩ := Dp.reads I (.tuple ds) y u he ry
  exact SeqAt.in_tuple_reads r2 r1 (SeqAt.canLay_of_shaped se) (SeqAt.canLay_of_shaped sd) (room_in_shaped sd hu) ⟨.bl _, H, I, rfl, q⟩
end
section
variable {P : Program} {w : World} {K : PySem.W.Frag} {mg : Str → Option Value} {base : Heap}
def spIsWhole : Sp := fun vs H Q _ => ∃ z : Int, vs = [.int z] ∧ Q (.bl true) H
theorem c_is_whole (T : Tx K mg) : Cl P w K mg base CX0 1 "is_whole" spIsWhole := by
  refine cl0 T.d_is_whole (ps := ["value"]) (fun _ _ _ _ _ _ us hl => match us, hl with | [_], _ => rfl) sc_is_whole (fun vs H Q E h => ?_) (fun f cdv A outer st H vs Q E hr h => ?_)
  · obtain ⟨z, rfl, _⟩ := h
    rfl
  · obtain ⟨z, rfl, q⟩ := h
    refine ⟨_, pss_one (ps_ret (pe_and (pe_isT "int" (by rfl) T.b_isinstance (by rfl) T.b_int (by decide +kernel) (pv 0)) (pe_one (pe_not (pe_isT "bool" (by rfl) T.b_isinstance (by rfl) T.b_bool (by decide +kernel) (pv 0)))))), ?_⟩
    refine ⟨_, rfl, _, _, _, _, _, rfl, .ty _, .base (.int z), kit_ty (r := true) (by decide +kernel), _, rfl, iteT ?_⟩
    refine ⟨_, rfl, _, _, _, _, _, rfl, .ty _, .base (.int z), kit_ty (r := false) (by decide +kernel), _, rfl, q⟩
def GoodTimes (t : Int) : Prop := t ≠ 0 ∧ -(10 ^ 30) ≤ t ∧ t ≤ 10 ^ 30
def spIsGreat (K : PySem.W.Frag) : Sp := fun vs H Q _ => ∃ (n v : Addr) (l : List Str) (s : Str × Int), vs = [.ref n, .ref v] ∧ SqT K H n (l.map V.str) ∧ SqT K H v [.str s.1, .int s.2] ∧ s.1 ∈ l ∧ s.2 ≠ 0 ∧ Q (.bl true) H
theorem c_is_great_step (T : Tx K mg) : Cl P w K mg base CX0 2 "is_great_step" (spIsGreat K) := by
  refine cl0 T.d_is_great_step (ps := ["names", "value"]) (fun _ _ _ _ _ _ us hl => match us, hl with | [_, _], _ => rfl) sc_is_great_step (fun vs H Q E h => ?_) (fun f cdv A outer st H vs Q E hr h => ?_)
  · obtain ⟨n, v, l, s, rfl, _⟩ := h
    rfl
  · obtain ⟨n, v, l, s, rfl, hN, hV, ha, t0, q⟩ := h
    have nd := sc_is_great_step.nd
    refine ⟨_, pss_cons (ps_if (pt_not (pt_val (pe_k (c_is_pair T) hr (by decide) (by rfl) (pa_cons (pv 1) pa_nil)))) pss_never pss_nil)
      (pss_cons (ps_asg (pv 1) (pg_tup rfl (pgs_cons (pg_name (i := 2) nd rfl (.inl rfl)) (pgs_cons (pg_name (i := 3) nd rfl (.inl rfl)) pgs_nil))))
      (pss_one (ps_ret (pe_and (pe_cmpR op_in_seq (pv 2) (pv 0) (by rfl)) (pe_and (pe_k (c_is_whole T) hr (by decide) (by rfl) (pa_cons (pv 3) pa_nil)) (pe_one (pe_cmpR op_ne (pv 3) pe_int (nomark _)))))))), ?_⟩
    refine ⟨_, rfl, v, _, rfl, hV, _, rfl, iteF ?_⟩
    refine ⟨_, rfl, v, _, rfl, hV, rfl, _, _, rfl, _, _, rfl, rfl, ?_⟩
    refine ⟨_, rfl, _, rfl, n, _, rfl, .inr hN, rfl, flat_strs l, _, rfl, ?_⟩
    rw [if_neg Bool.false_ne_true, inV_strs, show l.contains s.1 = true by simpa using ha]
    refine iteT ⟨_, rfl, _, rfl, _, rfl, iteT ?_⟩
    refine ⟨_, rfl, rfl, ?_⟩
    have e : (!decide (V.int s.2 = V.int 0)) = true := by
      rw [dec_int]
      simp [t0]
    rw [e]
    exact q
def spIsTimes : Sp := fun vs H Q _ => ∃ z : Int, vs = [.int z] ∧ GoodTimes z ∧ Q (.bl true) H
theorem c_is_times (T : Tx K mg) : Cl P w K mg base CX0 2 "is_times" spIsTimes := by
  refine cl0 T.d_is_times (ps := ["value"]) (fun _ _ _ _ _ _ us hl => match us, hl with | [_], _ => rfl) sc_is_times (fun vs H Q E h => ?_) (fun f cdv A outer st H vs Q E hr h => ?_)
  · obtain ⟨z, rfl, _⟩ := h
    rfl
  · obtain ⟨z, rfl, ⟨t0, t1, t2⟩, q⟩ := h
    obtain ⟨tk, hMT⟩ := T.g_MOST_TIMES
    refine ⟨_, pss_one (ps_ret (pe_and (pe_k (c_is_whole T) hr (by decide) (by rfl) (pa_cons (pv 0) pa_nil)) (pe_and (pe_cmpR op_ne (pv 0) pe_int (nomark _))
        (pe_one (pe_cmpR op_le (pe_callB call_abs (by rfl) T.b_abs (by decide +kernel) (pa_cons (pv 0) pa_nil)) (pe_glob (v := .int (10 ^ 30)) (by rfl) hMT ⟨_, rfl⟩) (nomark _)))))), ?_⟩
    refine ⟨_, rfl, _, rfl, _, rfl, iteT ?_⟩
    refine ⟨_, rfl, rfl, _, rfl, ?_⟩
    have e : (!decide (V.int z = V.int 0)) = true := by
      rw [dec_int]
      simp [t0]
    rw [e]
    refine iteT ⟨_, rfl, _, rfl, _, _, rfl, rfl, ?_⟩
    have e2 : decide ((if z < 0 then -z else z) ≤ 10 ^ 30) = true := by
      refine decide_eq_true ?_
      split <;> omega
    show Q (.bl (decide ((if z < 0 then -z else z) ≤ 10 ^ 30))) H
    rw [e2]
    exact q
def spIsStep (K : PySem.W.Frag) : Sp := fun vs H Q _ => ∃ (n v : Addr) (l : List Str) (s : Str × Int), vs = [.ref n, .ref v] ∧ SqT K H n (l.map V.str) ∧ SqT K H v [.str s.1, .int s.2] ∧ s.1 ∈ l ∧ GoodTimes s.2 ∧ Q (.bl true) H
theorem c_is_step (T : Tx K mg) : Cl P w K mg base CX0 3 "is_step" (spIsStep K) := by
  refine cl0 T.d_is_step (ps := ["names", "value"]) (fun _ _ _ _ _ _ us hl => match us, hl with | [_, _], _ => rfl) sc_is_step (fun vs H Q E h => ?_) (fun f cdv A outer st H vs Q E hr h => ?_)
  · obtain ⟨n, v, l, s, rfl, _⟩ := h
    rfl
  · obtain ⟨n, v, l, s, rfl, hN, hV, ha, gt, q⟩ := h
    refine ⟨_, pss_one (ps_ret (pe_and (pe_k (c_is_great_step T) hr (by decide) (by rfl) (pa_cons (pv 0) (pa_cons (pv 1) pa_nil)))
        (pe_one (pe_k (c_is_times T) hr (by decide) (by rfl) (pa_cons (pe_ix (ixk_tup (K := K) rfl) (pv 1) pe_int (fun _ _ => rfl)) pa_nil))))), ?_⟩
    refine ⟨_, rfl, _, rfl, n, v, l, s, rfl, hN, hV, ha, gt.1, _, rfl, iteT ?_⟩
    exact ⟨_, rfl, v, _, _, _, rfl, rfl, hV, rfl, _, rfl, gt, q⟩
def GoodScript (F : Fld) (l : List (Str × Int)) : Prop := l.length ≤ 60 ∧ ∀ s ∈ l, s.1 ∈ F.names ∧ GoodTimes s.2
def spNeedScript (K : PySem.W.Frag) : Sp := fun vs H Q _ => ∃ (a d : Addr) (F : Fld) (l : List (Str × Int)), vs = [.ref a, .ref d] ∧ Dp K H (.ref a) (dField F) ∧ F.Ok ∧ Dp K H (.ref d) (dSteps l) ∧ GoodScript F l ∧ ∀ H', Same H H' → Q (.ref d) H'
theorem c_need_script (T : Tx K mg) : Cl P w K mg base CX0 5 "need_script" (spNeedScript K) := by
  refine cl0 T.d_need_script (ps := ["field", "deeds"]) (fun _ _ _ _ _ _ us hl => match us, hl with | [_, _], _ => rfl) sc_need_script (fun vs H Q E h => ?_) (fun f cdv A outer st H vs Q E hr h => ?_)
  · obtain ⟨a, d, F, l, rfl, _⟩ := h
    rfl
  · obtain ⟨a, d, F, l, rfl, hF, ok, hL, ⟨l60, hg⟩, q⟩ := h
    have nd := sc_need_script.nd
    obtain ⟨tk, hMS⟩ := T.g_MOST_STEPS
    refine ⟨_, pss_cons (ps_asg (pe_k (c_need_field T) hr (by decide) (by rfl) (pa_cons (pv 0) pa_nil)) (pg_tup rfl (pgs_cons (pg_name (i := 2) nd rfl (.inl rfl)) (pgs_cons (pg_name (i := 3) nd rfl (.inl rfl)) pgs_nil))))
      (pss_cons (ps_if (PW.pt (pw_or (pt_not (pt_val (pe_isT "tuple" (by rfl) T.b_isinstance (by rfl) T.b_tuple (by decide +kernel) (pv 1)))) (pw_or1 (pt_cmpR op_gt (pe_lenS (by rfl) T.b_len (pv 1)) (pe_glob (v := .int 60) (by rfl) hMS ⟨_, rfl⟩) (nomark _))))) pss_never pss_nil)
      (pss_cons (ps_for PassesOwn.never rfl (pi_enumT (by rfl) T.b_enumerate (pa_cons (pv 1) pa_nil)) (pg_tup rfl (pgs_cons (pg_name (i := 4) nd rfl (.inl rfl)) (pgs_cons (pg_name (i := 5) nd rfl (.inl rfl)) pgs_nil)))
        (pss_one (ps_if (pt_not (pt_val (pe_k (c_is_step T) hr (by decide) (by rfl) (pa_cons (pv 2) (pa_cons (pv 5) pa_nil))))) pss_never pss_nil)))
      (pss_one (ps_ret (pv 1))))), ?_⟩
    refine ⟨_, rfl, a, F, rfl, hF, ok, fun H1 s1 => ?_⟩
    obtain ⟨_, n, p, ps, e, hA, hN, hP, hD⟩ := (Dp.tk (Tk.of s1) (dField F) (flat_field F) hF).field
    cases e
    obtain ⟨_, vs, e, hS, hV⟩ := (Dp.tk (Tk.of s1) (dSteps l) (flat_steps l) hL).steps
    cases e
    have hl := hV.len
    rw [List.length_map] at hl
    refine ⟨a, _, rfl, hA, rfl, _, _, rfl, _, _, rfl, rfl, ?_⟩
    refine ⟨_, rfl, _, _, _, _, _, rfl, .ty _, tyx_tup hS, kit_ty (r := true) (by decide +kernel), _, rfl, iteF ?_⟩
    refine ⟨_, rfl, d, _, rfl, .inr hS, _, _, rfl, rfl, _, rfl, ?_⟩
    rw [show decide ((60 : Int) < (vs.length : Int)) = false from decide_eq_false (by omega)]
    refine iteF ?_
    refine ⟨_, rfl, d, vs, rfl, hS, for_it (walk_IeT (xs := vs)) (fun i σ H2 => ∃ (y4 y5 : Option V), σ = [some (.ref a), some (.ref d), some (.ref n), some (.ref p), y4, y5] ∧ Same H1 H2)
      ⟨none, none, rfl, Same.refl _⟩ (fun i σ H2 _ ⟨y4, y5, _, s2⟩ => (Tk.of s2).sqT hS) (fun i x σ H2 H3 hi ⟨y4, y5, eσ, s2⟩ hy => ?_) (fun σ H2 ⟨y4, y5, eσ, s2⟩ => ?_)⟩
    · obtain ⟨Tt, x1, x2, rfl, nT, rfl, f1, f2⟩ := hy
      subst eσ
      obtain ⟨d', g1, p1⟩ := hV.get f2
      rw [List.getElem?_map] at g1
      obtain ⟨s, k1, rfl⟩ := Option.map_eq_some_iff.mp g1
      obtain ⟨b, rfl, cb⟩ := p1.step
      have ms := hg s (List.mem_of_getElem? k1)
      have s3 := same_new (o := .tup [x1, .ref b]) s2 nT
      refine ⟨Tt, _, rfl, SqT.of upd_same, rfl, _, _, rfl, _, _, rfl, rfl, ?_⟩
      refine ⟨_, rfl, _, rfl, n, b, F.names, s, rfl, (Tk.of s3).sqT hN, (Tk.of s3).sqT cb, ms.1, ms.2, _, rfl, iteF ?_⟩
      exact ⟨_, _, rfl, s3⟩
    · subst eσ
      exact ⟨_, rfl, q _ (s1.trans s2)⟩
/-! ### touching -/
theorem any_pairs (ps : List (Str × Str)) (a b : Str) : (ps.map dPair).any (fun z => PyData.eqv z (dPair (a, b))) = ps.contains (a, b) := by
  induction ps with
  | nil => rfl
  | cons p r ih =>
    rw [List.map_cons, List.any_cons, ih, List.contains_cons]
    congr 1
    obtain ⟨c, d⟩ := p
    show (PyData.eqv (.str c) (.str a) && (PyData.eqv (.str d) (.str b) && true)) = ((a, b) == (c, d))
    show ((c == a) && ((d == b) && true)) = ((a == c) && (b == d))
    rw [Bool.and_true]
    rw [show (c == a) = (a == c) from BEq.comm, show (d == b) = (b == d) from BEq.comm]
theorem strOk_of {n : Str} (h : GoodName n) : PyData.strOk n = true := by
  obtain ⟨h1, h6, hc⟩ := h
  unfold PyData.strOk
  rw [← Array.all_toList, List.all_eq_true]
  intro c m
  have := hc c m
  exact decide_eq_true (by omega)
theorem lay_pair {p : Str × Str} (h1 : GoodName p.1) (h2 : GoodName p.2) : (dPair p).canLay0 = true := by
  show PyData.canLay0 (.tuple [.str p.1, .str p.2]) = true
  simp [PyData.canLay0, PyData.canLayAll0, strOk_of h1, strOk_of h2]
theorem sh_pair {p : Str × Str} (h1 : GoodName p.1) (h2 : GoodName p.2) : SeqAt.shaped (dPair p) = true := by
  unfold SeqAt.shaped
  rw [lay_pair h1 h2]
  show (true && _) = true
  simp [dPair, PyData.depth, PyData.depthAll]
theorem layPairs : ∀ {ps : List (Str × Str)}, (∀ p ∈ ps, GoodName p.1 ∧ GoodName p.2) → PyData.canLayAll0 (ps.map dPair) = true
  | [], _ => rfl
  | p :: ps, h => by
    rw [List.map_cons, PyData.canLayAll0, layPairs fun x hx => h x (List.mem_cons_of_mem _ hx), lay_pair (h p List.mem_cons_self).1 (h p List.mem_cons_self).2]
    rfl
theorem deepPairs : ∀ ps : List (Str × Str), PyData.depthAll (ps.map dPair) ≤ 2
  | [] => by decide
  | p :: ps => by
    rw [List.map_cons, PyData.depthAll]
    have := deepPairs ps
    have e : (dPair p).depth ≤ 2 := by
      show PyData.depth (.tuple [.str p.1, .str p.2]) ≤ 2
      simp [PyData.depth, PyData.depthAll]
    omega
theorem sh_pairs {ps : List (Str × Str)} (h : ∀ p ∈ ps, GoodName p.1 ∧ GoodName p.2) : SeqAt.shaped (.tuple (ps.map dPair)) = true := by
  have h2 := deepPairs ps
  show (PyData.canLayAll0 (ps.map dPair) && decide (PyData.depthAll (ps.map dPair) + 1 ≤ 64)) = true
  rw [layPairs h, Bool.true_and]
  exact decide_eq_true (by omega)
theorem Fld.Ok.good {F : Fld} (ok : F.Ok) : ∀ p ∈ F.pairs, GoodName p.1 ∧ GoodName p.2 := fun p hp => ⟨ok.sgn _ (ok.inN p hp).1, ok.sgn _ (ok.inN p hp).2⟩
def spAreApart (K : PySem.W.Frag) : Sp := fun vs H Q _ => ∃ (p : Addr) (ps : List V) (F : Fld) (a b : Str), vs = [.ref p, .str a, .str b] ∧ SqT K H p ps ∧ DpAll K H ps (F.pairs.map dPair) ∧ F.Ok ∧ a ∈ F.names ∧ b ∈ F.names ∧ ∀ H', Same H H' → Q (.bl (apart F a b)) H'
theorem c_are_apart (T : Tx K mg) : Cl P w K mg base CX0 1 "are_apart" (spAreApart K) := by
  refine cl0 T.d_are_apart (ps := ["pairs", "one", "other"]) (fun _ _ _ _ _ _ us hl => match us, hl with | [_, _, _], _ => rfl) sc_are_apart (fun vs H Q E h => ?_) (fun f cdv A outer st H vs Q E hr h => ?_)
  · obtain ⟨p, ps, F, a, b, rfl, _⟩ := h
    rfl
  · obtain ⟨p, ps, F, a, b, rfl, hP, hD, ok, ma, mb, q⟩ := h
    have hu := u65 hr
    refine ⟨_, pss_one (ps_ret (pe_cmpR (op_inDTk (K := K) rfl hu) (pe_tup (pa_cons (pe_callB (call_min2S rfl) (by rfl) T.b_min (by decide +kernel) (pa_cons (pv 1) (pa_cons (pv 2) pa_nil)))
      (pa_cons (pe_callB (call_max2S rfl) (by rfl) T.b_max (by decide +kernel) (pa_cons (pv 1) (pa_cons (pv 2) pa_nil))) pa_nil))) (pv 0) (by rfl))), ?_⟩
    refine ⟨_, rfl, _, rfl, _, _, rfl, _, rfl, _, rfl, _, _, rfl, (show 2 ≤ sizeLine by decide), fun t ht => ⟨_, rfl, dPair ((if sLt b a then b else a), (if sLt a b then b else a)), F.pairs.map dPair, .tup (SqT.of upd_same) (.cons (.str _) (.cons (.str _) .nil)), .tup ((Tk.of (same_upd ht)).sqT hP) (DpAll.tk (Tk.of (same_upd ht)) _ (flatAll_of fun d hd => ?_) hD), sh_pair ?_ ?_, sh_pairs ok.good, ?_⟩⟩
    · obtain ⟨y, _, rfl⟩ := List.mem_map.mp hd
      rfl
    · show GoodName (if sLt b a then b else a)
      split <;> first | exact ok.sgn _ ma | exact ok.sgn _ mb
    · show GoodName (if sLt a b then b else a)
      split <;> first | exact ok.sgn _ ma | exact ok.sgn _ mb
    · rw [any_pairs, apart_min ok]
      exact q _ (same_upd ht)
def spNamesTouching (K : PySem.W.Frag) : Sp := fun vs H Q _ => ∃ (a : Addr) (F : Fld) (n : Str), vs = [.ref a, .str n] ∧ Dp K H (.ref a) (dField F) ∧ F.Ok ∧ n ∈ F.names ∧ ∀ H' q, Same H H' → SqT K H' q ((touchL F n).map V.str) → Q (.ref q) H'
def TouchAt (K : PySem.W.Frag) (H : Hp) (t : Addr) (F : Fld) : Prop := ∃ kvs : List (Key × V), H t = some (.dK kvs) ∧ ∀ n ∈ F.names, ∃ a, valV kvs (.inr n) = some (.ref a) ∧ SqT K H a ((touchL F n).map V.str)
theorem TouchAt.same {K : PySem.W.Frag} {H H' : Hp} {t : Addr} {F : Fld} (h : TouchAt K H t F) (s : Same H H') : TouchAt K H' t F := by
  obtain ⟨kvs, e, g⟩ := h
  refine ⟨kvs, s _ _ e, fun n hn => ?_⟩
  obtain ⟨a, e1, e2⟩ := g n hn
  exact ⟨a, e1, (Tk.of s).sqT e2⟩
def spTouchTable (K : PySem.W.Frag) : Sp := fun vs H Q _ => ∃ (a : Addr) (F : Fld), vs = [.ref a] ∧ Dp K H (.ref a) (dField F) ∧ F.Ok ∧ ∀ H' t, Same H H' → H t = none → TouchAt K H' t F → Q (.ref t) H'
end
end XB
set_option Elab.async false
set_option linter.all false
set_option maxRecDepth 100000
set_option maxHeartbeats 4000000
/-! t[::-1] of a tuple -/
namespace HT
open PySem PySem.Spec PyProof.Rows
section
variable {prog : Program} {w : World} {A : Around} {E : Value → Shared → Prop} {s : Shared}
theorem adjust_rev (n : Nat) : Builtin.Slice.sliceAdjust none none (-1) (n : Int) = ((n : Int) - 1, -1) := by
  unfold Builtin.Slice.sliceAdjust
  rfl
theorem places_rev (n : Nat) : Builtin.Slice.slicePlaces ((n : Int) - 1) (-1) (-1) = n := by
  unfold Builtin.Slice.slicePlaces
  have h1 : ¬ ((-1 : Int) > 0) := by decide
  simp only [h1, if_false]
  rw [show (- -1 : Int) = 1 from rfl, Int.ediv_one]
  split <;> omega
theorem sliceApplied_rev {sl : Addr} {n : Nat} {u : Tok} {Q : Int × Int × Nat → Shared → Prop} (hs : s.heap.IsSliceOf sl .none .none (.int (-1) u))
    (h : Q ((n : Int) - 1, -1, n) s) : wpAny (model prog w) A (Builtin.Slice.sliceApplied (.ref sl) (pure (n : Int))) Q E s := by
  obtain ⟨os, hos, hcs, hds⟩ := id hs
  unfold Builtin.Slice.sliceApplied Builtin.Slice.sliceFields
  refine wpAny_bind (wpAny_bind (wpAny_field hos hds (x := .none) rfl (wpAny_bind (wpAny_field hos hds (x := .none) rfl (wpAny_bind (wpAny_field hos hds (x := .int (-1) u) rfl (wpAny_pure ?_)))))))
  refine wpAny_bind (slicePart_int ?_)
  show wpAny _ _ (if ((-1 : Int) == 0) = true then _ else _) _ _ s
  rw [if_neg (by decide)]
  refine wpAny_bind (slicePart_none (wpAny_bind (slicePart_none (wpAny_bind (wpAny_pure ?_)))))
  show wpAny _ _ (match Builtin.Slice.sliceAdjust none none (-1) (n : Int) with | (lo, hi) => pure (lo, (-1 : Int), Builtin.Slice.slicePlaces lo hi (-1))) _ _ s
  rw [adjust_rev n]
  show wpAny _ _ (pure ((n : Int) - 1, (-1 : Int), Builtin.Slice.slicePlaces ((n : Int) - 1) (-1) (-1))) _ _ s
  rw [places_rev]
  exact wpAny_pure h
theorem pick_rev (xs : Array Value) : ((List.range xs.size).filterMap fun (m : Nat) => xs[(((xs.size : Int) - 1) + (m : Int) * -1).toNat]?).toArray = xs.toList.reverse.toArray := by
  have e : (fun (m : Nat) => xs[(((xs.size : Int) - 1) + (m : Int) * -1).toNat]?) = (fun k => xs[k]?) ∘ fun m => xs.size - 1 - m := by
    funext m
    have : (((xs.size : Int) - 1) + (m : Int) * -1).toNat = xs.size - 1 - m := by omega
    rw [this]
    rfl
  rw [e, ← List.filterMap_map, PySem.W.krv_range, List.filterMap_reverse, PySem.W.krv_all]
theorem getItem_tuple_rev {t sl : Addr} {items : Array Value} {u : Tok} {Q : Value → Shared → Prop} (ht : IsTup s.heap t items) (hs : s.heap.IsSliceOf sl .none .none (.int (-1) u))
    (h : Q (.ref s.heap.objs.size) { s with heap := s.heap.push { cls := .type "tuple", data := .seq items.toList.reverse.toArray } })
    (hsz : items.size ≤ sizeLine) : wpAny (model prog w) A (getItem (.ref t) (.ref sl)) Q E s := by
  have htake : sizeOk (.seq items.toList.reverse.toArray) := by
    show items.toList.reverse.toArray.size ≤ sizeLine
    rw [List.size_toArray, List.length_reverse, Array.length_toList]
    exact hsz
  obtain ⟨os, hos, hcs, hds⟩ := id hs
  have hTs : s.TypeIs (.ref sl) "slice" := ⟨os, hos, hcs⟩
  unfold getItem
  try with_reducible refine wpAny_holding ?_
  first | refine wpAny_bind (wpAny_pure ?_) | skip
  refine wpAny_bind (wpAny_sequenceKey ht.typeIs (by decide) ?_)
  refine wpAny_bind (wpAny_callSpecial?_slot (name := Str.ofString "__getitem__") ht.typeIs PyProof.Rows.slot_tuple_getitem
    (wpAny_call_entry PyProof.Rows.slot_tuple_getitem ht.typeIs entry_tuple_getitem ?_ (args_tuple_getitem _ _)))
  show wpAny _ _ (Builtin.Tuple.tupleItemsOf (.ref t) >>= _) _ _ s
  refine wpAny_bind (tupleItemsOf_ ht ?_)
  refine wpAny_bind (wpAny_typeOf hTs ?_)
  rw [if_pos (by decide)]
  refine wpAny_bind (sliceApplied_rev hs ?_)
  have hno : ¬ ((((items.size : Int) - 1) == 0 && (-1 : Int) == 1 && items.size == items.size) = true) := by
    intro q
    rw [Bool.and_eq_true, Bool.and_eq_true] at q
    exact absurd q.1.2 (by decide)
  show wpAny _ _ (if ((((items.size : Int) - 1) == 0 && (-1 : Int) == 1 && items.size == items.size) = true) then _ else _) _ _ s
  rw [if_neg hno, pick_rev]
  first
    | exact wpAny_bind (m := Builtin.Tuple.tupleExact _) (wpAny_newObj_type (wpAny_pure ⟨_, rfl, wpAny_pure h⟩) htake)
    | exact wpAny_bind (m := Builtin.Tuple.tupleExact _) (wpAny_newObj_type (wpAny_bind (wpAny_pure (wpAny_pure ⟨_, rfl, wpAny_pure h⟩))) htake)
    | exact wpAny_bind (wpAny_bind (m := Builtin.Tuple.tupleExact _) (wpAny_newObj_type (wpAny_pure (wpAny_pure ⟨_, rfl, wpAny_pure h⟩)) htake))
    | exact wpAny_bind (wpAny_bind (m := Builtin.Tuple.tupleExact _) (wpAny_newObj_type (wpAny_pure ⟨_, rfl, wpAny_pure h⟩) htake))
end
end HT
namespace XB
open PySem PySem.Spec PyProof.Rows L2
section
variable {X : Cx}
def tRevT (K : PySem.W.Frag) (te : TE) : TE := fun σ H Q => te σ H fun x H1 => ∃ a xs, x = .ref a ∧ SqT K H1 a xs ∧ ∀ p, H1 p = none → Q (.ref p) (upd H1 p (.tup xs.reverse))
theorem pe_revT {e : Expr} {te : TE} {k : Nat} {p1 p2 p3 pos : Pos} (he : PE X e te) : PE X (.Subscript e (.Slice none none (some (.UnaryOp .USub (.Constant (.int 1) k p1) p2)) p3) pos) (tRevT X.K te) := by
  refine ⟨fun pins s σ H Q I h => ?_⟩
  refine Subscript_ (thn (he.run pins s σ H _ I h) fun v s1 ⟨x, H1, I1, r1, q1⟩ => ?_)
  obtain ⟨a, xs, ex, hx, q⟩ := q1
  subst ex
  cases r1
  have hst : PO X (some (.UnaryOp .USub (.Constant (.int 1) k p1) p2)) (tPart (tUn (rU fun i => .int (-i)) (tC (.int 1)))) := po_some (pe_un un_neg pe_int)
  refine wpAny_Slice (thn (po_none.run pins s1 σ H1 (fun o H2 => o = none ∧ H2 = H1) I1 ⟨rfl, rfl⟩) fun vl s2 ⟨l, H2, I2, pl, el, e2⟩ => ?_)
  subst el e2
  refine thn (po_none.run pins s2 σ H2 (fun o H3 => o = none ∧ H3 = H2) I2 ⟨rfl, rfl⟩) fun vu s3 ⟨u, H3, I3, pu, eu, e3⟩ => ?_
  subst eu e3
  refine thn (hst.run pins s3 σ H3 (fun o H4 => o = some (-1) ∧ H4 = H3) I3 ⟨1, rfl, -1, rfl, rfl, rfl⟩) fun vs s4 ⟨o, H4, I4, ps, eo, e4⟩ => ?_
  subst eo e4
  cases pl
  cases pu
  cases ps with
  | int i tk =>
    have I5 : Inv X pins σ H4 { s4 with heap := s4.heap.push { cls := .type "slice", data := .fields #[.none, .none, .int (-1) tk] } } := I4.kept (t' := s4.toks) fun b ob q => Heap.get?_push_of_some _ q
    obtain ⟨its, r, ht, hz⟩ := I5.tuple hx
    have hlen := r.length
    show wpAny (model X.prog X.w) X.A (subscriptTail e (.Slice none none (some (.UnaryOp .USub (.Constant (.int 1) k p1) p2)) p3) (.ref a) (.ref s4.heap.objs.size)) (EP X pins σ Q) X.xe { s4 with heap := s4.heap.push { cls := .type "slice", data := .fields #[.none, .none, .int (-1) tk] } }
    refine tail_any (ops := [.ref a, .ref s4.heap.objs.size]) ht.typeIs PyProof.Rows.slot_tuple_getitem.lookup ?_ (by with_unfolding_all rfl)
    refine HT.getItem_tuple_rev ht (Heap.IsSliceOf.new _ .none .none (.int (-1) tk)) ?_ (by rw [List.size_toArray]; omega)
    refine ⟨.ref _, _, I5.laid (t' := s4.toks) (o := .tup xs.reverse) (fun b ob q => Heap.get?_push_of_some _ q) (Nat.le_refl _) ?_, rfl, q _ (I5.hok.fresh (Nat.le_refl _))⟩
    exact ⟨by rw [List.length_reverse]; exact hz, _, r.reverse, ⟨_, Heap.get?_push_size _ rfl, rfl, _, rfl⟩⟩
end
end XB
set_option Elab.async false
set_option linter.all false
set_option maxRecDepth 100000
set_option maxHeartbeats 4000000
/-! rules of rows, lists or tuples -/
namespace XB
open PySem PySem.Spec PyProof.Rows L2
def SqX (K : PySem.W.Frag) (H : Hp) (p : Addr) (xs : List V) : Prop := SqL K H p xs ∨ SqT K H p xs
theorem SqX.same {K : PySem.W.Frag} {H H' : Hp} {p : Addr} {xs : List V} (s : Same H H') (h : SqX K H p xs) : SqX K H' p xs := h.elim (fun h => .inl (s.seq h)) fun h => .inr ((Tk.of s).sqT h)
def rIxX (K : PySem.W.Frag) : R2 := fun x y H Q => ∃ p xs i v, x = .ref p ∧ y = .int i ∧ SqX K H p xs ∧ atI xs i = some v ∧ Q v H
section
variable {X : Cx}
theorem ixk_row {K : PySem.W.Frag} (hk : X.K = K) : IxR X (rIxX K) := by
  subst hk
  intro value slice pins s σ H x y v u Q I rx ry h hs
  obtain ⟨p, xs, i, z, e1, e2, hq, he, q⟩ := h
  rcases hq with hq | hq
  · exact ix_list value slice pins s σ H x y v u Q I rx ry ⟨p, xs, i, z, e1, e2, hq, he, q⟩ hs
  · exact ix_tup value slice pins s σ H x y v u Q I rx ry ⟨p, xs, i, z, e1, e2, hq, he, q⟩ hs
/-- a part of a row, whatever its kind: a row of the same kind, old or new -/
def rSlX (K : PySem.W.Frag) : V → Option Int → Option Int → Hp → VK → Prop := fun x lo hi H Q => ∃ p xs, x = .ref p ∧ SqX K H p xs ∧ ∀ H' q, Same H H' → SqX K H' q (cutV xs lo hi) → Q (.ref q) H'
theorem cut_whole {xs : List V} {lo hi : Option Int} (h : HT.sIx xs.length 0 lo = 0 ∧ HT.sIx xs.length xs.length hi = xs.length) : cutV xs lo hi = xs := by
  unfold cutV
  rw [h.1, h.2]
  simp
theorem slk_row {K : PySem.W.Frag} (hk : X.K = K) : SlR X (rSlX K) := by
  subst hk
  intro pins s σ H x v vl vu lo hi sl Q I rx hs pl pu h
  obtain ⟨p, xs, e, hq, q⟩ := h
  rcases hq with hq | hq
  · exact sl_list pins s σ H x v vl vu lo hi sl Q I rx hs pl pu ⟨p, xs, e, hq, fun r hr => q _ r (same_upd hr) (.inl (SqL.of upd_same))⟩
  · exact sl_tupA pins s σ H x v vl vu lo hi sl Q I rx hs pl pu ⟨p, xs, e, hq, fun hw => q _ p (Same.refl _) (by rw [cut_whole hw]; exact .inr hq), fun _ r hr => q _ r (same_upd hr) (.inr (SqT.of upd_same))⟩
/-- a row walked through, whatever its kind -/
def iRow (K : PySem.W.Frag) (tl : TE) : TI := fun σ H R => tl σ H fun x H1 => ∃ a xs, x = .ref a ∧ SqX K H1 a xs ∧ ∀ (J : It) (G : Hp → Prop), (∀ H', Same H1 H' → G H') → Walk J xs.length G (YAt xs) → R J H1
theorem pi_row {l tg : Expr} {tl : TE} (hl : PE X l tl) : PI X tg l (iRow X.K tl) := by
  refine ⟨fun pins s σ H R I h => ?_⟩
  refine thn (hl.run pins s σ H _ I h) fun v s1 ⟨x, H1, I1, r1, q1⟩ => ?_
  obtain ⟨a, xs, e, hq, q⟩ := q1
  subst e
  cases r1
  rcases hq with hq | hq
  · obtain ⟨its, rv, p, hz⟩ := I1.list hq
    refine wpAny_pyIter_list p.isList ?_
    refine ⟨s1.heap.objs.size, [s1.heap.objs.size], _, _, H1, rfl, I1.kept (t' := s1.toks) fun b o e => Heap.get?_push_of_some _ e, turn_list a _, ⟨_, Heap.get?_push_size _ rfl, rfl, rfl⟩, fun b hb => ?_, q _ _ (fun H' s' => s'.seq hq) walk_list⟩
    have e : b = s1.heap.objs.size := by simpa using hb
    subst e
    exact I1.fpOk (Nat.le_refl _) (I1.hok.fresh (Nat.le_refl _))
  · obtain ⟨its, rv, p, hz⟩ := I1.tuple hq
    refine wpAny_pyIter_tuple (show s1.heap.IsTuple a its.toArray from p) ?_
    refine ⟨s1.heap.objs.size, [s1.heap.objs.size], _, _, H1, rfl, I1.kept (t' := s1.toks) fun b o e => Heap.get?_push_of_some _ e, turn_tuple a _, ⟨_, Heap.get?_push_size _ rfl, rfl, rfl⟩, fun b hb => ?_, q _ _ (fun H' s' => (Tk.of s').sqT hq) walk_tup⟩
    have e : b = s1.heap.objs.size := by simpa using hb
    subst e
    exact I1.fpOk (Nat.le_refl _) (I1.hok.fresh (Nat.le_refl _))
end
theorem cut_init (xs : List V) (k : Nat) : cutV xs none (some (k : Int)) = xs.take k := by
  unfold cutV
  rw [HT.sIx_none, HT.sIx_nat]
  rw [List.drop_zero, Nat.sub_zero]
  by_cases h : k ≤ xs.length
  · rw [Nat.min_eq_left h]
  · rw [Nat.min_eq_right (by omega), List.take_of_length_le (Nat.le_refl _), List.take_of_length_le (by omega)]
theorem cut_from (xs : List V) (k : Nat) : cutV xs (some (k : Int)) none = xs.drop k := by
  unfold cutV
  rw [HT.sIx_none, HT.sIx_nat]
  by_cases h : k ≤ xs.length
  · rw [Nat.min_eq_left h, List.take_of_length_le (by rw [List.length_drop]; omega)]
  · rw [Nat.min_eq_right (by omega), List.drop_of_length_le (Nat.le_refl _), List.drop_of_length_le (by omega)]
    simp
end XB
set_option Elab.async false
set_option linter.all false
set_option maxRecDepth 100000
set_option maxHeartbeats 4000000
/-! closers for readings of lists and tuples -/
namespace XB
open PySem PySem.Spec PyProof.Rows L2
theorem one_sz : 1 ≤ sizeLine := by decide
theorem two_sz : 2 ≤ sizeLine := by decide
theorem three_sz : 3 ≤ sizeLine := by decide
theorem slL {K : PySem.W.Frag} {H : Hp} {D : Addr} {ys : List V} {lo hi : Option Int} {Q : VK} (h : H D = some (.lst ys)) (q : ∀ H' p, Same H H' → H p = none → H' p = some (.lst (cutV ys lo hi)) → Q (.ref p) H') : rSlL K (.ref D) lo hi H Q :=
  ⟨D, ys, rfl, SqL.of h, fun p hp => q _ p (same_upd hp) hp upd_same⟩
theorem catL {H : Hp} {a b : Addr} {xs ys : List V} {Q : VK} (h1 : H a = some (.lst xs)) (h2 : H b = some (.lst ys)) (hl : xs.length + ys.length ≤ sizeLine) (q : ∀ H' p, Same H H' → H p = none → H' p = some (.lst (xs ++ ys)) → Q (.ref p) H') : rCat (.ref a) (.ref b) H Q :=
  ⟨a, b, xs, ys, rfl, rfl, h1, h2, hl, fun p hp => q _ p (same_upd hp) hp upd_same⟩
/-- a new object's heap as any heap that keeps what stood -/
@[elab_as_elim] theorem upd_gen {H : Hp} {p : Addr} {o : HO} {motive : Hp → Prop} (hp : H p = none) (q : ∀ H', Same H H' → H' p = some o → motive H') : motive (upd H p o) := q _ (same_upd hp) upd_same
theorem at_nil {α : Type} {x : α} {xs : List α} : atI (x :: xs) 0 = some x := atI_nat (j := 0) rfl
theorem ix0 {K : PySem.W.Frag} {σ : L2.St} {H : Hp} {b : Addr} {x : V} {xs : List V} {Q : VK} (h : SqT K H b (x :: xs)) (q : Q x H) : tC (.int 0) σ H (fun y H2 => rIxT K (.ref b) y H2 Q) := ⟨b, _, 0, x, rfl, rfl, h, at_nil, q⟩
theorem at_one {α : Type} {x y : α} {xs : List α} : atI (x :: y :: xs) 1 = some y := atI_nat (j := 1) rfl
theorem ix1 {K : PySem.W.Frag} {σ : L2.St} {H : Hp} {b : Addr} {x y : V} {xs : List V} {Q : VK} (h : SqT K H b (x :: y :: xs)) (q : Q y H) : tC (.int 1) σ H (fun z H2 => rIxT K (.ref b) z H2 Q) := ⟨b, _, 1, y, rfl, rfl, h, at_one, q⟩
theorem op_catAk {X : Cx} {K : PySem.W.Frag} (hk : X.K = K) : OpR X (binaryOp .Add) (rCatA K) := by
  subst hk
  exact op_catA
theorem catA {K : PySem.W.Frag} {H : Hp} {a b : Addr} {xs ys : List V} {Q : VK} (ha : SqT K H a xs) (hb : SqT K H b ys) (hl : xs.length + ys.length ≤ sizeLine) (q : ∀ H' p, Same H H' → SqT K H' p (xs ++ ys) → Q (.ref p) H') : rCatA K (.ref a) (.ref b) H Q :=
  ⟨a, b, xs, ys, rfl, rfl, ha, hb, hl, fun e => q H b (Same.refl _) (by rw [e]; exact hb), fun _ e => q H a (Same.refl _) (by rw [e, List.append_nil]; exact ha), fun _ _ p hp => q _ p (same_upd hp) (SqT.of upd_same)⟩
/-- an if whose else is shown once -/
theorem ifS_by {c : TT} {t u : TS} {D : Ends} {σ : L2.St} {H : Hp} (he : ∀ H', Same H H' → u D σ H') (hc : (∀ H', Same H H' → u D σ H') → c σ H (fun b H1 => if b = true then t D σ H1 else u D σ H1)) : tIfS c t u D σ H := hc he
theorem ix0L {K : PySem.W.Frag} {σ : L2.St} {H : Hp} {b : Addr} {x : V} {xs : List V} {Q : VK} (h : H b = some (.lst (x :: xs))) (q : Q x H) : tC (.int 0) σ H (fun y H2 => rIxL K (.ref b) y H2 Q) := ⟨b, _, 0, x, rfl, rfl, SqL.of h, at_nil, q⟩
theorem four_sz : 4 ≤ sizeLine := by decide
theorem by_q {t : TE} {σ : L2.St} {H : Hp} {Q : VK} (C : V → Hp → Prop) (h : ∀ Qx : VK, (∀ v H', C v H' → Qx v H') → t σ H Qx) (hq : ∀ v H', C v H' → Q v H') : t σ H Q := h Q hq
theorem Paired.get {α β : Type} {R : α → β → Prop} : ∀ {l : List α} {l' : List β} {i : Nat} {x : α}, Paired R l l' → l[i]? = some x → ∃ y, l'[i]? = some y ∧ R x y
  | _, _, _, _, .nil, e => by simp at e
  | _, _, 0, _, .cons h _, e => by
    cases e
    exact ⟨_, rfl, h⟩
  | _, _, i + 1, _, .cons _ t, e => Paired.get (i := i) t (by simpa using e)
end XB
set_option Elab.async false
set_option linter.all false
set_option maxRecDepth 100000
set_option maxHeartbeats 4000000
/-! of which kind a value is, by its data -/
namespace XB
open PySem PySem.Spec PyProof.Rows L2
def tyD : PyData → String
  | .none => "NoneType"
  | .bool _ => "bool"
  | .int _ => "int"
  | .str _ => "str"
  | .list _ => "list"
  | .tuple _ => "tuple"
  | .dict _ => "dict"
theorem tyx_lst {K : PySem.W.Frag} {H : Hp} {a : Addr} {xs : List V} (h : SqL K H a xs) : TyX K H (.ref a) (.type "list") := by
  rcases h with (h | ⟨o, h⟩) | ⟨o, its, n, hk, hc, _⟩
  · exact .base (.lst h)
  · exact .base (.frz h)
  · exact .kList hk hc
theorem tyx_data {K : PySem.W.Frag} {H : Hp} {v : V} {d : PyData} (h : Dp K H v d) : TyX K H v (.type (tyD d)) := by
  cases h with
  | non => exact .base .non
  | bl b => exact .base (.bl b)
  | int i => exact .base (.int i)
  | str s => exact .base (.str s)
  | lst h1 _ => exact tyx_lst h1
  | tup h1 _ => exact tyx_tup h1
/-- isinstance by data -/
def isD (T : String) : PyData → Bool
  | .bool _ => T == "bool" || T == "int"
  | d => T == tyD d
theorem kit_data {K : PySem.W.Frag} {H : Hp} {v : V} {d : PyData} {T : String} (hT : T = "tuple" ∨ T = "list" ∨ T = "str" ∨ T = "int" ∨ T = "bool") (h : Dp K H v d) : PySem.W.kitOne K (.type (tyD d)) (.type T) = some (isD T d) := by
  refine kit_ty ?_
  rcases hT with rfl | rfl | rfl | rfl | rfl <;> cases h <;> first | decide +kernel | rfl
end XB
set_option Elab.async false
set_option linter.all false
set_option maxRecDepth 100000
set_option maxHeartbeats 4000000
namespace XB
open PySem PySem.Spec PyProof.Rows L2
/-! what the program takes for a whole number, a pair, a step: of any data -/
def wholeD : PyData → Bool
  | .int _ => true
  | _ => false
def pairD : PyData → Bool
  | .tuple [_, _] => true
  | _ => false
def timesD : PyData → Bool
  | .int t => decide (t ≠ 0) && decide ((if t < 0 then -t else t) ≤ 10 ^ 30)
  | _ => false
def greatD (ns : List Str) : PyData → Bool
  | .tuple [.str n, .int t] => ns.contains n && decide (t ≠ 0)
  | _ => false
def stepD (ns : List Str) : PyData → Bool
  | .tuple [.str n, .int t] => ns.contains n && timesD (.int t)
  | _ => false
theorem any_strs (ns : List Str) (d : PyData) : ((ns.map PyData.str).any fun z => PyData.eqv z d) = match d with
    | .str n => ns.contains n
    | _ => false := by
  induction ns with
  | nil => cases d <;> rfl
  | cons a ns ih =>
    rw [List.map_cons, List.any_cons, ih]
    cases d with
    | str n =>
      show ((a == n) || ns.contains n) = (a :: ns).contains n
      rw [List.contains_cons]
      congr 1
      rw [Bool.eq_iff_iff, beq_iff_eq, beq_iff_eq]
      exact ⟨fun h => h.symm, fun h => h.symm⟩
    | _ => rfl
theorem shaped_two {x y : PyData} (h : SeqAt.shaped (.tuple [x, y]) = true) : SeqAt.shaped x = true ∧ SeqAt.shaped y = true := by
  have h : (PyData.canLay0 (.tuple [x, y]) && decide (PyData.depth (.tuple [x, y]) ≤ 64)) = true := h
  rw [Bool.and_eq_true, decide_eq_true_eq] at h
  obtain ⟨h1, h2⟩ := h
  have h1 : (PyData.canLay0 x && (PyData.canLay0 y && true)) = true := h1
  rw [Bool.and_true, Bool.and_eq_true] at h1
  rw [PyData.depth, PyData.depthAll, PyData.depthAll, PyData.depthAll] at h2
  refine ⟨?_, ?_⟩
  · show (PyData.canLay0 x && decide (PyData.depth x ≤ 64)) = true
    rw [h1.1, Bool.true_and]
    exact decide_eq_true (by omega)
  · show (PyData.canLay0 y && decide (PyData.depth y ≤ 64)) = true
    rw [h1.2, Bool.true_and]
    exact decide_eq_true (by omega)
section
variable {P : Program} {w : World} {K : PySem.W.Frag} {mg : Str → Option Value} {base : Heap}
def spWholeD (K : PySem.W.Frag) : Sp := fun vs H Q _ => ∃ (v : V) (d : PyData), vs = [v] ∧ Dp K H v d ∧ Q (.bl (wholeD d)) H
theorem c_is_wholeD (T : Tx K mg) : Cl P w K mg base CX0 1 "is_whole" (spWholeD K) := by
  refine cl0 T.d_is_whole (ps := ["value"]) (fun _ _ _ _ _ _ us hl => match us, hl with | [_], _ => rfl) sc_is_whole (fun vs H Q E h => ?_) (fun f cdv A outer st H vs Q E hr h => ?_)
  · obtain ⟨v, d, rfl, _⟩ := h
    rfl
  · obtain ⟨v, d, rfl, hd, q⟩ := h
    have nd := sc_is_whole.nd
    refine ⟨_, (pss_one (ps_ret (pe_and (pe_isT "int" (by rfl) T.b_isinstance (by rfl) T.b_int (by decide +kernel) (pv 0)) (pe_one (pe_not (pe_isT "bool" (by rfl) T.b_isinstance (by rfl) T.b_bool (by decide +kernel) (pv 0))))))), ?_⟩
    refine ⟨_, rfl, v, .ty "int", _, _, _, rfl, .ty _, tyx_data hd, kit_data (.inr (.inr (.inr (.inl rfl)))) hd, _, rfl, ?_⟩
    by_cases h1 : isD "int" d = true
    · rw [if_pos h1]
      refine ⟨_, rfl, v, .ty "bool", _, _, _, rfl, .ty _, tyx_data hd, kit_data (.inr (.inr (.inr (.inr rfl)))) hd, _, rfl, ?_⟩
      have e : (!isD "bool" d) = wholeD d := by
        cases d <;> first | rfl | (exfalso; simp [isD, tyD] at h1)
      rw [e]
      exact q
    · rw [if_neg h1]
      have e : wholeD d = false := by
        cases d <;> first | rfl | exact absurd rfl h1
      rw [e] at q
      exact q
def spPairD (K : PySem.W.Frag) : Sp := fun vs H Q _ => ∃ (v : V) (d : PyData), vs = [v] ∧ Dp K H v d ∧ Q (.bl (pairD d)) H
theorem c_is_pairD (T : Tx K mg) : Cl P w K mg base CX0 1 "is_pair" (spPairD K) := by
  refine cl0 T.d_is_pair (ps := ["value"]) (fun _ _ _ _ _ _ us hl => match us, hl with | [_], _ => rfl) sc_is_pair (fun vs H Q E h => ?_) (fun f cdv A outer st H vs Q E hr h => ?_)
  · obtain ⟨v, d, rfl, _⟩ := h
    rfl
  · obtain ⟨v, d, rfl, hd, q⟩ := h
    have nd := sc_is_pair.nd
    refine ⟨_, (pss_one (ps_ret (pe_and (pe_isT "tuple" (by rfl) T.b_isinstance (by rfl) T.b_tuple (by decide +kernel) (pv 0)) (pe_one (pe_cmpR op_eq (pe_lenS (by rfl) T.b_len (pv 0)) pe_int (nomark _)))))), ?_⟩
    refine ⟨_, rfl, v, .ty "tuple", _, _, _, rfl, .ty _, tyx_data hd, kit_data (.inl rfl) hd, _, rfl, ?_⟩
    by_cases h1 : isD "tuple" d = true
    · rw [if_pos h1]
      cases d with
      | tuple ds =>
        cases hd with
        | tup hS hV =>
          have hl := hV.len
          refine ⟨_, rfl, _, _, rfl, .inr hS, rfl, ?_⟩
          have e : ∀ n : Nat, decide (V.int (n : Int) = V.int 2) = decide (n = 2) := fun n => decide_eq_decide.mpr ⟨fun h => by injection h with h; omega, fun h => by rw [h]; rfl⟩
          rw [e, hl]
          have e2 : decide (ds.length = 2) = pairD (.tuple ds) := by
            match ds with
            | [] => rfl
            | [_] => rfl
            | [_, _] => rfl
            | _ :: _ :: _ :: r => exact decide_eq_false (by simp)
          rw [e2]
          exact q
      | _ => exact absurd h1 (by simp [isD, tyD])
    · rw [if_neg h1]
      have e : pairD d = false := by
        cases d <;> first | rfl | exact absurd rfl h1
      rw [e] at q
      exact q
def spTimesD (K : PySem.W.Frag) : Sp := fun vs H Q _ => ∃ (v : V) (d : PyData), vs = [v] ∧ Dp K H v d ∧ Q (.bl (timesD d)) H
theorem c_is_timesD (T : Tx K mg) : Cl P w K mg base CX0 2 "is_times" (spTimesD K) := by
  refine cl0 T.d_is_times (ps := ["value"]) (fun _ _ _ _ _ _ us hl => match us, hl with | [_], _ => rfl) sc_is_times (fun vs H Q E h => ?_) (fun f cdv A outer st H vs Q E hr h => ?_)
  · obtain ⟨v, d, rfl, _⟩ := h
    rfl
  · obtain ⟨v, d, rfl, hd, q⟩ := h
    have nd := sc_is_times.nd
    obtain ⟨tk, h_MOST_TIMES⟩ := T.g_MOST_TIMES
    refine ⟨_, (pss_one (ps_ret (pe_and (pe_k (c_is_wholeD T) hr (by decide) (by rfl) (pa_cons (pv 0) pa_nil)) (pe_and (pe_cmpR op_ne (pv 0) pe_int (nomark _)) (pe_one (pe_cmpR op_le (pe_callB call_abs (by rfl) T.b_abs (by decide +kernel) (pa_cons (pv 0) pa_nil)) (pe_glob (v := .int (10 ^ 30)) (by rfl) h_MOST_TIMES ⟨_, rfl⟩) (nomark _))))))), ?_⟩
    refine ⟨_, rfl, v, d, rfl, hd, _, rfl, ?_⟩
    cases d with
    | int t =>
      cases hd
      refine iteT ⟨_, rfl, rfl, _, rfl, ?_⟩
      rw [dec_int]
      by_cases h0 : t = 0
      · subst h0
        exact q
      · have e0 : (!(t == 0)) = true := by simp [h0]
        rw [e0]
        refine iteT ⟨_, rfl, _, rfl, _, _, rfl, rfl, ?_⟩
        have e : timesD (.int t) = decide ((if t < 0 then -t else t) ≤ 10 ^ 30) := by
          show (decide (t ≠ 0) && _) = _
          rw [decide_eq_true h0, Bool.true_and]
        rw [e] at q
        exact q
    | _ => exact iteF q
def spGreatD (K : PySem.W.Frag) : Sp := fun vs H Q _ => ∃ (n : Addr) (v : V) (ns : List Str) (d : PyData), vs = [.ref n, v] ∧ SqT K H n (ns.map V.str) ∧ SeqAt.shaped (.tuple (ns.map PyData.str)) = true ∧ Dp K H v d ∧ SeqAt.shaped d = true ∧ Q (.bl (greatD ns d)) H
theorem c_is_great_stepD (T : Tx K mg) : Cl P w K mg base CX0 2 "is_great_step" (spGreatD K) := by
  refine cl0 T.d_is_great_step (ps := ["names", "value"]) (fun _ _ _ _ _ _ us hl => match us, hl with | [_, _], _ => rfl) sc_is_great_step (fun vs H Q E h => ?_) (fun f cdv A outer st H vs Q E hr h => ?_)
  · obtain ⟨n, v, ns, d, rfl, _⟩ := h
    rfl
  · obtain ⟨n, v, ns, d, rfl, hN, sN, hd, sd, q⟩ := h
    have nd := sc_is_great_step.nd
    have hu := u65 hr
    refine ⟨_, (pss_cons (ps_if (pt_not (pt_val (pe_k (c_is_pairD T) hr (by decide) (by rfl) (pa_cons (pv 1) pa_nil)))) (pss_one (ps_ret pe_bl)) pss_nil)
    (pss_cons (ps_asg (pv 1) (pg_tup rfl (pgs_cons (pg_name (i := 2) nd rfl (.inl rfl)) (pgs_cons (pg_name (i := 3) nd rfl (.inl rfl)) pgs_nil))))
    (pss_one (ps_ret (pe_and (pe_cmpR (op_inDTk (K := K) rfl hu) (pv 2) (pv 0) (by rfl)) (pe_and (pe_k (c_is_wholeD T) hr (by decide) (by rfl) (pa_cons (pv 3) pa_nil)) (pe_one (pe_cmpR op_ne (pv 3) pe_int (nomark _))))))))), ?_⟩
    refine ⟨_, rfl, v, d, rfl, hd, _, rfl, ?_⟩
    by_cases hp : pairD d = true
    · rw [hp]
      obtain ⟨x, y, rfl⟩ : ∃ x y, d = .tuple [x, y] := by
        match d, hp with
        | .tuple [x, y], _ => exact ⟨x, y, rfl⟩
      obtain ⟨sx, sy⟩ := shaped_two sd
      cases hd with
      | tup hS hV =>
      cases hV with
      | cons hx hV =>
      cases hV with
      | cons hy hV =>
      cases hV
      refine iteF ⟨_, rfl, _, _, rfl, hS, rfl, _, _, rfl, _, _, rfl, rfl, ?_⟩
      refine ⟨_, rfl, _, rfl, x, _, hx, .tup hN (DpAll.strs ns), sx, sN, _, rfl, ?_⟩
      rw [any_strs]
      cases x with
      | str n =>
        by_cases hn : ns.contains n = true
        · show if ns.contains n = true then _ else _
          rw [if_pos hn]
          refine ⟨_, rfl, _, y, rfl, hy, _, rfl, ?_⟩
          cases y with
          | int t =>
            cases hy
            refine iteT ⟨_, rfl, rfl, ?_⟩
            rw [dec_int]
            have e : greatD ns (.tuple [.str n, .int t]) = !(t == 0) := by
              show (ns.contains n && decide (t ≠ 0)) = _
              rw [hn, Bool.true_and]
              by_cases h0 : t = 0 <;> simp [h0]
            rw [e] at q
            exact q
          | _ => exact iteF q
        · show if ns.contains n = true then _ else _
          rw [if_neg hn]
          have e : greatD ns (.tuple [.str n, y]) = false := by
            cases y with
            | int t =>
              show (ns.contains n && decide (t ≠ 0)) = _
              rw [Bool.eq_false_iff.mpr hn]
              rfl
            | _ => rfl
          rw [e] at q
          exact q
      | _ => exact iteF q
    · rw [Bool.eq_false_iff.mpr hp]
      have e : greatD ns d = false := by
        match d, hp with
        | .none, _ => rfl
        | .bool _, _ => rfl
        | .int _, _ => rfl
        | .str _, _ => rfl
        | .list _, _ => rfl
        | .dict _, _ => rfl
        | .tuple [], _ => rfl
        | .tuple [x], _ => cases x <;> rfl
        | .tuple [_, _], h => exact absurd rfl h
        | .tuple (x :: y :: _ :: _), _ => cases x <;> first | rfl | (cases y <;> rfl)
      rw [e] at q
      exact iteT q
def spStepD (K : PySem.W.Frag) : Sp := fun vs H Q _ => ∃ (n : Addr) (v : V) (ns : List Str) (d : PyData), vs = [.ref n, v] ∧ SqT K H n (ns.map V.str) ∧ SeqAt.shaped (.tuple (ns.map PyData.str)) = true ∧ Dp K H v d ∧ SeqAt.shaped d = true ∧ Q (.bl (stepD ns d)) H
theorem c_is_stepD (T : Tx K mg) : Cl P w K mg base CX0 3 "is_step" (spStepD K) := by
  refine cl0 T.d_is_step (ps := ["names", "value"]) (fun _ _ _ _ _ _ us hl => match us, hl with | [_, _], _ => rfl) sc_is_step (fun vs H Q E h => ?_) (fun f cdv A outer st H vs Q E hr h => ?_)
  · obtain ⟨n, v, ns, d, rfl, _⟩ := h
    rfl
  · obtain ⟨n, v, ns, d, rfl, hN, sN, hd, sd, q⟩ := h
    have nd := sc_is_step.nd
    refine ⟨_, (pss_one (ps_ret (pe_and (pe_k (c_is_great_stepD T) hr (by decide) (by rfl) (pa_cons (pv 0) (pa_cons (pv 1) pa_nil))) (pe_one (pe_k (c_is_timesD T) hr (by decide) (by rfl) (pa_cons (pe_ix (ixk_tup (K := K) rfl) (pv 1) pe_int (fun _ _ => rfl)) pa_nil)))))), ?_⟩
    refine ⟨_, rfl, _, rfl, n, v, ns, d, rfl, hN, sN, hd, sd, _, rfl, ?_⟩
    by_cases hg : greatD ns d = true
    · rw [if_pos hg]
      obtain ⟨x, t, rfl⟩ : ∃ x t, d = .tuple [.str x, .int t] := by
        match d, hg with
        | .tuple [.str x, .int t], _ => exact ⟨x, t, rfl⟩
      cases hd with
      | tup hS hV =>
      cases hV with
      | cons hx hV =>
      cases hV with
      | cons hy hV =>
      cases hV
      refine ⟨_, rfl, ix1 hS ⟨_, .int t, rfl, hy, ?_⟩⟩
      have hg : (ns.contains x && decide (t ≠ 0)) = true := hg
      rw [Bool.and_eq_true] at hg
      have e : stepD ns (.tuple [.str x, .int t]) = timesD (.int t) := by
        show (ns.contains x && timesD (.int t)) = _
        rw [hg.1, Bool.true_and]
      rw [e] at q
      exact q
    · rw [if_neg hg]
      have e : stepD ns d = false := by
        match d, hg with
        | .tuple [.str x, .int t], h =>
          have h : ¬ (ns.contains x && decide (t ≠ 0)) = true := h
          show (ns.contains x && (decide (t ≠ 0) && _)) = false
          rw [← Bool.and_assoc, Bool.eq_false_iff.mpr h]
          rfl
        | .none, _ => rfl
        | .bool _, _ => rfl
        | .int _, _ => rfl
        | .str _, _ => rfl
        | .list _, _ => rfl
        | .dict _, _ => rfl
        | .tuple [], _ => rfl
        | .tuple [x], _ => cases x <;> rfl
        | .tuple (x :: y :: _ :: _), _ => cases x <;> first | rfl | (cases y <;> rfl)
        | .tuple [.none, _], _ => rfl
        | .tuple [.bool _, _], _ => rfl
        | .tuple [.int _, _], _ => rfl
        | .tuple [.list _, _], _ => rfl
        | .tuple [.dict _, _], _ => rfl
        | .tuple [.tuple _, _], _ => rfl
        | .tuple [.str _, .none], _ => rfl
        | .tuple [.str _, .bool _], _ => rfl
        | .tuple [.str _, .str _], _ => rfl
        | .tuple [.str _, .list _], _ => rfl
        | .tuple [.str _, .dict _], _ => rfl
        | .tuple [.str _, .tuple _], _ => rfl
      rw [e] at q
      exact q
end
end XB
set_option Elab.async false
set_option linter.all false
set_option maxRecDepth 100000
set_option maxHeartbeats 4000000
namespace XB
open PySem PySem.Spec PyProof.Rows L2
theorem take_snoc {α : Type} {l : List α} {k : Nat} {s : α} (h : l[k]? = some s) : l.take (k + 1) = l.take k ++ [s] := by
  rw [List.take_add_one, h]
  rfl
theorem drop_at {α : Type} {l : List α} {k : Nat} {s : α} (h : l[k]? = some s) : l.drop k = s :: l.drop (k + 1) := by
  obtain ⟨h1, rfl⟩ := List.getElem?_eq_some_iff.mp h
  exact List.drop_eq_getElem_cons h1
section
variable {P : Program} {w : World} {K : PySem.W.Frag} {mg : Str → Option Value} {base : Heap}
def spLastTouched (K : PySem.W.Frag) : Sp := fun vs H Q _ => ∃ (a l : Addr) (ns : List Str) (xs : List V) (row : List (Str × Int)), vs = [.ref a, .ref l] ∧ SqT K H a (ns.map V.str) ∧ SqX K H l xs ∧ DpAll K H xs (row.map dStep) ∧ Q (.int (XM.lastIx (fun b => ns.contains b) row.reverse)) H
def spPlaceBehind (K : PySem.W.Frag) (F : Fld) : Sp := fun vs H Q _ => ∃ (l : Addr) (z : Int) (i : Nat) (nm : Str) (xs : List V) (row : List (Str × Int)), vs = [.ref l, .int z, .str nm] ∧ z + 1 = (i : Int) ∧ i ≤ row.length ∧ SqX K H l xs ∧ DpAll K H xs (row.map dStep) ∧ Q (.int ((i + XM.lead (OF F) nm (row.drop i) : Nat) : Int)) H
end
end XB
set_option Elab.async false
set_option linter.all false
set_option maxRecDepth 100000
set_option maxHeartbeats 4000000
namespace XB
open PySem PySem.Spec PyProof.Rows L2
theorem DpAll.set1 {K : PySem.W.Frag} {H : Hp} {v : V} {d : PyData} (hv : Dp K H v d) : ∀ {vs : List V} {ds : List PyData} (i : Nat), DpAll K H vs ds → DpAll K H (vs.set i v) (ds.set i d)
  | _, _, _, .nil => .nil
  | _, _, 0, .cons _ t => .cons hv t
  | _, _, i + 1, .cons h t => .cons h (DpAll.set1 hv i t)
theorem DpAll.er {K : PySem.W.Frag} {H : Hp} : ∀ {vs : List V} {ds : List PyData} (i : Nat), DpAll K H vs ds → DpAll K H (vs.eraseIdx i) (ds.eraseIdx i)
  | _, _, _, .nil => .nil
  | _, _, 0, .cons _ t => t
  | _, _, i + 1, .cons h t => .cons h (DpAll.er i t)
theorem map_er {α β : Type} (f : α → β) : ∀ (l : List α) (i : Nat), (l.eraseIdx i).map f = (l.map f).eraseIdx i
  | [], _ => rfl
  | _ :: _, 0 => rfl
  | x :: l, i + 1 => by
    show f x :: (l.eraseIdx i).map f = f x :: (l.map f).eraseIdx i
    rw [map_er f l i]
/-- a list of steps put in at a place -/
theorem DpAll.inI {K : PySem.W.Frag} {H : Hp} {vs : List V} {row : List (Str × Int)} {v : V} {s : Str × Int} (hv : Dp K H v (dStep s)) (i : Nat) (h : DpAll K H vs (row.map dStep)) :
    DpAll K H (vs.take i ++ [v] ++ vs.drop i) ((row.take i ++ s :: row.drop i).map dStep) := by
  rw [List.append_assoc, List.map_append, List.map_cons, List.map_take, List.map_drop]
  exact (h.take i).app (.cons hv (h.drop i))
section
variable {P : Program} {w : World} {K : PySem.W.Frag} {mg : Str → Option Value} {base : Heap}
/-- the row as the program changes it stands in a list of its own -/
def Row1 (K : PySem.W.Frag) (H : Hp) (D : Addr) (row : List (Str × Int)) : Prop := ∃ xs, H D = some (.lst xs) ∧ DpAll K H xs (row.map dStep)
theorem Row1.put {K : PySem.W.Frag} {H : Hp} {D : Addr} {xs ys : List V} {row : List (Str × Int)} (e : H D = some (.lst xs)) (h : DpAll K H ys (row.map dStep)) : Row1 K (upd H D (.lst ys)) D row :=
  ⟨ys, upd_same, DpAll.tk (Tk.refl.lst e) _ (flat_all_steps row) h⟩
theorem TouchAt.lst {K : PySem.W.Frag} {H : Hp} {t D : Addr} {F : Fld} {xs ys : List V} (h : TouchAt K H t F) (e : H D = some (.lst xs)) : TouchAt K (upd H D (.lst ys)) t F := by
  obtain ⟨kvs, e1, g⟩ := h
  have k : Tk H (upd H D (.lst ys)) := Tk.refl.lst e
  refine ⟨kvs, by rw [upd_ne (ne_of e1 e (fun q => nomatch q))]; exact e1, fun n hn => ?_⟩
  obtain ⟨a, e1, e2⟩ := g n hn
  exact ⟨a, e1, k.sqT e2⟩
theorem lastIx_congr {p q : Str → Bool} : ∀ {r : List (Str × Int)}, (∀ y ∈ r, p y.1 = q y.1) → XM.lastIx p r = XM.lastIx q r
  | [], _ => rfl
  | y :: r, h => by
    have ih := lastIx_congr (p := p) (q := q) (r := r) fun z hz => h z (List.mem_cons_of_mem _ hz)
    have hy := h y List.mem_cons_self
    unfold XM.lastIx
    rw [hy, ih]
def Names (F : Fld) (l : List (Str × Int)) : Prop := ∀ s ∈ l, s.1 ∈ F.names
theorem names_ins {F : Fld} {x : Str × Int} (hx : x.1 ∈ F.names) : ∀ {r : List (Str × Int)}, Names F r → Names F (XM.ins (OF F) x r)
  | [], _ => fun s hs => by
    have hs : s ∈ [x] := hs
    rw [List.mem_singleton.mp hs]
    exact hx
  | y :: r, h => by
    have ih := names_ins hx (r := r) fun z hz => h z (List.mem_cons_of_mem _ hz)
    have hy := h y List.mem_cons_self
    have h0 : Names F r := fun z hz => h z (List.mem_cons_of_mem _ hz)
    have c : ∀ {a : Str × Int} {l : List (Str × Int)}, a.1 ∈ F.names → Names F l → Names F (a :: l) := fun {a l} ha hl s hs => by
      rcases List.mem_cons.mp hs with rfl | hs
      · exact ha
      · exact hl s hs
    unfold XM.ins
    by_cases e1 : y.1 = x.1
    · rw [if_pos e1]
      by_cases e2 : y.2 + x.2 = 0
      · rw [if_pos e2]
        exact h0
      · rw [if_neg e2]
        exact c hx h0
    · rw [if_neg e1]
      by_cases e2 : (OF F).tc y.1 x.1 = true
      · rw [if_pos e2]
        exact c hx h
      · rw [if_neg e2]
        by_cases e3 : ((OF F).lt y.1 x.1 && XM.top (OF F) x.1 r) = true
        · rw [if_pos e3]
          exact c hx h
        · rw [if_neg e3]
          exact c hy ih
theorem names_act {F : Fld} : ∀ {l r : List (Str × Int)}, Names F l → Names F r → Names F (XM.act (OF F) l r)
  | [], _, _, h => h
  | x :: l, r, hl, h => by
    rw [XM.act_cons]
    exact names_act (fun z hz => hl z (List.mem_cons_of_mem _ hz)) (names_ins (hl x List.mem_cons_self) h)
def spPiled (K : PySem.W.Frag) (F : Fld) : Sp := fun vs H Q _ => ∃ (t d : Addr) (xs : List V) (steps : List (Str × Int)), vs = [.ref t, .ref d] ∧ TouchAt K H t F ∧ F.Ok ∧ SqT K H d xs ∧ DpAll K H xs (steps.map dStep) ∧ steps.length ≤ 500 ∧ Names F steps ∧
  ∀ H' r, Same H H' → Dp K H' (.ref r) (dSteps (XM.act (OF F) steps []).reverse) → Q (.ref r) H'
end
end XB
set_option Elab.async false
set_option linter.all false
set_option maxRecDepth 100000
set_option maxHeartbeats 4000000
namespace XB
open PySem PySem.Spec PyProof.Rows L2
section
variable {P : Program} {w : World} {K : PySem.W.Frag} {mg : Str → Option Value} {base : Heap}
theorem GoodScript.names {F : Fld} {l : List (Str × Int)} (g : GoodScript F l) : Names F l := fun s hs => (g.2 s hs).1
theorem GoodScript.nz {F : Fld} {l : List (Str × Int)} (g : GoodScript F l) : XM.NZ l := fun s hs => (g.2 s hs).2.1
/-- a field and a script -/
def FS (K : PySem.W.Frag) (F : Fld) (l : List (Str × Int)) (vs : List V) (H : Hp) : Prop := ∃ (a d : Addr), vs = [.ref a, .ref d] ∧ Dp K H (.ref a) (dField F) ∧ F.Ok ∧ Dp K H (.ref d) (dSteps l) ∧ GoodScript F l
def spLeastPile (K : PySem.W.Frag) (F : Fld) : Sp := fun vs H Q _ => ∃ l, FS K F l vs H ∧ ∀ H' r, Same H H' → Dp K H' (.ref r) (dSteps (XM.act (OF F) l []).reverse) → Q (.ref r) H'
def lenOf (l : List (Str × Int)) : Int := (l.map fun s => if s.2 < 0 then -s.2 else s.2).sum
def spLengthOf (K : PySem.W.Frag) : Sp := fun vs H Q _ => ∃ (a : Addr) (xs : List V) (l : List (Str × Int)), vs = [.ref a] ∧ SqT K H a xs ∧ DpAll K H xs (l.map dStep) ∧ l.length ≤ 500 ∧ ∀ H', Same H H' → Q (.int (lenOf l)) H'
theorem act_len0 {F : Fld} {l : List (Str × Int)} : (XM.act (OF F) l []).length ≤ l.length := by
  have := XM.act_len (O := OF F) (l := l) (r := [])
  rw [List.length_nil] at this
  omega
def spLength (K : PySem.W.Frag) (F : Fld) : Sp := fun vs H Q _ => ∃ l, FS K F l vs H ∧ ∀ H', Same H H' → Q (.int (lenOf (XM.act (OF F) l []).reverse)) H'
def spIsPile (K : PySem.W.Frag) (F : Fld) : Sp := fun vs H Q _ => ∃ l, FS K F l vs H ∧ ∀ H', Same H H' → Q (.bl (decide ((XM.act (OF F) l []).length = l.length))) H'
def spBack (K : PySem.W.Frag) : Sp := fun vs H Q _ => ∃ (a : Addr) (l : List (Str × Int)), vs = [.ref a] ∧ Dp K H (.ref a) (dSteps l) ∧ l.length ≤ 500 ∧ ∀ H' r, Same H H' → Dp K H' (.ref r) (dSteps (XM.back l)) → Q (.ref r) H'
theorem names_back {F : Fld} {l : List (Str × Int)} (h : Names F l) : Names F (XM.back l) := fun s hs => by
  unfold XM.back at hs
  obtain ⟨x, hx, rfl⟩ := List.mem_map.mp (List.mem_reverse.mp hs)
  exact h x hx
def spTakenBack (K : PySem.W.Frag) (F : Fld) : Sp := fun vs H Q _ => ∃ l, FS K F l vs H ∧ ∀ H' r, Same H H' → Dp K H' (.ref r) (dSteps (XM.act (OF F) (XM.back l) []).reverse) → Q (.ref r) H'
end
end XB
set_option Elab.async false
set_option linter.all false
set_option maxRecDepth 100000
set_option maxHeartbeats 4000000
namespace XM
theorem frs_snoc {α : Type} [DecidableEq α] {O : Ord α} {x : α × Int} : ∀ {l bar : Row α}, frs O bar (l ++ [x]) = frs O bar l ++ (if (bar ++ l).all (fun w => !O.tc w.1 x.1) then [x.1] else [])
  | [], bar => by
    show (if _ then _ else _) = _
    rw [List.append_nil]
    cases bar.all (fun w => !O.tc w.1 x.1) <;> rfl
  | y :: l, bar => by
    have ih := frs_snoc (O := O) (x := x) (l := l) (bar := bar ++ [y])
    rw [List.append_assoc, List.singleton_append] at ih
    show (if _ then y.1 :: frs O (bar ++ [y]) (l ++ [x]) else frs O (bar ++ [y]) (l ++ [x])) = (if _ then _ else _) ++ _
    rw [ih]
    cases bar.all (fun w => !O.tc w.1 y.1) <;> rfl
end XM
namespace XB
open PySem PySem.Spec PyProof.Rows L2
section
variable {P : Program} {w : World} {K : PySem.W.Frag} {mg : Str → Option Value} {base : Heap}
def SrtOf (ns zs : List Str) : Prop := zs.Perm ns ∧ sortedS zs = true
theorem frs_len {F : Fld} : ∀ {l bar : List (Str × Int)}, (XM.frs (OF F) bar l).length ≤ l.length
  | [], _ => Nat.le_refl _
  | x :: l, bar => by
    have ih := frs_len (F := F) (l := l) (bar := bar ++ [x])
    unfold XM.frs
    split
    · rw [List.length_cons, List.length_cons]
      omega
    · rw [List.length_cons]
      omega
theorem barred_all {F : Fld} (ok : F.Ok) {n : Str} (hn : n ∈ F.names) (l : List (Str × Int)) : (!(l.any fun w => (touchL F w.1).contains n)) = l.all fun w => !(OF F).tc w.1 n := by
  induction l with
  | nil => rfl
  | cons y r ih =>
    rw [List.any_cons, List.all_cons, Bool.not_or, ih, mem_touch ok hn, (OF F).symm]
def Bars (H : Hp) (B : Addr) (f : Str → Bool) (m : Nat) : Prop := ∃ kvs : List (Key × V), H B = some (.dK kvs) ∧ kvs.length ≤ m ∧ ∀ n, (valV kvs (.inr n)).isSome = f n
def spFrontNames (K : PySem.W.Frag) (F : Fld) : Sp := fun vs H Q _ => ∃ (t d : Addr) (xs : List V) (l : List (Str × Int)), vs = [.ref t, .ref d] ∧ TouchAt K H t F ∧ F.Ok ∧ SqT K H d xs ∧ DpAll K H xs (l.map dStep) ∧ l.length ≤ 60 ∧ Names F l ∧
  ∀ H' r zs, Same H H' → SrtOf (XM.frs (OF F) [] l) zs → SqT K H' r (zs.map V.str) → Q (.ref r) H'
def spFronts (K : PySem.W.Frag) (F : Fld) : Sp := fun vs H Q _ => ∃ l, FS K F l vs H ∧ ∀ H' r zs, Same H H' → SrtOf (XM.frs (OF F) [] (XM.act (OF F) l []).reverse) zs → SqT K H' r (zs.map V.str) → Q (.ref r) H'
theorem names_rev {F : Fld} {l : List (Str × Int)} (h : Names F l) : Names F l.reverse := fun s hs => h s (List.mem_reverse.mp hs)
def spEnds (K : PySem.W.Frag) (F : Fld) : Sp := fun vs H Q _ => ∃ l, FS K F l vs H ∧ ∀ H' r zs, Same H H' → SrtOf (XM.frs (OF F) [] (XM.act (OF F) l [])) zs → SqT K H' r (zs.map V.str) → Q (.ref r) H'
end
end XB
set_option Elab.async false
set_option linter.all false
set_option maxRecDepth 100000
set_option maxHeartbeats 4000000
/-! rules of rows, lists or tuples -/
namespace XB
open PySem PySem.Spec PyProof.Rows L2
section
variable {P : Program} {w : World} {K : PySem.W.Frag} {mg : Str → Option Value} {base : Heap}
def spLawApart (K : PySem.W.Frag) : Sp := fun vs H Q _ => ∃ (a : Addr) (F : Fld) (x y : Str), vs = [.ref a, .str x, .str y] ∧ Dp K H (.ref a) (dField F) ∧ F.Ok ∧ x ∈ F.names ∧ y ∈ F.names ∧ ∀ H', Same H H' → Q (.bl (apart F x y)) H'
theorem c__law_apart (T : Tx K mg) : Cl P w K mg base CX0 1 "_law_apart" (spLawApart K) := by
  refine cl0 T.d__law_apart (ps := ["field", "one", "other"]) (fun _ _ _ _ _ _ us hl => match us, hl with | [_, _, _], _ => rfl) sc__law_apart (fun vs H Q E h => ?_) (fun f cdv A outer st H vs Q E hr h => ?_)
  · obtain ⟨a, F, x, y, rfl, _⟩ := h
    rfl
  · obtain ⟨a, F, x, y, rfl, hF, ok, mx, my, q⟩ := h
    have hu := u65 hr
    refine ⟨_, pss_one (ps_ret (pe_or (pe_cmpR (op_inDTk (K := K) rfl hu) (pe_tup (pa_cons (pv 1) (pa_cons (pv 2) pa_nil))) (pe_ix ix_tup (pv 0) pe_int (fun _ _ => rfl)) (by rfl))
      (pe_one (pe_cmpR (op_inDTk (K := K) rfl hu) (pe_tup (pa_cons (pv 2) (pa_cons (pv 1) pa_nil))) (pe_ix ix_tup (pv 0) pe_int (fun _ _ => rfl)) (by rfl))))), ?_⟩
    have go : ∀ (H1 : Hp) (u v : Str), Same H H1 → u ∈ F.names → v ∈ F.names → ∀ T1, H1 T1 = none → ∃ p n, SqT K (upd H1 T1 (.tup [.str u, .str v])) a [.ref n, .ref p] ∧ Dp K (upd H1 T1 (.tup [.str u, .str v])) (.ref p) (.tuple (F.pairs.map dPair)) ∧ Dp K (upd H1 T1 (.tup [.str u, .str v])) (.ref T1) (dPair (u, v)) := fun H1 u v s1 mu mv T1 h1 => by
      obtain ⟨_, n, p, ps, e, hA, hN, hP, hD⟩ := (Dp.tk (Tk.of (same_new (o := .tup [.str u, .str v]) s1 h1)) _ (flat_field F) hF).field
      cases e
      exact ⟨p, n, hA, .tup hP hD, .tup (SqT.of upd_same) (.cons (.str _) (.cons (.str _) .nil))⟩
    refine ⟨_, rfl, _, rfl, (show 2 ≤ sizeLine by decide), fun T1 h1 => ?_⟩
    obtain ⟨p, n, g1, g2, g3⟩ := go H x y (Same.refl _) mx my T1 h1
    refine ⟨_, rfl, a, _, 1, .ref p, rfl, rfl, g1, rfl, dPair (x, y), _, g3, g2, sh_pair (ok.sgn _ mx) (ok.sgn _ my), sh_pairs ok.good, _, rfl, ?_⟩
    rw [any_pairs]
    have q : ∀ H', Same H H' → Q (.bl (F.pairs.contains (x, y) || F.pairs.contains (y, x))) H' := q
    cases hc : F.pairs.contains (x, y)
    · rw [hc] at q
      refine iteF ?_
      have s1 := same_upd (o := .tup [.str x, .str y]) h1
      refine ⟨_, rfl, _, rfl, (show 2 ≤ sizeLine by decide), fun T2 h2 => ?_⟩
      obtain ⟨p, n, g1, g2, g3⟩ := go _ y x s1 my mx T2 h2
      refine ⟨_, rfl, a, _, 1, .ref p, rfl, rfl, g1, rfl, dPair (y, x), _, g3, g2, sh_pair (ok.sgn _ my) (ok.sgn _ mx), sh_pairs ok.good, ?_⟩
      rw [any_pairs]
      exact q _ (same_new s1 h2)
    · rw [hc] at q
      exact iteT (q _ (same_upd h1))
def spLawLength (K : PySem.W.Frag) : Sp := fun vs H Q _ => ∃ (a : Addr) (xs : List V) (l : List (Str × Int)), vs = [.ref a] ∧ SqT K H a xs ∧ DpAll K H xs (l.map dStep) ∧ l.length ≤ 500 ∧ ∀ H', Same H H' → Q (.int (lenOf l)) H'
end
end XB
set_option Elab.async false
set_option linter.all false
set_option maxRecDepth 100000
set_option maxHeartbeats 4000000
namespace XB
open PySem PySem.Spec PyProof.Rows L2
section
variable {P : Program} {w : World} {K : PySem.W.Frag} {mg : Str → Option Value} {base : Heap}
def spLawBack (K : PySem.W.Frag) : Sp := fun vs H Q _ => ∃ (a : Addr) (l : List (Str × Int)), vs = [.ref a] ∧ Dp K H (.ref a) (dSteps l) ∧ l.length ≤ 500 ∧ ∀ H' r, Same H H' → Dp K H' (.ref r) (dSteps (XM.back l)) → Q (.ref r) H'
/-- whether the step there can stand first -/
def free1 (F : Fld) (l : List (Str × Int)) (k : Nat) : Bool := match l[k]? with
  | some s => (l.take k).all fun y => !(OF F).tc y.1 s.1
  | none => false
def firstsL (F : Fld) (l : List (Str × Int)) (n : Nat) : List Nat := (List.range n).filter (free1 F l)
theorem firsts_snoc {F : Fld} {l : List (Str × Int)} {n : Nat} : firstsL F l (n + 1) = firstsL F l n ++ (if free1 F l n then [n] else []) := by
  unfold firstsL
  rw [List.range_succ, List.filter_append]
  congr 1
  cases h : free1 F l n <;> simp [h]
theorem firsts_len {F : Fld} {l : List (Str × Int)} {n : Nat} : (firstsL F l n).length ≤ n := by
  have := List.length_filter_le (free1 F l) (List.range n)
  rw [List.length_range] at this
  exact this
def spLawFirst (K : PySem.W.Frag) : Sp := fun vs H Q _ => ∃ (a p : Addr) (F : Fld) (xs : List V) (l : List (Str × Int)), vs = [.ref a, .ref p] ∧ Dp K H (.ref a) (dField F) ∧ F.Ok ∧ SqX K H p xs ∧ DpAll K H xs (l.map dStep) ∧ Names F l ∧ l.length ≤ 60 ∧
  ∀ H' r, Same H H' → H' r = some (.lst ((firstsL F l l.length).map fun k => V.int (k : Nat))) → H r = none → Q (.ref r) H'
theorem c__law_first (T : Tx K mg) : Cl P w K mg base CX0 2 "_law_first" (spLawFirst K) := by
  refine cl0 T.d__law_first (ps := ["field", "steps"]) (fun _ _ _ _ _ _ us hl => match us, hl with | [_, _], _ => rfl) sc__law_first (fun vs H Q E h => ?_) (fun f cdv A outer st H vs Q E hr h => ?_)
  · obtain ⟨a, p, F, xs, l, rfl, _⟩ := h
    rfl
  · obtain ⟨a, p, F, xs, l, rfl, hF, ok, hS, hD, hN, hl60, q⟩ := h
    have nd := sc__law_first.nd
    have hlx := hD.len
    rw [List.length_map] at hlx
    refine ⟨_, pss_cons (ps_set (i := 2) nd rfl (.inl rfl) (pe_lst pa_nil))
      (pss_cons (ps_for PassesOwn.never rfl (pi_range1 (by rfl) T.b_range (pa_cons (pe_lenS (by rfl) T.b_len (pv 1)) pa_nil)) (pg_name (i := 3) nd rfl (by first | exact .inl rfl | exact .inr rfl))
        (pss_one (ps_if (pt_cmpR (op_eqD hr.units) (pe_lc (own := [("step", 4)]) (g := gName 4) (tt := _) (by rfl) nd (pi_row (pe_slice (slk_row (K := K) rfl) (pv 1) po_none (po_some (pv 3))))
            (blkOk_by (own := [("step", 4)]) (N := ["field", "steps", "found", "k", "step"]) (sc := defScope s__law_first) (by decide +kernel)) (fun _ _ _ _ _ => pg_name (i := 4) nd rfl (Or.inl rfl))
            (fun _ _ _ _ _ => pts_one (pt_not (pt_val (pe_k (c__law_apart T) hr (by decide) (by rfl) (pa_cons (pv 0) (pa_cons (pe_ix (ixk_tup (K := K) rfl) (pv 4) pe_int (fun _ _ => rfl)) (pa_cons (pe_ix (ixk_tup (K := K) rfl) (pe_ix (ixk_row (K := K) rfl) (pv 1) (pv 3) (fun _ _ => rfl)) pe_int (fun _ _ => rfl)) pa_nil))))))) (fun _ _ _ _ _ => pe_int))
            (pe_lst pa_nil) (nomark _))
          (pss_one (ps_expr (pe_bm PySem.F.plainAttrs_list PySem.F.slot_list_append PySem.F.type_list_append mt_append (pv 2) (pa_cons (pv 3) pa_nil)))) pss_nil)))
      (pss_one (ps_ret (pv 2)))), ?_⟩
    refine ⟨by decide, fun D hD0 => ?_⟩
    refine ⟨_, rfl, p, xs, rfl, hS.same (same_upd hD0), xs.length, rfl, by omega, by omega, ?_⟩
    refine for_range (lo := 0) (n := xs.length) (fun k σ H2 => ∃ (y3 y4 : Option V), σ = [some (.ref a), some (.ref p), some (.ref D), y3, y4] ∧ Same H H2 ∧ H2 D = some (.lst ((firstsL F l k).map fun k => V.int (k : Nat))))
      ⟨none, none, rfl, same_upd hD0, upd_same⟩ (fun k σ H2 hk ⟨y3, y4, eσ, s2, eD⟩ => ?_) (fun σ H2 ⟨y3, y4, eσ, s2, eD⟩ => ?_)
    · subst eσ
      have hs : l[k]? = some l[k] := List.getElem?_eq_getElem (by omega)
      have ms := hN _ (List.mem_of_getElem? hs)
      generalize l[k] = s at hs ms
      obtain ⟨b, hb, cb⟩ := (DpAll.tk (Tk.of s2) _ (flat_all_steps l) hD).step hs
      rw [Int.zero_add]
      refine ⟨_, rfl, ?_⟩
      refine noPart ?_
      refine ⟨_, rfl, (k : Int), rfl, p, xs, rfl, hS.same s2, fun H3 r s3 hr3 => ?_⟩
      rw [cut_init] at hr3
      have hlk : (xs.take k).length = k := by
        rw [List.length_take]
        omega
      refine ⟨r, _, rfl, hr3, fun J G hG W => fun D2 hD2 => ?_⟩
      refine lc_it W (fun i H' => H' D2 = some (.lst ((List.replicate (((l.take k).take i).countP fun y => (OF F).tc y.1 s.1) (1 : Int)).map V.int)) ∧ Same H3 H') ⟨upd_same, same_upd hD2⟩ (fun _ _ _ ⟨_, s'⟩ => hG _ s') (fun i x H4 H5 hi ⟨eD2, s'⟩ hy => ?_) (fun H4 ⟨eD2, s'⟩ => ?_)
      · obtain ⟨rfl, hx⟩ := hy
        have hDk : DpAll K H (xs.take k) ((l.take k).map dStep) := by
          rw [List.map_take]
          exact hD.take k
        obtain ⟨dd, g1, p1⟩ := hDk.get hx
        rw [List.getElem?_map] at g1
        obtain ⟨y, k1, rfl⟩ := Option.map_eq_some_iff.mp g1
        obtain ⟨c, rfl, cc⟩ := p1.step
        have my : y.1 ∈ F.names := hN _ (List.mem_of_mem_take (List.mem_of_getElem? k1))
        have s5 := (s2.trans s3).trans s'
        refine ⟨rfl, _, rfl, _, rfl, _, _, _, _, rfl, rfl, (Tk.of s5).sqT cc, rfl, _, rfl, _, rfl, _, _, _, _, rfl, rfl, hS.same s5, at_of (j := k) rfl hb, _, _, _, _, rfl, rfl, (Tk.of (s3.trans s')).sqT cb, rfl, ?_⟩
        refine ⟨a, F, y.1, s.1, rfl, Dp.tk (Tk.of s5) _ (flat_field F) hF, ok, my, ms, fun H6 s6 => ⟨_, rfl, ?_⟩⟩
        rw [take_snoc k1, List.countP_append, List.countP_singleton, tc_eq ok]
        cases ha : apart F y.1 s.1
        · refine iteT ⟨_, s6 _ _ eD2, ?_, ?_, same_put (s'.trans s6) hD2⟩
          · rw [List.length_map, List.length_replicate]
            refine small1000 (Nat.le_trans List.countP_le_length ?_)
            rw [List.length_take, List.length_take]
            omega
          · rw [upd_same]
            show some (HO.lst _) = some (.lst ((List.replicate (_ + 1) (1 : Int)).map V.int))
            rw [List.replicate_succ', List.map_append]
            rfl
        · refine iteF ⟨?_, s'.trans s6⟩
          rw [s6 _ _ eD2]
          rfl
      · rw [hlk, List.take_of_length_le (by rw [List.length_take]; omega)] at eD2
        refine ⟨by decide, fun E hE => ?_⟩
        have eD3 := (same_upd (o := .lst []) hE) D2 _ eD2
        have s6 := (s2.trans s3).trans (s'.trans (same_upd (o := .lst []) hE))
        have eDD : upd H4 E (.lst []) D = some (.lst ((firstsL F l k).map fun k => V.int (k : Nat))) := (s3.trans (s'.trans (same_upd (o := .lst []) hE))) _ _ eD
        have eE : upd H4 E (.lst []) E = some (.lst []) := upd_same
        generalize upd H4 E (.lst []) = H5 at eD3 s6 eE eDD ⊢
        refine ⟨.list ((List.replicate _ (1 : Int)).map .int), .list [], .lst (SqL.of eD3) (dpInts _), .lst (SqL.of eE) .nil, shInts _, rfl, _, rfl, ?_⟩
        rw [neInts, firsts_snoc]
        have ef : free1 F l k = (List.replicate ((l.take k).countP fun y => (OF F).tc y.1 s.1) (1 : Int)).isEmpty := by
          unfold free1
          rw [hs]
          show (l.take k).all _ = _
          rw [Bool.eq_iff_iff, List.all_eq_true, List.isEmpty_iff, List.replicate_eq_nil_iff, List.countP_eq_zero]
          simp
        rw [← ef]
        cases hfr : free1 F l k
        · refine iteF ⟨_, _, rfl, s6, ?_⟩
          rw [eDD, if_neg Bool.false_ne_true, List.append_nil]
        · refine iteT ⟨_, rfl, Or.inl ⟨rfl, _, SqL.of eDD⟩, _, rfl, D, _, _, rfl, rfl, eDD, ?_, ?_⟩
          · rw [List.length_map]
            have := firsts_len (F := F) (l := l) (n := k)
            exact small1000 (by omega)
          · refine ⟨_, _, rfl, same_put s6 hD0, ?_⟩
            rw [upd_same, if_pos rfl, List.map_append]
            rfl
    · subst eσ
      rw [hlx] at eD
      exact ⟨_, rfl, q _ D s2 eD hD0⟩
end
end XB
set_option Elab.async false
set_option linter.all false
set_option maxRecDepth 100000
set_option maxHeartbeats 4000000
namespace XB
open PySem PySem.Spec PyProof.Rows L2
def up (n : Nat) (o : Option (Nat × Nat)) : Option (Nat × Nat) := o.map fun p => (p.1 + n, p.2 + n)
theorem met_none {F : Fld} {l : List (Str × Int)} {k : Nat} {s : Str × Int} (hs : l[k]? = some s) (h : XM.near (OF F) s.1 (l.drop (k + 1)) = none) : up k (XM.met (OF F) (l.drop k)) = up (k + 1) (XM.met (OF F) (l.drop (k + 1))) := by
  rw [drop_at hs]
  show up k (match XM.near (OF F) s.1 (l.drop (k + 1)) with
    | some d => some (0, d + 1)
    | none => (XM.met (OF F) (l.drop (k + 1))).map fun p => (p.1 + 1, p.2 + 1)) = _
  rw [h]
  unfold up
  rw [Option.map_map]
  congr 1
  funext p
  show (p.1 + 1 + k, p.2 + 1 + k) = (p.1 + (k + 1), p.2 + (k + 1))
  rw [Nat.add_assoc, Nat.add_assoc, Nat.add_comm 1 k]
theorem met_here {F : Fld} {l : List (Str × Int)} {k d : Nat} {s : Str × Int} (hs : l[k]? = some s) (h : XM.near (OF F) s.1 (l.drop (k + 1)) = some d) : up k (XM.met (OF F) (l.drop k)) = some (k, k + 1 + d) := by
  rw [drop_at hs]
  show up k (match XM.near (OF F) s.1 (l.drop (k + 1)) with
    | some d => some (0, d + 1)
    | none => (XM.met (OF F) (l.drop (k + 1))).map fun p => (p.1 + 1, p.2 + 1)) = _
  rw [h]
  show some (0 + k, d + 1 + k) = _
  rw [Nat.zero_add, Nat.add_comm (d + 1) k, Nat.add_comm d 1, Nat.add_assoc]
section
variable {P : Program} {w : World} {K : PySem.W.Frag} {mg : Str → Option Value} {base : Heap}
def metV (K : PySem.W.Frag) (H : Hp) (Q : VK) : Option (Nat × Nat) → Prop
  | none => ∀ H', Same H H' → Q .non H'
  | some p => ∀ H' r, Same H H' → SqT K H' r [.int (p.1 : Nat), .int (p.2 : Nat)] → Q (.ref r) H'
def spLawMet (K : PySem.W.Frag) : Sp := fun vs H Q _ => ∃ (a p : Addr) (F : Fld) (xs : List V) (l : List (Str × Int)), vs = [.ref a, .ref p] ∧ Dp K H (.ref a) (dField F) ∧ F.Ok ∧ SqX K H p xs ∧ DpAll K H xs (l.map dStep) ∧ Names F l ∧ l.length ≤ 60 ∧
  metV K H Q (XM.met (OF F) l)
theorem c__law_met (T : Tx K mg) : Cl P w K mg base CX0 2 "_law_met" (spLawMet K) := by
  refine cl0 T.d__law_met (ps := ["field", "steps"]) (fun _ _ _ _ _ _ us hl => match us, hl with | [_, _], _ => rfl) sc__law_met (fun vs H Q E h => ?_) (fun f cdv A outer st H vs Q E hr h => ?_)
  · obtain ⟨a, p, F, xs, l, rfl, _⟩ := h
    rfl
  · obtain ⟨a, p, F, xs, l, rfl, hF, ok, hS, hD, hN, hl60, q⟩ := h
    have nd := sc__law_met.nd
    have hlx := hD.len
    rw [List.length_map] at hlx
    refine ⟨_, pss_cons (ps_for PassesOwn.never rfl (pi_range1 (by rfl) T.b_range (pa_cons (pe_lenS (by rfl) T.b_len (pv 1)) pa_nil)) (pg_name (i := 2) nd rfl (.inl rfl))
        (pss_cons (ps_set (i := 3) nd rfl (.inl rfl) (pe_ix ix_tup (pe_ix (ixk_row (K := K) rfl) (pv 1) (pv 2) (fun _ _ => rfl)) pe_int (fun _ _ => rfl)))
        (pss_one (ps_for PassesOwn.never rfl (pi_range2 (by rfl) T.b_range (pa_cons (pe_op op_add (pv 2) pe_int) (pa_cons (pe_lenS (by rfl) T.b_len (pv 1)) pa_nil))) (pg_name (i := 4) nd rfl (.inl rfl))
          (pss_cons (ps_if (pt_cmpR op_eq (pe_ix ix_tup (pe_ix (ixk_row (K := K) rfl) (pv 1) (pv 4) (fun _ _ => rfl)) pe_int (fun _ _ => rfl)) (pv 3) (nomark _)) (pss_one (ps_ret (pe_tup (pa_cons (pv 2) (pa_cons (pv 4) pa_nil))))) pss_nil)
          (pss_one (ps_if (pt_not (pt_val (pe_k (c__law_apart T) hr (by decide) (by rfl) (pa_cons (pv 0) (pa_cons (pe_ix ix_tup (pe_ix (ixk_row (K := K) rfl) (pv 1) (pv 4) (fun _ _ => rfl)) pe_int (fun _ _ => rfl)) (pa_cons (pv 3) pa_nil)))))) (pss_one ps_break) pss_nil)))))))
      (pss_one (ps_ret pe_non)), ?_⟩
    refine ⟨_, rfl, p, xs, rfl, hS, xs.length, rfl, by omega, by omega, ?_⟩
    refine for_range (lo := 0) (n := xs.length) (fun k σ H2 => ∃ (y2 y3 y4 : Option V), σ = [some (.ref a), some (.ref p), y2, y3, y4] ∧ Same H H2 ∧ XM.met (OF F) l = up k (XM.met (OF F) (l.drop k)))
      ⟨none, none, none, rfl, Same.refl _, by rw [List.drop_zero]; unfold up; simp⟩ (fun k σ H2 hk ⟨y2, y3, y4, eσ, s2, em⟩ => ?_) (fun σ H2 ⟨y2, y3, y4, eσ, s2, em⟩ => ?_)
    · subst eσ
      have hs : l[k]? = some l[k] := List.getElem?_eq_getElem (by omega)
      have ms := hN _ (List.mem_of_getElem? hs)
      generalize l[k] = s at hs ms
      obtain ⟨b, hb, cb⟩ := (DpAll.tk (Tk.of s2) _ (flat_all_steps l) hD).step hs
      rw [Int.zero_add]
      refine ⟨_, rfl, _, rfl, _, _, _, _, rfl, rfl, hS.same s2, at_of (j := k) rfl hb, _, _, _, _, rfl, rfl, cb, rfl, ?_⟩
      refine ⟨_, rfl, (k : Int), 1, rfl, rfl, _, rfl, p, xs, rfl, hS.same s2, _, _, rfl, by omega, ?_⟩
      have hn : ((xs.length : Int) - ((k : Int) + 1)).toNat = l.length - (k + 1) := by omega
      refine for_range (lo := (k : Int) + 1) (n := ((xs.length : Int) - ((k : Int) + 1)).toNat) (fun j σ H3 => ∃ (y4 : Option V), σ = [some (.ref a), some (.ref p), some (.int (k : Int)), some (.str s.1), y4] ∧ Same H H3 ∧ XM.near (OF F) s.1 (l.drop (k + 1)) = (XM.near (OF F) s.1 (l.drop (k + 1 + j))).map (· + j))
        ⟨y4, rfl, s2, by simp⟩ (fun j σ H3 hj ⟨y4, eσ, s3, en⟩ => ?_) (fun σ H3 ⟨y4, eσ, s3, en⟩ => ?_)
      · subst eσ
        have hy : l[k + 1 + j]? = some l[k + 1 + j] := List.getElem?_eq_getElem (by omega)
        have my := hN _ (List.mem_of_getElem? hy)
        generalize l[k + 1 + j] = y at hy my
        obtain ⟨c, hc, cc⟩ := (DpAll.tk (Tk.of s3) _ (flat_all_steps l) hD).step hy
        have ej : (k : Int) + 1 + (j : Int) = ((k + 1 + j : Nat) : Int) := by omega
        rw [ej]
        refine ⟨_, rfl, _, rfl, _, _, _, _, rfl, rfl, hS.same s3, at_of (j := k + 1 + j) rfl hc, _, _, _, _, rfl, rfl, cc, rfl, _, rfl, rfl, _, rfl, ?_⟩
        rw [drop_at hy] at en
        have en : _ = ((if y.1 = s.1 then some 0 else if (OF F).tc y.1 s.1 then none else (XM.near (OF F) s.1 (l.drop (k + 1 + j + 1))).map (· + 1)) : Option Nat).map (· + j) := en
        rw [show decide (V.str y.1 = V.str s.1) = decide (y.1 = s.1) from decide_eq_decide.mpr ⟨fun h => V.str.inj h, fun h => congrArg _ h⟩]
        by_cases e : y.1 = s.1
        · rw [decide_eq_true e]
          rw [if_pos e] at en
          have en : XM.near (OF F) s.1 (l.drop (k + 1)) = some (0 + j) := en
          rw [Nat.zero_add] at en
          rw [met_here hs en] at em
          rw [em] at q
          refine iteT ⟨_, rfl, _, rfl, (show 2 ≤ sizeLine by decide), fun T hT => q _ T (same_new s3 hT) (SqT.of upd_same)⟩
        · rw [decide_eq_false e]
          rw [if_neg e] at en
          refine iteF ?_
          refine ⟨_, rfl, _, rfl, _, rfl, _, _, _, _, rfl, rfl, hS.same s3, at_of (j := k + 1 + j) rfl hc, _, _, _, _, rfl, rfl, cc, rfl, _, rfl, ?_⟩
          refine ⟨a, F, y.1, s.1, rfl, Dp.tk (Tk.of s3) _ (flat_field F) hF, ok, my, ms, fun H4 s4 => ⟨_, rfl, ?_⟩⟩
          rw [tc_eq ok] at en
          cases ha : apart F y.1 s.1
          · rw [ha] at en
            have en : XM.near (OF F) s.1 (l.drop (k + 1)) = none := en
            rw [met_none hs en] at em
            exact iteT ⟨_, _, _, rfl, s3.trans s4, em⟩
          · rw [ha] at en
            refine iteF ⟨_, rfl, s3.trans s4, ?_⟩
            rw [en]
            show ((XM.near (OF F) s.1 (l.drop (k + 1 + j + 1))).map (· + 1)).map (· + j) = _
            rw [Option.map_map, ← Nat.add_assoc]
            congr 1
            funext n
            show n + 1 + j = n + (j + 1)
            omega
      · subst eσ
        rw [hn, show l.drop (k + 1 + (l.length - (k + 1))) = [] from List.drop_eq_nil_iff.mpr (by omega)] at en
        rw [met_none hs en] at em
        exact ⟨_, _, _, rfl, s3, em⟩
    · subst eσ
      rw [hlx, List.drop_length] at em
      rw [em] at q
      exact q _ s2
end
end XB
set_option Elab.async false
set_option linter.all false
set_option maxRecDepth 100000
set_option maxHeartbeats 4000000
namespace XB
open PySem PySem.Spec PyProof.Rows L2
theorem cut_mid (xs : List V) {i j : Nat} (h1 : i ≤ j) (h2 : j ≤ xs.length) : cutV xs (some (i : Int)) (some (j : Int)) = (xs.drop i).take (j - i) := by
  unfold cutV
  rw [HT.sIx_nat, HT.sIx_nat, Nat.min_eq_left h2, Nat.min_eq_left (Nat.le_trans h1 h2)]
def melt {α : Type} (l : List α) (x : List α) (i j : Nat) : List α := l.take i ++ x ++ ((l.drop (i + 1)).take (j - (i + 1)) ++ l.drop (j + 1))
theorem melt_step {F : Fld} {l : List (Str × Int)} {i j : Nat} (h : XM.met (OF F) l = some (i, j)) (hZ : XM.NZ l) (hN : Names F l) :
    ∃ a s t, l[i]? = some (a, s) ∧ l[j]? = some (a, t) ∧ i < j ∧ j < l.length ∧ ∀ x, x = (if s + t = 0 then [] else [(a, s + t)]) →
      XM.NZ (melt l x i j) ∧ Names F (melt l x i j) ∧ XM.act (OF F) (melt l x i j) [] = XM.act (OF F) l [] ∧ (melt l x i j).length < l.length := by
  obtain ⟨u, a, s, m, t, v, e, hi, hj, hm⟩ := XM.met_some h
  have z1 : s ≠ 0 := hZ (a, s) (by rw [e]; simp)
  have z2 : t ≠ 0 := hZ (a, t) (by rw [e]; simp)
  refine ⟨a, s, t, ?_, ?_, by omega, ?_, fun x hx => ?_⟩
  · rw [e, List.getElem?_append_right (by omega), hi, Nat.sub_self]
    rfl
  · rw [e, List.getElem?_append_right (by omega), show j - u.length = m.length + 1 by omega, List.getElem?_cons_succ, List.getElem?_append_right (by omega), Nat.sub_self]
    rfl
  · rw [e]
    simp
    omega
  · have em : melt l x i j = u ++ (x ++ (m ++ v)) := by
      unfold melt
      have e1 : l.take i = u := by
        rw [e, ← hi, List.take_left']
        rfl
      have e2 : l.drop (i + 1) = m ++ (a, t) :: v := by
        rw [e, ← hi, List.drop_append, List.drop_of_length_le (by omega)]
        rw [show u.length + 1 - u.length = 1 by omega]
        rfl
      have e3 : l.drop (j + 1) = v := by
        have : l.drop (j + 1) = (l.drop (i + 1)).drop (m.length + 1) := by
          rw [List.drop_drop]
          congr 1
          omega
        rw [this, e2, List.drop_append, List.drop_of_length_le (by omega), show m.length + 1 - m.length = 1 by omega]
        rfl
      rw [e1, e2, e3, show j - (i + 1) = m.length by omega, List.take_left' rfl, List.append_assoc]
    have nx : XM.NZ x := by
      rw [hx]
      intro y hy
      by_cases h0 : s + t = 0
      · rw [if_pos h0] at hy
        cases hy
      · rw [if_neg h0] at hy
        rw [List.mem_singleton.mp hy]
        exact h0
    have zl := hZ
    rw [e] at zl
    have zu : XM.NZ u := fun y hy => zl y (by simp [hy])
    have zm : XM.NZ m := fun y hy => zl y (by simp [hy])
    have zv : XM.NZ v := fun y hy => zl y (by simp [hy])
    have nl := hN
    rw [e] at nl
    rw [em]
    refine ⟨zu.app (nx.app (zm.app zv)), fun y hy => ?_, ?_, ?_⟩
    · rw [List.mem_append, List.mem_append, List.mem_append] at hy
      rcases hy with hy | hy | hy | hy
      · exact nl y (by simp [hy])
      · rw [hx] at hy
        by_cases h0 : s + t = 0
        · rw [if_pos h0] at hy
          cases hy
        · rw [if_neg h0] at hy
          rw [List.mem_singleton.mp hy]
          exact nl (a, s) (by simp)
      · exact nl y (by simp [hy])
      · exact nl y (by simp [hy])
    · rw [e, hx]
      exact (XM.act_meet (O := OF F) hm z1 z2 zu zm (show XM.NF (OF F) [] from trivial)).symm
    · rw [e, hx]
      by_cases h0 : s + t = 0
      · rw [if_pos h0]
        simp
        try omega
      · rw [if_neg h0]
        simp
        try omega
section
variable {P : Program} {w : World} {K : PySem.W.Frag} {mg : Str → Option Value} {base : Heap}
def spLawPile (K : PySem.W.Frag) (F : Fld) : Sp := fun vs H Q _ => ∃ (a p : Addr) (xs : List V) (l : List (Str × Int)), vs = [.ref a, .ref p] ∧ Dp K H (.ref a) (dField F) ∧ F.Ok ∧ SqT K H p xs ∧ DpAll K H xs (l.map dStep) ∧ Names F l ∧ XM.NZ l ∧ l.length ≤ 60 ∧
  ∀ H' r l', Same H H' → Row1 K H' r l' → H r = none → Names F l' → XM.NZ l' → XM.pl (OF F) l' = true → XM.act (OF F) l' [] = XM.act (OF F) l [] → l'.length ≤ l.length → Q (.ref r) H'
/-- what _law_met has answered -/
def SpotV (K : PySem.W.Frag) (H : Hp) (z : V) : Option (Nat × Nat) → Prop
  | none => z = .non
  | some p => ∃ t, z = .ref t ∧ SqT K H t [.int (p.1 : Nat), .int (p.2 : Nat)]
theorem metV_of {H : Hp} {Q : VK} {o : Option (Nat × Nat)} (h : ∀ H' z, Same H H' → SpotV K H' z o → Q z H') : metV K H Q o := by
  cases o with
  | none => exact fun H' s => h H' .non s rfl
  | some p => exact fun H' r s hs => h H' (.ref r) s ⟨r, rfl, hs⟩
def PileInv (K : PySem.W.Frag) (F : Fld) (H : Hp) (a p : Addr) (l : List (Str × Int)) : Nat → L2.St → Hp → Prop := fun m σ H2 => ∃ (D : Addr) (ys : List V) (l' : List (Str × Int)) (z : V) (y4 y5 y6 y7 : Option V), m = l'.length ∧ σ = [some (.ref a), some (.ref p), some (.ref D), some z, y4, y5, y6, y7] ∧ Same H H2 ∧ H2 D = some (.lst ys) ∧ DpAll K H2 ys (l'.map dStep) ∧ H D = none ∧
        Names F l' ∧ XM.NZ l' ∧ XM.act (OF F) l' [] = XM.act (OF F) l [] ∧ l'.length ≤ l.length ∧ SpotV K H2 z (XM.met (OF F) l')
theorem c__law_pile (T : Tx K mg) (F : Fld) : Cl P w K mg base CX0 3 "_law_pile" (spLawPile K F) := by
  refine cl0 T.d__law_pile (ps := ["field", "steps"]) (fun _ _ _ _ _ _ us hl => match us, hl with | [_, _], _ => rfl) sc__law_pile (fun vs H Q E h => ?_) (fun f cdv A outer st H vs Q E hr h => ?_)
  · obtain ⟨a, p, xs, l, rfl, _⟩ := h
    rfl
  · obtain ⟨a, p, xs, l, rfl, hF, ok, hS, hD, hN, hZ, hl60, q⟩ := h
    have nd := sc__law_pile.nd
    refine ⟨_, pss_cons (ps_set (i := 2) nd rfl (.inl rfl) (pe_callTy call_list_of (by rfl) T.b_list (by decide +kernel) (pa_cons (pv 1) pa_nil)))
      (pss_cons (ps_set (i := 3) nd rfl (.inl rfl) (pe_k (c__law_met T) hr (by decide) (by rfl) (pa_cons (pv 0) (pa_cons (pv 2) pa_nil))))
      (pss_cons (ps_while PassesOwn.never (pt_cmpR op_notN (pv 3) pe_non (nomark _))
        (pss_cons (ps_asg (pv 3) (pg_tup rfl (pgs_cons (pg_name (i := 4) nd rfl (.inl rfl)) (pgs_cons (pg_name (i := 5) nd rfl (.inl rfl)) pgs_nil))))
        (pss_cons (ps_set (i := 6) nd rfl (.inl rfl) (pe_op op_add (pe_ix ix_tup (pe_ix ix_list (pv 2) (pv 4) (fun _ _ => rfl)) pe_int (fun _ _ => rfl)) (pe_ix ix_tup (pe_ix ix_list (pv 2) (pv 5) (fun _ _ => rfl)) pe_int (fun _ _ => rfl))))
        (pss_cons (ps_set (i := 7) nd rfl (.inl rfl) (pe_op op_cat (pe_slice sl_list (pv 2) (po_some (pe_op op_add (pv 4) pe_int)) (po_some (pv 5))) (pe_slice sl_list (pv 2) (po_some (pe_op op_add (pv 5) pe_int)) po_none)))
        (pss_cons (ps_set (i := 2) nd rfl (.inl rfl) (pe_op op_cat (pe_op op_cat (pe_slice sl_list (pv 2) po_none (po_some (pv 4)))
            (pe_ifExp (pt_cmpR op_ne (pv 6) pe_int (nomark _)) (pe_lst (pa_cons (pe_tup (pa_cons (pe_ix ix_tup (pe_ix ix_list (pv 2) (pv 4) (fun _ _ => rfl)) pe_int (fun _ _ => rfl)) (pa_cons (pv 6) pa_nil))) pa_nil)) (pe_lst pa_nil))) (pv 7)))
        (pss_one (ps_set (i := 3) nd rfl (.inl rfl) (pe_k (c__law_met T) hr (by decide) (by rfl) (pa_cons (pv 0) (pa_cons (pv 2) pa_nil))))))))))
      (pss_one (ps_ret (pv 2))))), ?_⟩
    refine ⟨_, rfl, p, xs, rfl, .inr hS, fun D hD0 => ?_⟩
    have s0 := same_upd (o := .lst xs) hD0
    have hD1 := DpAll.tk (Tk.of s0) _ (flat_all_steps l) hD
    refine ⟨_, rfl, _, rfl, a, D, F, xs, l, rfl, Dp.tk (Tk.of s0) _ (flat_field F) hF, ok, .inl (SqL.of upd_same), hD1, hN, hl60, metV_of fun H1 z s1 hz => ?_⟩
    refine ⟨PileInv K F H a p l, ⟨_, D, xs, l, z, none, none, none, none, rfl, rfl, s0.trans s1, s1 _ _ upd_same, DpAll.tk (Tk.of s1) _ (flat_all_steps l) hD1, hD0, hN, hZ, rfl, Nat.le_refl _, hz⟩, ?_⟩
    rintro m σ H2 ⟨D, ys, l', z, y4, y5, y6, y7, rfl, rfl, s2, eD, hY, hD0, hN', hZ', ea, hle, hz⟩
    have hly := hY.len
    rw [List.length_map] at hly
    refine ⟨_, rfl, rfl, _, rfl, ?_⟩
    cases hm : XM.met (OF F) l' with
    | none =>
      rw [hm] at hz
      have hz : z = .non := hz
      subst hz
      refine iteF ⟨_, rfl, q _ D l' s2 ⟨ys, eD, hY⟩ hD0 hN' hZ' (XM.met_pl.mp hm) ea hle⟩
    | some ij =>
      obtain ⟨i, j⟩ := ij
      rw [hm] at hz
      obtain ⟨t, rfl, ht⟩ := hz
      obtain ⟨nm, s, u, hi, hj, hij, hjl, hx⟩ := melt_step hm hZ' hN'
      obtain ⟨b1, hb1, cb1⟩ := hY.step hi
      obtain ⟨b2, hb2, cb2⟩ := hY.step hj
      refine iteT ⟨fun σ' H' => ∃ m', m' < l'.length ∧ PileInv K F H a p l m' σ' H', fun _ _ h => h, ?_⟩
      refine ⟨_, rfl, t, _, rfl, ht, rfl, _, _, rfl, _, _, rfl, rfl, ?_⟩
      refine ⟨_, rfl, _, rfl, _, _, _, _, rfl, rfl, SqL.of eD, at_of (j := i) rfl hb1, _, _, _, _, rfl, rfl, cb1, rfl, _, rfl, _, rfl, _, _, _, _, rfl, rfl, SqL.of eD, at_of (j := j) rfl hb2, _, _, _, _, rfl, rfl, cb2, rfl, s, u, rfl, rfl, ?_⟩
      have dat : ∀ H7 X x, Same H2 H7 → DpAll K H7 X (x.map dStep) → DpAll K H7 (ys.take i ++ X ++ ((ys.drop (i + 1)).take (j - (i + 1)) ++ ys.drop (j + 1))) ((melt l' x i j).map dStep) := fun H7 X x s7 hX => by
        have h := DpAll.tk (Tk.of s7) _ (flat_all_steps l') hY
        unfold melt
        rw [List.map_append, List.map_append, List.map_append, List.map_take, List.map_take, List.map_drop, List.map_drop]
        exact ((h.take i).app hX).app (((h.drop (i + 1)).take (j - (i + 1))).app (h.drop (j + 1)))
      have ly : ys.length ≤ 60 := by omega
      have sz : ∀ {n : Nat}, n ≤ 200 → n ≤ sizeLine := fun h => Nat.le_of_lt (small1000 (by omega))
      refine ⟨_, rfl, _, rfl, _, _, rfl, rfl, ((i + 1 : Nat) : Int), rfl, _, rfl, (j : Int), rfl, D, ys, rfl, SqL.of eD, fun p1 h1 => ?_⟩
      rw [cut_mid ys (by omega) (by omega)]
      have s3 := same_upd (o := .lst ((ys.drop (i + 1)).take (j - (i + 1)))) h1
      have e3 : upd H2 p1 (.lst ((ys.drop (i + 1)).take (j - (i + 1)))) p1 = some (.lst ((ys.drop (i + 1)).take (j - (i + 1)))) := upd_same
      generalize upd H2 p1 (.lst ((ys.drop (i + 1)).take (j - (i + 1)))) = H3 at s3 e3 ⊢
      refine ⟨_, rfl, _, rfl, _, _, rfl, rfl, ((j + 1 : Nat) : Int), rfl, ?_⟩
      refine noPart ?_
      refine ⟨D, ys, rfl, SqL.of (s3 _ _ eD), fun p2 h2 => ?_⟩
      rw [cut_from]
      have s4 := s3.trans (same_upd (o := .lst (ys.drop (j + 1))) h2)
      have e4 := same_upd (o := .lst (ys.drop (j + 1))) h2 _ _ e3
      have e4' : upd H3 p2 (.lst (ys.drop (j + 1))) p2 = some (.lst (ys.drop (j + 1))) := upd_same
      generalize upd H3 p2 (.lst (ys.drop (j + 1))) = H4 at s4 e4 e4' ⊢
      refine ⟨p1, p2, _, _, rfl, rfl, e4, e4', sz (by rw [List.length_take, List.length_drop, List.length_drop]; omega), fun p3 h3 => ?_⟩
      have s5 := s4.trans (same_upd (o := .lst ((ys.drop (i + 1)).take (j - (i + 1)) ++ ys.drop (j + 1))) h3)
      have e5 : upd H4 p3 (.lst ((ys.drop (i + 1)).take (j - (i + 1)) ++ ys.drop (j + 1))) p3 = some (.lst ((ys.drop (i + 1)).take (j - (i + 1)) ++ ys.drop (j + 1))) := upd_same
      generalize upd H4 p3 (.lst ((ys.drop (i + 1)).take (j - (i + 1)) ++ ys.drop (j + 1))) = H5 at s5 e5 ⊢
      refine ⟨_, rfl, ?_⟩
      refine noPart ?_
      refine ⟨_, rfl, (i : Int), rfl, D, ys, rfl, SqL.of (s5 _ _ eD), fun p4 h4 => ?_⟩
      rw [cut_init]
      have s6 := s5.trans (same_upd (o := .lst (ys.take i)) h4)
      have e6 := same_upd (o := .lst (ys.take i)) h4 _ _ e5
      have e6' : upd H5 p4 (.lst (ys.take i)) p4 = some (.lst (ys.take i)) := upd_same
      generalize upd H5 p4 (.lst (ys.take i)) = H6 at s6 e6 e6' ⊢
      refine ⟨_, rfl, rfl, _, rfl, ?_⟩
      rw [dec_int]
      by_cases h0 : s + u = 0
      · rw [show (s + u == 0) = true by simp [h0]]
        refine iteF ⟨Nat.zero_le _, fun p5 h5 => ?_⟩
        have dX : DpAll K (upd H6 p5 (.lst [])) [] (([] : List (Str × Int)).map dStep) := .nil
        have s7 := (same_upd (o := .lst []) h5)
        have e7 : upd H6 p5 (.lst []) p5 = some (.lst []) := upd_same
        have e7' := s7 _ _ e6
        have e7'' := s7 _ _ e6'
        have s7 := s6.trans s7
        generalize upd H6 p5 (.lst []) = H7 at dX s7 e7 e7' e7'' ⊢
        refine ⟨p4, p5, _, _, rfl, rfl, e7'', e7, sz (by rw [List.length_take]; simp; omega), fun p6 h6 => ?_⟩
        have s8 := s7.trans (same_upd (o := .lst (ys.take i ++ [])) h6)
        have e8 := same_upd (o := .lst (ys.take i ++ [])) h6 _ _ e7'
        have e8' : upd H7 p6 (.lst (ys.take i ++ [])) p6 = some (.lst (ys.take i ++ [])) := upd_same
        have dX := DpAll.tk (Tk.of (same_upd (o := .lst (ys.take i ++ [])) h6)) _ (flat_all_steps []) dX
        generalize upd H7 p6 (.lst (ys.take i ++ [])) = H8 at dX s8 e8 e8' ⊢
        refine ⟨_, rfl, p6, p3, _, _, rfl, rfl, e8', e8, sz (by simp [List.length_take, List.length_drop]; omega), fun p7 h7 => ?_⟩
        have s9 := s8.trans (same_upd (o := .lst (ys.take i ++ [] ++ ((ys.drop (i + 1)).take (j - (i + 1)) ++ ys.drop (j + 1)))) h7)
        have e9 : upd H8 p7 (.lst (ys.take i ++ [] ++ ((ys.drop (i + 1)).take (j - (i + 1)) ++ ys.drop (j + 1)))) p7 = some (.lst (ys.take i ++ [] ++ ((ys.drop (i + 1)).take (j - (i + 1)) ++ ys.drop (j + 1)))) := upd_same
        have dX := DpAll.tk (Tk.of (same_upd (o := .lst (ys.take i ++ [] ++ ((ys.drop (i + 1)).take (j - (i + 1)) ++ ys.drop (j + 1)))) h7)) _ (flat_all_steps []) dX
        have n7 : H p7 = none := by
          cases e : H p7 with
          | none => rfl
          | some o =>
            rw [s8 _ _ (s2 _ _ e)] at h7
            cases h7
        generalize upd H8 p7 (.lst (ys.take i ++ [] ++ ((ys.drop (i + 1)).take (j - (i + 1)) ++ ys.drop (j + 1)))) = H9 at dX s9 e9 ⊢
        obtain ⟨f1, f2, f3, f4⟩ := hx [] (by rw [if_pos h0])
        have dN := dat H9 _ _ s9 dX
        refine ⟨_, rfl, _, rfl, a, p7, F, _, melt l' [] i j, rfl, Dp.tk (Tk.of (s2.trans s9)) _ (flat_field F) hF, ok, .inl (SqL.of e9), dN, f2, by omega, metV_of fun H10 z s10 hz => ?_⟩
        exact ⟨_, f4, p7, _, _, z, _, _, _, _, rfl, rfl, (s2.trans s9).trans s10, s10 _ _ e9, DpAll.tk (Tk.of s10) _ (flat_all_steps _) dN, n7, f2, f1, f3.trans ea, by omega, hz⟩
      · rw [show (s + u == 0) = false by simp [h0]]
        refine iteT ⟨_, rfl, _, rfl, _, _, _, _, rfl, rfl, SqL.of (s6 _ _ eD), at_of (j := i) rfl hb1, _, _, _, _, rfl, rfl, (Tk.of s6).sqT cb1, rfl, _, rfl, (show 2 ≤ sizeLine by decide), fun T hT => ⟨(show 1 ≤ sizeLine by decide), fun p5 h5 => ?_⟩⟩
        have dX : DpAll K (upd (upd H6 T (.tup [.str nm, .int (s + u)])) p5 (.lst [.ref T])) [.ref T] (([(nm, s + u)] : List (Str × Int)).map dStep) := (.cons (Dp.of_step ((Tk.of (same_upd h5)).sqT (SqT.of upd_same))) .nil)
        have s7 := ((same_upd (o := .tup [.str nm, .int (s + u)]) hT).trans (same_upd (o := .lst [.ref T]) h5))
        have e7 : upd (upd H6 T (.tup [.str nm, .int (s + u)])) p5 (.lst [.ref T]) p5 = some (.lst [.ref T]) := upd_same
        have e7' := s7 _ _ e6
        have e7'' := s7 _ _ e6'
        have s7 := s6.trans s7
        generalize upd (upd H6 T (.tup [.str nm, .int (s + u)])) p5 (.lst [.ref T]) = H7 at dX s7 e7 e7' e7'' ⊢
        refine ⟨p4, p5, _, _, rfl, rfl, e7'', e7, sz (by rw [List.length_take]; simp; omega), fun p6 h6 => ?_⟩
        have s8 := s7.trans (same_upd (o := .lst (ys.take i ++ [.ref T])) h6)
        have e8 := same_upd (o := .lst (ys.take i ++ [.ref T])) h6 _ _ e7'
        have e8' : upd H7 p6 (.lst (ys.take i ++ [.ref T])) p6 = some (.lst (ys.take i ++ [.ref T])) := upd_same
        have dX := DpAll.tk (Tk.of (same_upd (o := .lst (ys.take i ++ [.ref T])) h6)) _ (flat_all_steps [(nm, s + u)]) dX
        generalize upd H7 p6 (.lst (ys.take i ++ [.ref T])) = H8 at dX s8 e8 e8' ⊢
        refine ⟨_, rfl, p6, p3, _, _, rfl, rfl, e8', e8, sz (by simp [List.length_take, List.length_drop]; omega), fun p7 h7 => ?_⟩
        have s9 := s8.trans (same_upd (o := .lst (ys.take i ++ [.ref T] ++ ((ys.drop (i + 1)).take (j - (i + 1)) ++ ys.drop (j + 1)))) h7)
        have e9 : upd H8 p7 (.lst (ys.take i ++ [.ref T] ++ ((ys.drop (i + 1)).take (j - (i + 1)) ++ ys.drop (j + 1)))) p7 = some (.lst (ys.take i ++ [.ref T] ++ ((ys.drop (i + 1)).take (j - (i + 1)) ++ ys.drop (j + 1)))) := upd_same
        have dX := DpAll.tk (Tk.of (same_upd (o := .lst (ys.take i ++ [.ref T] ++ ((ys.drop (i + 1)).take (j - (i + 1)) ++ ys.drop (j + 1)))) h7)) _ (flat_all_steps [(nm, s + u)]) dX
        have n7 : H p7 = none := by
          cases e : H p7 with
          | none => rfl
          | some o =>
            rw [s8 _ _ (s2 _ _ e)] at h7
            cases h7
        generalize upd H8 p7 (.lst (ys.take i ++ [.ref T] ++ ((ys.drop (i + 1)).take (j - (i + 1)) ++ ys.drop (j + 1)))) = H9 at dX s9 e9 ⊢
        obtain ⟨f1, f2, f3, f4⟩ := hx [(nm, s + u)] (by rw [if_neg h0])
        have dN := dat H9 _ _ s9 dX
        refine ⟨_, rfl, _, rfl, a, p7, F, _, melt l' [(nm, s + u)] i j, rfl, Dp.tk (Tk.of (s2.trans s9)) _ (flat_field F) hF, ok, .inl (SqL.of e9), dN, f2, by omega, metV_of fun H10 z s10 hz => ?_⟩
        exact ⟨_, f4, p7, _, _, z, _, _, _, _, rfl, rfl, (s2.trans s9).trans s10, s10 _ _ e9, DpAll.tk (Tk.of s10) _ (flat_all_steps _) dN, n7, f2, f1, f3.trans ea, by omega, hz⟩
end
end XB
set_option Elab.async false
set_option linter.all false
set_option maxRecDepth 100000
set_option maxHeartbeats 4000000
namespace XB
open PySem PySem.Spec PyProof.Rows L2
theorem rising_least : ∀ {r : List Str} {x : Str}, risingS x r = true → ∀ y ∈ r, sLt y x = false
  | [], _, _ => fun _ h => nomatch h
  | z :: r, x, h => by
    unfold risingS at h
    rw [Bool.and_eq_true] at h
    have h1 : sLt z x = false := by
      have := h.1
      rw [ltCps_eq] at this
      unfold sLt
      simpa using this
    intro y hy
    rcases List.mem_cons.mp hy with rfl | hy
    · exact h1
    · have h2 := rising_least h.2 y hy
      cases h3 : sLt y x
      · rfl
      · exfalso
        by_cases e : x = z
        · rw [e] at h3
          rw [h3] at h2
          cases h2
        · have h4 : sLt x z = true := sLt_tot z x (fun q => e q.symm) h1
          have := sLt_trans _ _ _ h3 h4
          rw [this] at h2
          cases h2
theorem sorted_head {y0 : Str} {ys : List Str} (h : sortedS (y0 :: ys) = true) : ∀ y ∈ y0 :: ys, sLt y y0 = false := fun y hy => by
  rcases List.mem_cons.mp hy with rfl | hy
  · exact sLt_irr _
  · exact rising_least h y hy
def nm1 (l : List (Str × Int)) (k : Nat) : Str := (l[k]?.map (·.1)).getD ""
theorem nm1_of {l : List (Str × Int)} {k : Nat} {s : Str × Int} (h : l[k]? = some s) : nm1 l k = s.1 := by
  unfold nm1
  rw [h]
  rfl
theorem mem_firsts {F : Fld} {l : List (Str × Int)} {n k : Nat} : k ∈ firstsL F l n ↔ k < n ∧ free1 F l k = true := by
  unfold firstsL
  rw [List.mem_filter, List.mem_range]
theorem firsts_at {F : Fld} {l : List (Str × Int)} {k : Nat} (h : k ∈ firstsL F l l.length) : ∃ s, l[k]? = some s ∧ ∀ y ∈ l.take k, (OF F).tc y.1 s.1 = false := by
  obtain ⟨h1, h2⟩ := mem_firsts.mp h
  have hs : l[k]? = some l[k] := List.getElem?_eq_getElem h1
  refine ⟨_, hs, fun y hy => ?_⟩
  unfold free1 at h2
  rw [hs] at h2
  have := List.all_eq_true.mp h2 y hy
  simpa using this
theorem least_first {F : Fld} {l : List (Str × Int)} {ys : List Str} {y0 : Str} (hP : (y0 :: ys).Perm ((firstsL F l l.length).map (nm1 l))) (hS : sortedS (y0 :: ys) = true) {k : Nat} (hk : k ∈ firstsL F l l.length) (hn : nm1 l k = y0) :
    ∃ s, l[k]? = some s ∧ s.1 = y0 ∧ l = l.take k ++ s :: l.drop (k + 1) ∧ XM.LeastFirst (OF F) (l.take k) s (l.drop (k + 1)) := by
  obtain ⟨s, hs, hf⟩ := firsts_at hk
  have e1 : s.1 = y0 := by rw [← hn, nm1_of hs]
  have e2 : l = l.take k ++ s :: l.drop (k + 1) := by
    rw [← drop_at hs, List.take_append_drop]
  refine ⟨s, hs, e1, e2, hf, fun p' z q' e hp hz => ?_⟩
  rw [← e2] at e
  have hz' : l[p'.length]? = some z := by
    rw [e, List.getElem?_append_right (Nat.le_refl _), Nat.sub_self]
    rfl
  have m : p'.length ∈ firstsL F l l.length := by
    refine mem_firsts.mpr ⟨(List.getElem?_eq_some_iff.mp hz').1, ?_⟩
    unfold free1
    rw [hz']
    show (l.take p'.length).all _ = true
    rw [e, List.take_left' rfl, List.all_eq_true]
    intro w hw
    rw [hp w hw]
    rfl
  have m2 : z.1 ∈ y0 :: ys := hP.symm.subset (List.mem_map.mpr ⟨_, m, nm1_of hz'⟩)
  have := sorted_head hS _ m2
  show sLt s.1 z.1 = true
  rw [e1]
  exact sLt_tot _ _ (fun q => hz (by rw [q, e1])) this
theorem firsts_some {F : Fld} {l : List (Str × Int)} (h : l ≠ []) : 0 ∈ firstsL F l l.length := by
  cases l with
  | nil => exact absurd rfl h
  | cons x r => exact mem_firsts.mpr ⟨by simp, rfl⟩
/-- what stands fast while the least pile is drawn from a pile -/
structure LInv (F : Fld) (l fl ll : List (Str × Int)) : Prop where
  srt : XM.Srt (OF F) fl ll
  pl : XM.pl (OF F) (fl ++ ll) = true
  nf : XM.NZ fl
  nl : XM.NZ ll
  act : XM.act (OF F) (fl ++ ll) [] = XM.act (OF F) l []
  nm : Names F ll
  len : fl.length + ll.length ≤ 60
theorem LInv.step {F : Fld} {l fl p q : List (Str × Int)} {s : Str × Int} (I : LInv F l fl (p ++ s :: q)) (L : XM.LeastFirst (OF F) p s q) : LInv F l (fl ++ [s]) (p ++ q) := by
  have zs : s.2 ≠ 0 := I.nl s (by simp)
  have zp : XM.NZ p := fun y hy => I.nl y (by simp [hy])
  have zq : XM.NZ q := fun y hy => I.nl y (by simp [hy])
  refine ⟨I.srt.step L, ?_, I.nf.app fun y hy => by rw [List.mem_singleton.mp hy]; exact zs, zp.app zq, ?_, fun y hy => I.nm y ?_, ?_⟩
  · rw [List.append_assoc, List.singleton_append, ← XM.pl_move L.free]
    exact I.pl
  · rw [List.append_assoc, List.singleton_append, ← XM.act_move L.free I.nf zp (show XM.NF (OF F) [] from trivial)]
    exact I.act
  · rw [List.mem_append] at hy
    rcases hy with h | h <;> simp [h]
  · have := I.len
    simp at this ⊢
    omega
theorem LInv.done {F : Fld} {l fl : List (Str × Int)} (I : LInv F l fl []) : (XM.act (OF F) l []).reverse = fl := by
  have h := I.pl
  have nf : XM.NF (OF F) fl.reverse := XM.nf_of (left := []) _ fl rfl I.srt h I.nf
  have a := XM.act_fix nf
  rw [List.reverse_reverse] at a
  have := I.act
  rw [List.append_nil, a] at this
  rw [← this, List.reverse_reverse]
theorem lay_steps : ∀ {l : List (Str × Int)}, (∀ s ∈ l, GoodName s.1) → PyData.canLayAll0 (l.map dStep) = true
  | [], _ => rfl
  | s :: l, h => by
    rw [List.map_cons, PyData.canLayAll0, lay_steps fun x hx => h x (List.mem_cons_of_mem _ hx)]
    show (PyData.canLay0 (.tuple [.str s.1, .int s.2]) && true) = true
    simp [PyData.canLay0, PyData.canLayAll0, strOk_of (h s List.mem_cons_self)]
theorem deep_steps : ∀ l : List (Str × Int), PyData.depthAll (l.map dStep) ≤ 2
  | [] => by decide
  | s :: l => by
    rw [List.map_cons, PyData.depthAll]
    have := deep_steps l
    have e : (dStep s).depth ≤ 2 := by
      show PyData.depth (.tuple [.str s.1, .int s.2]) ≤ 2
      simp [PyData.depth, PyData.depthAll]
    omega
theorem sh_steps {l : List (Str × Int)} (h : ∀ s ∈ l, GoodName s.1) : SeqAt.shaped (.list (l.map dStep)) = true := by
  have h2 := deep_steps l
  show (PyData.canLayAll0 (l.map dStep) && decide (PyData.depthAll (l.map dStep) + 1 ≤ 64)) = true
  rw [lay_steps h, Bool.true_and]
  exact decide_eq_true (by omega)
theorem ne_steps (l : List (Str × Int)) : PyData.eqv (.list (l.map dStep)) (.list []) = l.isEmpty := by
  cases l <;> rfl
end XB
set_option Elab.async false
set_option linter.all false
set_option maxRecDepth 100000
set_option maxHeartbeats 4000000
namespace XB
open PySem PySem.Spec PyProof.Rows L2
theorem fresh_of {H H1 : Hp} {p : Addr} (s : Same H H1) (h : H1 p = none) : H p = none := by
  cases e : H p with
  | none => rfl
  | some o =>
    rw [s _ _ e] at h
    cases h
theorem nat_at {ns : List Nat} {i : Nat} {x : V} (h : (ns.map fun k => V.int (k : Nat))[i]? = some x) : ∃ k, ns[i]? = some k ∧ x = V.int (k : Nat) := by
  rw [List.getElem?_map] at h
  obtain ⟨z, e, rfl⟩ := Option.map_eq_some_iff.mp h
  exact ⟨z, e, rfl⟩
section
variable {P : Program} {w : World} {K : PySem.W.Frag} {mg : Str → Option Value} {base : Heap}
def spLawLeast (K : PySem.W.Frag) (F : Fld) : Sp := fun vs H Q _ => ∃ (a p : Addr) (l : List (Str × Int)), vs = [.ref a, .ref p] ∧ Dp K H (.ref a) (dField F) ∧ F.Ok ∧ Dp K H (.ref p) (dSteps l) ∧ Names F l ∧ XM.NZ l ∧ l.length ≤ 60 ∧
  ∀ H' r, Same H H' → Dp K H' (.ref r) (dSteps (XM.act (OF F) l []).reverse) → Q (.ref r) H'
def LeastInv (K : PySem.W.Frag) (F : Fld) (H : Hp) (a p : Addr) (l : List (Str × Int)) : Nat → L2.St → Hp → Prop := fun m σ H2 => ∃ (D E : Addr) (xs ys : List V) (ll fl : List (Str × Int)) (y4 y5 y6 : Option V), m = ll.length ∧ σ = [some (.ref a), some (.ref p), some (.ref D), some (.ref E), y4, y5, y6] ∧ Same H H2 ∧
  H2 D = some (.lst xs) ∧ DpAll K H2 xs (ll.map dStep) ∧ H D = none ∧ H2 E = some (.lst ys) ∧ DpAll K H2 ys (fl.map dStep) ∧ H E = none ∧ D ≠ E ∧ LInv F l fl ll
theorem c__law_least (T : Tx K mg) (F : Fld) : Cl P w K mg base CX0 4 "_law_least" (spLawLeast K F) := by
  refine cl0 T.d__law_least (ps := ["field", "steps"]) (fun _ _ _ _ _ _ us hl => match us, hl with | [_, _], _ => rfl) sc__law_least (fun vs H Q E h => ?_) (fun f cdv A outer st H vs Q E hr h => ?_)
  · obtain ⟨a, p, l, rfl, _⟩ := h
    rfl
  · obtain ⟨a, p, l, rfl, hF, ok, hL, hN, hZ, hl60, q⟩ := h
    have nd := sc__law_least.nd
    refine ⟨_, pss_cons (ps_asg (pe_tup (pa_cons (pe_k (c__law_pile T F) hr (by decide) (by rfl) (pa_cons (pv 0) (pa_cons (pv 1) pa_nil))) (pa_cons (pe_lst pa_nil) pa_nil))) (pg_tup rfl (pgs_cons (pg_name (i := 2) nd rfl (by first | exact .inl rfl | exact .inr rfl)) (pgs_cons (pg_name (i := 3) nd rfl (by first | exact .inl rfl | exact .inr rfl)) pgs_nil))))
      (pss_cons (ps_while PassesOwn.never (pt_cmpR (op_neD hr.units) (pv 2) (pe_lst pa_nil) (nomark _))
        (pss_cons (ps_set (i := 4) nd rfl (by first | exact .inl rfl | exact .inr rfl) (pe_callB cr_sortedS (by rfl) T.b_sorted (by decide +kernel) (pa_cons (pe_lc (own := [("k", 6)]) (g := gName 6) (tt := tYes) (by rfl) nd (pi_list (pe_k (c__law_first T) hr (by decide) (by rfl) (pa_cons (pv 0) (pa_cons (pv 2) pa_nil))))
            (blkOk_by (own := [("k", 6)]) (N := ["field", "steps", "left", "found", "names", "spot", "k"]) (sc := defScope s__law_least) (by decide +kernel)) (fun _ _ _ _ _ => pg_name (i := 6) nd rfl (Or.inl rfl)) (fun _ _ _ _ _ => pts_nil)
            (fun _ _ _ _ _ => pe_ix (ixk_tup (K := K) rfl) (pe_ix (ixk_list (K := K) rfl) (pv 2) (pv 6) (fun _ _ => rfl)) pe_int (fun _ _ => rfl))) pa_nil)))
        (pss_cons (ps_set (i := 5) nd rfl (by first | exact .inl rfl | exact .inr rfl) (pe_ix ix_list (pe_lc (own := [("k", 6)]) (g := gName 6) (tt := _) (by rfl) nd (pi_list (pe_k (c__law_first T) hr (by decide) (by rfl) (pa_cons (pv 0) (pa_cons (pv 2) pa_nil))))
            (blkOk_by (own := [("k", 6)]) (N := ["field", "steps", "left", "found", "names", "spot", "k"]) (sc := defScope s__law_least) (by decide +kernel)) (fun _ _ _ _ _ => pg_name (i := 6) nd rfl (Or.inl rfl))
            (fun _ _ _ _ _ => pts_one (pt_cmpR op_eq (pe_ix (ixk_tup (K := K) rfl) (pe_ix (ixk_list (K := K) rfl) (pv 2) (pv 6) (fun _ _ => rfl)) pe_int (fun _ _ => rfl)) (pe_ix (ixk_list (K := K) rfl) (pv 4) pe_int (fun _ _ => rfl)) (by rfl))) (fun _ _ _ _ _ => pv 6)) pe_int (fun _ _ => rfl)))
        (pss_one (ps_expr (pe_bm PySem.F.plainAttrs_list PySem.F.slot_list_append PySem.F.type_list_append mt_append (pv 3) (pa_cons (pe_bm PySem.F.plainAttrs_list PySem.F.slot_list_pop PySem.F.type_list_pop mt_popAt (pv 2) (pa_cons (pv 5) pa_nil)) pa_nil)))))))
      (pss_one (ps_ret (pe_tupleOf (by rfl) T.b_tuple (pv 3))))), ?_⟩
    obtain ⟨_, vs0, e, hS0, hV0⟩ := hL.steps
    cases e
    refine ⟨_, rfl, _, rfl, a, p, vs0, l, rfl, hF, ok, hS0, hV0, hN, hZ, hl60, fun H1 D l1 s1 ⟨xs, eD, hX⟩ hD0 n1 z1 p1 a1 le1 => ⟨Nat.zero_le _, fun E hE => ⟨(show 2 ≤ sizeLine by decide), fun TT hT => ?_⟩⟩⟩
    have hEH : H E = none := fresh_of s1 hE
    have nDE : D ≠ E := ne_of_none eD hE
    have s2 : Same H (upd (upd H1 E (.lst [])) TT (.tup [.ref D, .ref E])) := (s1.trans (same_upd hE)).trans (same_upd hT)
    have s12 : Same H1 (upd (upd H1 E (.lst [])) TT (.tup [.ref D, .ref E])) := (same_upd hE).trans (same_upd hT)
    have eE2 := same_upd (o := .tup [.ref D, .ref E]) hT _ _ (show upd H1 E (.lst []) E = some (.lst []) from upd_same)
    have eT : SqT K (upd (upd H1 E (.lst [])) TT (.tup [.ref D, .ref E])) TT [.ref D, .ref E] := SqT.of upd_same
    have hX := DpAll.tk (Tk.of s12) _ (flat_all_steps l1) hX
    have eD := s12 _ _ eD
    generalize upd (upd H1 E (.lst [])) TT (.tup [.ref D, .ref E]) = H3 at s2 eE2 eT hX eD ⊢
    refine ⟨TT, _, rfl, eT, rfl, _, _, rfl, _, _, rfl, rfl, ?_⟩
    refine ⟨LeastInv K F H a p l, ⟨_, D, E, xs, [], l1, [], none, none, none, rfl, rfl, s2, eD, hX, hD0, eE2, .nil, hEH, nDE, XM.Srt.nil _, p1, (fun _ h => nomatch h), z1, a1, n1, by simp; omega⟩, ?_⟩
    clear hX eD eT eE2 s2 s12 nDE hEH hT TT hE hD0
    rintro m σ H2 ⟨D, E, xs, ys, ll, fl, y4, y5, y6, rfl, rfl, s2, eD, hX, hD0, eE, hY, hE0, nDE, I⟩
    have hlx := hX.len
    rw [List.length_map] at hlx
    have hly := hY.len
    rw [List.length_map] at hly
    have h60 := I.len
    refine ⟨_, rfl, Nat.zero_le _, fun p0 h0 => ?_⟩
    have t0 := same_upd (o := .lst []) h0
    refine ⟨.list (ll.map dStep), .list [], .lst (SqL.of (t0 _ _ eD)) (DpAll.tk (Tk.of t0) _ (flat_all_steps ll) hX), .lst (SqL.of upd_same) .nil, sh_steps (fun s hs => ok.sgn _ (I.nm s hs)), rfl, _, rfl, ?_⟩
    have s3 := s2.trans t0
    have eD := t0 _ _ eD
    have eE := t0 _ _ eE
    have hX := DpAll.tk (Tk.of t0) _ (flat_all_steps ll) hX
    have hY := DpAll.tk (Tk.of t0) _ (flat_all_steps fl) hY
    generalize upd H2 p0 (.lst []) = H3 at s3 eD eE hX hY ⊢
    rw [ne_steps]
    by_cases hne : ll = []
    · subst hne
      refine iteF ⟨_, rfl, .inl ⟨E, ys, rfl, SqL.of eE, fun r hr' => q _ r (same_new s3 hr') ?_⟩⟩
      rw [I.done]
      exact .tup (SqT.of upd_same) (DpAll.tk (Tk.of (same_upd hr')) _ (flat_all_steps fl) hY)
    · rw [show (!ll.isEmpty) = true by cases ll with | nil => exact absurd rfl hne | cons _ _ => rfl]
      refine iteT ⟨fun σ' H' => ∃ m', m' < ll.length ∧ LeastInv K F H a p l m' σ' H', fun _ _ h => h, ?_⟩
      have hlen0 := firsts_len (F := F) (l := ll) (n := ll.length)
      refine ⟨_, rfl, _, rfl, a, D, F, xs, ll, rfl, Dp.tk (Tk.of s3) _ (flat_field F) hF, ok, .inl (SqL.of eD), hX, I.nm, by omega, fun H4 r1 s4 e4 h4 => ⟨r1, rfl, ⟨_, SqL.of e4⟩, fun D2 hD2 => ?_⟩⟩
      refine lc_it (walk_list (xs := (firstsL F ll ll.length).map fun k => V.int (k : Nat))) (fun i H' => H' D2 = some (.lst ((((firstsL F ll ll.length).take i).map (nm1 ll)).map V.str)) ∧ Same H4 H') ⟨upd_same, same_upd hD2⟩ (fun _ _ _ ⟨_, s'⟩ => s'.seq (SqL.of e4)) (fun i x H5 H6 hi ⟨eD2, s'⟩ hy => ?_) (fun H5 ⟨eD2, s'⟩ => ?_)
      · obtain ⟨rfl, hx⟩ := hy
        obtain ⟨k, hk, rfl⟩ := nat_at hx
        obtain ⟨s, hs, _⟩ := firsts_at (List.mem_of_getElem? hk)
        obtain ⟨b, hb, cb⟩ := hX.step hs
        have s5 := s4.trans s'
        refine ⟨rfl, yes_ ⟨_, rfl, _, rfl, _, _, _, _, rfl, rfl, SqL.of (s5 _ _ eD), at_of (j := k) rfl hb, _, _, _, _, rfl, rfl, (Tk.of s5).sqT cb, rfl, _, eD2, ?_, ?_, same_put s' hD2⟩⟩
        · rw [List.length_map, List.length_map, List.length_take]
          exact small1000 (by omega)
        · rw [upd_same, take_snoc hk, List.map_append, List.map_append, List.map_singleton, List.map_singleton, nm1_of hs]
      · rw [List.length_map, List.take_length] at eD2
        refine ⟨D2, _, rfl, SqL.of eD2, by rw [List.length_map]; omega, fun zs pn hP hSo hpn => ?_⟩
        have s5 := (s4.trans s').trans (same_upd (o := .lst (zs.map V.str)) hpn)
        have en : upd H5 pn (.lst (zs.map V.str)) pn = some (.lst (zs.map V.str)) := upd_same
        generalize upd H5 pn (.lst (zs.map V.str)) = H6 at s5 en ⊢
        cases zs with
        | nil =>
          exact absurd (hP.symm.subset (List.mem_map.mpr ⟨0, firsts_some hne, rfl⟩)) (by simp)
        | cons y0 zs =>
          refine ⟨_, rfl, _, rfl, a, D, F, xs, ll, rfl, Dp.tk (Tk.of (s3.trans s5)) _ (flat_field F) hF, ok, .inl (SqL.of (s5 _ _ eD)), DpAll.tk (Tk.of s5) _ (flat_all_steps ll) hX, I.nm, by omega, fun H7 r2 s7 e7 h7 => ⟨r2, rfl, ⟨_, SqL.of e7⟩, fun D3 hD3 => ?_⟩⟩
          refine lc_it (walk_list (xs := (firstsL F ll ll.length).map fun k => V.int (k : Nat))) (fun i H' => H' D3 = some (.lst ((((firstsL F ll ll.length).take i).filter fun k => decide (nm1 ll k = y0)).map fun k => V.int (k : Nat))) ∧ Same H7 H') ⟨upd_same, same_upd hD3⟩ (fun _ _ _ ⟨_, s'⟩ => s'.seq (SqL.of e7)) (fun i x H8 H9 hi ⟨eD3, s8⟩ hy => ?_) (fun H8 ⟨eD3, s8⟩ => ?_)
          · obtain ⟨rfl, hx⟩ := hy
            obtain ⟨k, hk, rfl⟩ := nat_at hx
            obtain ⟨s, hs, _⟩ := firsts_at (List.mem_of_getElem? hk)
            obtain ⟨b, hb, cb⟩ := hX.step hs
            have s9 := s5.trans (s7.trans s8)
            refine ⟨rfl, _, rfl, _, rfl, _, _, _, _, rfl, rfl, SqL.of (s9 _ _ eD), at_of (j := k) rfl hb, _, _, _, _, rfl, rfl, (Tk.of s9).sqT cb, rfl, _, rfl, _, _, _, _, rfl, rfl, SqL.of ((s7.trans s8) _ _ en), at_of (j := 0) rfl rfl, rfl, _, rfl, ?_⟩
            rw [show decide (V.str s.1 = V.str y0) = decide (s.1 = y0) from decide_eq_decide.mpr ⟨fun h => V.str.inj h, fun h => congrArg _ h⟩]
            rw [take_snoc hk, List.filter_append, List.map_append]
            by_cases e : s.1 = y0
            · rw [decide_eq_true e]
              refine iteT ⟨_, rfl, _, eD3, ?_, ?_, same_put s8 hD3⟩
              · rw [List.length_map]
                refine small1000 (Nat.le_trans (List.length_filter_le _ _) ?_)
                rw [List.length_take]
                omega
              · rw [upd_same]
                simp [nm1_of hs, e]
            · rw [decide_eq_false e]
              refine iteF ⟨?_, s8⟩
              rw [eD3]
              simp [nm1_of hs, e]
          · rw [List.length_map, List.take_length] at eD3
            have hm : y0 ∈ (firstsL F ll ll.length).map (nm1 ll) := hP.subset List.mem_cons_self
            obtain ⟨k1, hk1, hk2⟩ := List.mem_map.mp hm
            have hmem : k1 ∈ (firstsL F ll ll.length).filter fun k => decide (nm1 ll k = y0) := List.mem_filter.mpr ⟨hk1, by simp [hk2]⟩
            cases hf : (firstsL F ll ll.length).filter fun k => decide (nm1 ll k = y0) with
            | nil =>
              rw [hf] at hmem
              cases hmem
            | cons k0 kr =>
              rw [hf] at eD3
              have hk0 : k0 ∈ (firstsL F ll ll.length).filter fun k => decide (nm1 ll k = y0) := by
                rw [hf]
                exact List.mem_cons_self
              obtain ⟨g1, g2⟩ := List.mem_filter.mp hk0
              obtain ⟨s, hs, hs1, hsp, hLF⟩ := least_first hP hSo g1 (of_decide_eq_true g2)
              obtain ⟨b, hb, cb⟩ := hX.step hs
              have hkl : k0 < ll.length := (List.getElem?_eq_some_iff.mp hs).1
              have s9 := s5.trans (s7.trans s8)
              have eD9 := s9 _ _ eD
              have eE9 := s9 _ _ eE
              have hX9 := DpAll.tk (Tk.of s9) _ (flat_all_steps ll) hX
              have hY9 := DpAll.tk (Tk.of s9) _ (flat_all_steps fl) hY
              have cb9 := (Tk.of s9).sqT cb
              have s10 := s3.trans s9
              have hkb : (k0 : Int) < 2 ^ 63 := by omega
              refine ⟨D3, _, 0, .int (k0 : Nat), rfl, rfl, SqL.of eD3, at_of (j := 0) rfl rfl, ?_⟩
              refine ⟨_, rfl, Or.inl ⟨rfl, _, SqL.of eE9⟩, _, rfl, Or.inl ⟨rfl, _, SqL.of eD9⟩, _, rfl, D, xs, (k0 : Int), k0, .ref b, rfl, rfl, eD9, by omega, hkb, (ixN_seq (ixN_of rfl (by omega))).1, hb, ?_⟩
              have eE10 : upd H8 D (.lst (xs.eraseIdx k0)) E = some (.lst ys) := by
                rw [upd_ne nDE.symm]
                exact eE9
              have k8 : Tk H8 (upd (upd H8 D (.lst (xs.eraseIdx k0))) E (.lst (ys ++ [.ref b]))) := (Tk.refl.lst eD9).lst eE10
              refine ⟨E, ys, .ref b, rfl, rfl, eE10, small1000 (by omega), ?_⟩
              have hdl : ll.eraseIdx k0 = ll.take k0 ++ ll.drop (k0 + 1) := List.eraseIdx_eq_take_drop_succ ..
              refine ⟨(ll.eraseIdx k0).length, ?_, D, E, xs.eraseIdx k0, ys ++ [.ref b], ll.eraseIdx k0, fl ++ [s], _, _, _, rfl, rfl, same_put (same_put s10 hD0) hE0, ?_, ?_, hD0, upd_same, ?_, hE0, nDE, ?_⟩
              · rw [List.length_eraseIdx, if_pos hkl]
                omega
              · rw [upd_ne nDE]
                exact upd_same
              · rw [map_er]
                refine DpAll.er k0 ?_
                exact DpAll.tk k8 _ (flat_all_steps ll) hX9
              · rw [List.map_append]
                exact (DpAll.tk k8 _ (flat_all_steps fl) hY9).app (.cons (Dp.of_step (k8.sqT cb9)) .nil)
              · rw [hdl]
                rw [hsp] at I
                exact I.step hLF
end
end XB
set_option Elab.async false
set_option linter.all false
set_option maxRecDepth 100000
set_option maxHeartbeats 4000000
/-! tuples of which it is known that they have no dict of their own: their methods may be called -/
namespace XB
open PySem PySem.Spec PyProof.Rows L2
def SqF (H : Hp) (a : Addr) (xs : List V) : Prop := ∃ o : Obj, H a = some (.frz o (.tup xs)) ∧ o.cls = .type "tuple" ∧ o.dict = none
theorem SqF.sqT {K : PySem.W.Frag} {H : Hp} {a : Addr} {xs : List V} (h : SqF H a xs) : SqT K H a xs := by
  obtain ⟨o, e, _⟩ := h
  exact .inl (.inr ⟨o, e⟩)
theorem SqF.same {H H' : Hp} {a : Addr} {xs : List V} (h : SqF H a xs) (s : Same H H') : SqF H' a xs := by
  obtain ⟨o, e, r⟩ := h
  exact ⟨o, s _ _ e, r⟩
theorem SqF.tk {H H' : Hp} {a : Addr} {xs : List V} (h : SqF H a xs) (t : Tk H H') : SqF H' a xs := by
  obtain ⟨o, e, r⟩ := h
  exact ⟨o, t.z _ _ _ e, r⟩
/-- the names of a field stand so -/
def FNm (K : PySem.W.Frag) (H : Hp) (f : Addr) (F : Fld) : Prop := ∃ n p, SqT K H f [.ref n, .ref p] ∧ SqF H n (F.names.map V.str)
theorem FNm.tk {K : PySem.W.Frag} {H H' : Hp} {f : Addr} {F : Fld} (h : FNm K H f F) (t : Tk H H') : FNm K H' f F := by
  obtain ⟨n, p, h1, h2⟩ := h
  exact ⟨n, p, t.sqT h1, h2.tk t⟩
/-- (e, ..): a new tuple without a dict of its own -/
def tTupF (t : TA) : TE := fun σ H Q => t σ H fun xs H1 => xs.length ≤ sizeLine ∧ ∀ p o, o.cls = .type "tuple" → o.dict = none → H1 p = none → Q (.ref p) (upd H1 p (.frz o (.tup xs)))
def rSlF (K : PySem.W.Frag) : V → Option Int → Option Int → Hp → VK → Prop := fun x lo hi H Q => ∃ a xs, x = .ref a ∧ SqF H a xs ∧ ∀ H' p, Same H H' → SqF H' p (cutV xs lo hi) → Q (.ref p) H'
section
variable {X : Cx} {es : List Expr} {t : TA} {pos : Pos}
theorem pe_tupF {x1} (h : PA X es t) : PE X (.Tuple es x1 pos) (tTupF t) := by
  refine ⟨fun pins s σ H Q I hq => ?_⟩
  refine wpAny_Tuple_spliced (thn (h.run pos pins s σ H _ I hq) fun us s1 ⟨xs, H1, I1, r, z, q⟩ => ⟨by rw [← r.length]; exact z, ?_⟩)
  have hf : H1 s1.heap.objs.size = none := I1.hok.fresh (Nat.le_refl _)
  refine ⟨.ref s1.heap.objs.size, upd H1 s1.heap.objs.size (.frz { cls := .type "tuple", data := .seq us.toArray } (.tup xs)), I1.laid (t' := s1.toks) (fun b u e => Heap.get?_push_of_some _ e) (Nat.le_refl _) ?_, rfl, q _ _ rfl rfl hf⟩
  exact ⟨Heap.get?_push_size _ rfl, z, us, r, ⟨_, Heap.get?_push_size _ rfl, rfl, _, rfl⟩⟩
theorem sl_tupF {K : PySem.W.Frag} (hk : X.K = K) : SlR X (rSlF K) := by
  subst hk
  intro pins s σ H x v vl vu lo hi sl Q I rx hs pl pu h
  obtain ⟨a, xs, rfl, hF, q⟩ := h
  have hx : SqT X.K H a xs := hF.sqT
  cases rx
  obtain ⟨its, r, ht, hz⟩ := I.tuple hx
  have hlen : its.toArray.size = xs.length := by rw [List.size_toArray]; exact r.length.symm
  refine ⟨"tuple", _, PyProof.Rows.slot_tuple_getitem.lookup, ht.typeIs, ?_⟩
  by_cases hw : HT.sIx xs.length 0 lo = 0 ∧ HT.sIx xs.length xs.length hi = xs.length
  · refine getItem_tuple_whole ht hs pl pu (by rw [hlen]; exact hw) ⟨.ref a, H, I, rfl, q H a (Same.refl _) ?_⟩
    have e : cutV xs lo hi = xs := by
      unfold cutV
      rw [hw.1, hw.2]
      simp
    rw [e]
    exact hF
  · refine HT.getItem_tuple_cut ht hs pl pu (by rw [hlen]; exact hw) ?_ (by rw [hlen]; exact hz)
    rw [hlen]
    have hf : H s.heap.objs.size = none := I.hok.fresh (Nat.le_refl _)
    refine ⟨.ref s.heap.objs.size, _, I.laid (t' := s.toks) (o := .frz { cls := .type "tuple", data := .seq ((its.drop (HT.sIx xs.length 0 lo)).take (HT.sIx xs.length xs.length hi - HT.sIx xs.length 0 lo)).toArray } (.tup (cutV xs lo hi))) (fun b ob q => Heap.get?_push_of_some _ q) (Nat.le_refl _) ?_, rfl, q _ _ (same_upd hf) ⟨_, upd_same, rfl, rfl⟩⟩
    exact ⟨Heap.get?_push_size _ rfl, Nat.le_trans (cutV_length xs lo hi) hz, _, (r.drop (HT.sIx xs.length 0 lo)).take (HT.sIx xs.length xs.length hi - HT.sIx xs.length 0 lo), IsTup.new _ _⟩
/-- o.m(e, ..) of such a tuple -/
def tBMF (r : V → List V → Hp → VK → Prop) (to : TE) (t : TA) : TE := fun σ H Q => to σ H fun x H1 => (∃ a xs, x = .ref a ∧ SqF H1 a xs) ∧ t σ H1 fun xs H2 => r x xs H2 Q
variable {o e : Expr} {to : TE} {name : Str} {apos cpos : Pos} {id : String} {r : V → List V → Hp → VK → Prop}
theorem pe_bmF (slot : Slot "tuple" name id) (hty : typeOf (.builtin id) = pure (.type "method_descriptor")) (hm : MtR X id r) (ho : PE X o to) (ha : PA X (e :: es) t)
    (hbase : attributeBase o name X.env (eval o X.env) = eval o X.env := by rfl)
    (hfew : ((backTo cpos (starEach (e :: es) X.env)).all (fun x => !x.1) && (backToKw cpos (keywordEach [] X.env)).all (fun x => x.1.isSome)
      && decide ((e :: es).length + ([] : List Keyword).length + (if ([] : List Keyword).isEmpty then 0 else 1) < 30)) = true := by rfl)
    (hline : (apos.endLine == cpos.line) = true := by rfl) (hs : starEach (e :: es) X.env = (false, eval e X.env) :: starEach es X.env := by rfl) (hplain : (backTo cpos (starEach es X.env)).any (·.1) = false := by rfl) :
    PE X (.Call (.Attribute o name apos) (e :: es) [] cpos) (tBMF r to t) := by
  refine ⟨fun pins s σ H Q I h => ?_⟩
  refine wpAny_Call_method_late hbase hfew hline rfl (thn (ho.run pins s σ H _ I h) fun v s1 ⟨x, H1, I1, r1, ty, q1⟩ => ?_)
  obtain ⟨a, xs, rfl, ob, hH, hc, hd⟩ := ty
  cases r1
  obtain ⟨hg, _⟩ := I1.hok a _ hH
  refine ⟨"tuple", id, PySem.F.plainAttrs_tuple, slot, hty, ⟨ob, hg, hc⟩, fun b e => ?_, ?_⟩
  · cases e
    exact ⟨ob, hg, hd⟩
  · have hA := ha.run cpos pins s1 σ H1 _ I1 q1
    rw [hs] at hA ⊢
    refine Calls.callWith_builtin (by show (false || (backTo cpos (starEach es X.env)).any (·.1)) = false; rw [hplain] <;> rfl) (Calls.evalArgs_plain ?_)
    exact thn hA fun us s2 ⟨vs, H2, I2, r2, q2⟩ => hm pins s2 σ H2 (.ref a) vs _ us Q I2 rfl r2 q2
end
end XB
set_option Elab.async false
set_option linter.all false
set_option maxRecDepth 100000
set_option maxHeartbeats 4000000
namespace XB
open PySem PySem.Spec PyProof.Rows L2
def NL : List Str := ["a", "b", "c", "dd", "e", "f"]
def nmN (i : Nat) : Str := (NL[i]?).getD ""
def fP (n i : Nat) : List (Str × Str) := ((NL.take n).drop (i + 1)).map fun o => (nmN i, o)
def PP (n k : Nat) : List (Str × Str) := (List.range k).flatMap (fP n)
def ltP (p q : Str × Str) : Bool := if p.1 == q.1 then (if p.2 == q.2 then false else sLt p.2 q.2) else sLt p.1 q.1
def pwB {α : Type} (r : α → α → Bool) : List α → Bool
  | [] => true
  | x :: l => l.all (r x) && pwB r l
theorem pw_of {α : Type} {r : α → α → Bool} : ∀ {l : List α}, pwB r l = true → l.Pairwise fun a b => r a b = true
  | [], _ => .nil
  | x :: l, h => by
    unfold pwB at h
    rw [Bool.and_eq_true, List.all_eq_true] at h
    exact .cons h.1 (pw_of h.2)
def goodB (n : Str) : Bool := decide (1 ≤ n.length) && decide (n.length ≤ 6) && n.cps.toList.all fun c => decide (97 ≤ c) && decide (c ≤ 122)
theorem good_of {n : Str} (h : goodB n = true) : GoodName n := by
  unfold goodB at h
  simp only [Bool.and_eq_true, decide_eq_true_eq, List.all_eq_true] at h
  exact ⟨h.1.1, h.1.2, h.2⟩
def okB (n : Nat) : Bool := (PP n n).all (fun p => sLt p.1 p.2 && (NL.take n).contains p.1 && (NL.take n).contains p.2) && pwB ltP (PP n n) && pwB sLt (NL.take n) && (NL.take n).all goodB && decide ((PP n n).length ≤ 100) && decide ((NL.take n).length = n)
theorem okB_all : okB 1 = true ∧ okB 2 = true ∧ okB 3 = true ∧ okB 4 = true ∧ okB 5 = true ∧ okB 6 = true := by decide +kernel
theorem okB_of {n : Nat} (h0 : 1 ≤ n) (h6 : n ≤ 6) : okB n = true := by
  obtain ⟨a, b, c, d, e, f⟩ := okB_all
  rcases n with _ | _ | _ | _ | _ | _ | _ | n
  · omega
  · exact a
  · exact b
  · exact c
  · exact d
  · exact e
  · exact f
  · omega
theorem fld_ok {n : Nat} {ps : List (Str × Str)} (h0 : 1 ≤ n) (h6 : n ≤ 6) (hs : ps.Sublist (PP n n)) : (Fld.mk (NL.take n) ps).Ok := by
  have h := okB_of h0 h6
  unfold okB at h
  simp only [Bool.and_eq_true, decide_eq_true_eq, List.all_eq_true] at h
  obtain ⟨⟨⟨⟨⟨a, b⟩, c⟩, d⟩, e⟩, f⟩ := h
  refine ⟨by show 0 < (NL.take n).length; omega, by show (NL.take n).length ≤ 6; omega, fun p hp => (a p (hs.subset hp)).1.1, fun p hp => ⟨?_, ?_⟩, fun x hx => good_of (d x hx), pw_of c, (pw_of b).sublist hs, Nat.le_trans hs.length_le e⟩
  · have := (a p (hs.subset hp)).1.2
    simpa using this
  · have := (a p (hs.subset hp)).2
    simpa using this
theorem Dr.tk {H H' : Hp} {m c g : Addr} {s : Int} (D : Dr H m c g s) (k : Kp m g H H') : Tk H H' := by
  obtain ⟨⟨cs, gs, em, ec, eg, _⟩, _⟩ := D
  exact ⟨fun b xs e => k b _ (ne_of e em fun q => nomatch q) (ne_of e eg fun q => nomatch q) e, fun b o u e => k b _ (ne_of e em fun q => nomatch q) (ne_of e eg fun q => nomatch q) e⟩
theorem Dr.nm {H : Hp} {m c g : Addr} {s : Int} (D : Dr H m c g s) {p : Addr} (h : H p = none) : p ≠ m ∧ p ≠ c ∧ p ≠ g := by
  obtain ⟨⟨cs, gs, em, ec, eg, _⟩, _⟩ := D
  exact ⟨fun e => (by rw [e, em] at h; cases h), fun e => (by rw [e, ec] at h; cases h), fun e => (by rw [e, eg] at h; cases h)⟩
theorem Dr.same {H H' : Hp} {m c g : Addr} {s : Int} (D : Dr H m c g s) (t : Same H H') : Dr H' m c g s := by
  obtain ⟨⟨cs, gs, em, ec, eg, r⟩, a, b⟩ := D
  exact ⟨⟨cs, gs, t _ _ em, t _ _ ec, t _ _ eg, r⟩, a, b⟩
theorem Dr.put {H : Hp} {m c g D : Addr} {s : Int} {o : HO} (R : Dr H m c g s) (h : D ≠ m ∧ D ≠ c ∧ D ≠ g) : Dr (upd H D o) m c g s := by
  obtain ⟨⟨cs, gs, em, ec, eg, r⟩, a, b⟩ := R
  exact ⟨⟨cs, gs, by rw [upd_ne h.1.symm]; exact em, by rw [upd_ne h.2.1.symm]; exact ec, by rw [upd_ne h.2.2.symm]; exact eg, r⟩, a, b⟩
theorem Kp.put {m g D : Addr} {H H1 : Hp} {o : HO} (k : Kp m g H H1) (h : H D = none) : Kp m g H (upd H1 D o) := fun b u h1 h2 e => by
  rw [upd_ne (ne_of_none e h)]
  exact k b u h1 h2 e
theorem sl_pre {K : PySem.W.Frag} {H : Hp} {a : Addr} {xs : List V} {k : Nat} {Q : VK} (h : SqT K H a xs) (q : ∀ H' p, Same H H' → SqT K H' p (xs.take k) → Q (.ref p) H') : rSlA K (.ref a) none (some (k : Int)) H Q := by
  refine ⟨a, xs, rfl, h, fun hw => q H a (Same.refl _) ?_, fun _ p hp => q _ p (same_upd hp) ?_⟩
  · rw [← cut_init, cut_whole hw]
    exact h
  · rw [← cut_init]
    exact SqT.of upd_same
theorem sl_suf {K : PySem.W.Frag} {H : Hp} {a : Addr} {xs : List V} {k : Nat} {Q : VK} (h : SqT K H a xs) (q : ∀ H' p, Same H H' → SqT K H' p (xs.drop k) → Q (.ref p) H') : rSlA K (.ref a) (some (k : Int)) none H Q := by
  refine ⟨a, xs, rfl, h, fun hw => q H a (Same.refl _) ?_, fun _ p hp => q _ p (same_upd hp) ?_⟩
  · rw [← cut_from, cut_whole hw]
    exact h
  · rw [← cut_from]
    exact SqT.of upd_same
theorem PP_succ (n k : Nat) : PP n (k + 1) = PP n k ++ fP n k := by
  unfold PP
  rw [List.range_succ, List.flatMap_append]
  simp
theorem nl_at {n k : Nat} (h6 : n ≤ 6) (h : k < n) : ((NL.take n).map V.str)[k]? = some (.str (nmN k)) := by
  have hl : k < NL.length := by show k < 6; omega
  rw [List.getElem?_map, List.getElem?_take, if_pos h, List.getElem?_eq_getElem hl]
  unfold nmN
  rw [List.getElem?_eq_getElem hl]
  rfl
theorem nl_len {n : Nat} (h6 : n ≤ 6) : (NL.take n).length = n := by
  rw [List.length_take]
  show min n 6 = n
  omega
/-- pairs in a list of their own -/
def RowP (K : PySem.W.Frag) (H : Hp) (D : Addr) (ps : List (Str × Str)) : Prop := ∃ xs, H D = some (.lst xs) ∧ DpAll K H xs (ps.map dPair)
theorem flat_pairs (ps : List (Str × Str)) : flatAll (ps.map dPair) = true := flatAll_of fun d hd => by
  obtain ⟨y, _, rfl⟩ := List.mem_map.mp hd
  rfl
def FieldInv (K : PySem.W.Frag) (H : Hp) (m c g tn D : Addr) (most ch s : Int) (n : Nat) (all : List (Str × Str)) (b : Nat) (y5 : Option V) : L2.St → Hp → Prop := fun σ H2 => ∃ (y6 : Option V) (s2 : Int) (ps : List (Str × Str)), σ = [some (.ref m), some (.int most), some (.ref tn), some (.ref D), some (.int ch), y5, y6] ∧
  Kp m g H H2 ∧ Dr H2 m c g s2 ∧ s2 ≤ s + 2 + (b : Int) ∧ SqF H2 tn ((NL.take n).map V.str) ∧ RowP K H2 D ps ∧ ps.Sublist all ∧ ps.length ≤ b
section
variable {P : Program} {w : World} {K : PySem.W.Frag} {mg : Str → Option Value} {base : Heap}
def spLawField (K : PySem.W.Frag) : Sp := fun vs H Q _ => ∃ (m c g : Addr) (s most : Int), vs = [.ref m, .int most] ∧ Dr H m c g s ∧ 1 ≤ most ∧ most ≤ 6 ∧ s < 1000000000 ∧
  ∀ H' f F s', Dr H' m c g s' → s' ≤ s + 40 → Kp m g H H' → Dp K H' (.ref f) (dField F) → F.Ok → FNm K H' f F → Q (.ref f) H'
theorem c__law_field (T : Tx K mg) : Cl P w K mg base CX0 3 "_law_field" (spLawField K) := by
  refine cl0 T.d__law_field (ps := ["m", "most"]) (fun _ _ _ _ _ _ us hl => match us, hl with | [_, _], _ => rfl) sc__law_field (fun vs H Q E h => ?_) (fun f cdv A outer st H vs Q E hr h => ?_)
  · obtain ⟨m, c, g, s, most, rfl, _⟩ := h
    rfl
  · obtain ⟨m, c, g, s, most, rfl, R, m1, m6, hs9, q⟩ := h
    have nd := sc__law_field.nd
    refine ⟨_, pss_cons (ps_par (i := 2) (j := 3) rfl nd rfl rfl (by decide) rfl rfl (pa_cons (pe_slice (sl_tupF (K := K) rfl) (pe_tupF (pa_cons pe_str (pa_cons pe_str (pa_cons pe_str (pa_cons pe_str (pa_cons pe_str (pa_cons pe_str pa_nil))))))) po_none (po_some (pe_op op_add pe_int (pe_k (c_draw T) hr (by decide) (by rfl) (pa_cons (pv 0) (pa_cons (pv 1) pa_nil)))))) (pa_cons (pe_lst pa_nil) pa_nil)) rfl)
      (pss_cons (ps_set (i := 4) nd rfl (.inl rfl) (pe_op op_add pe_int (pe_k (c_draw T) hr (by decide) (by rfl) (pa_cons (pv 0) (pa_cons pe_int pa_nil)))))
      (pss_cons (ps_for PassesOwn.never rfl (pi_range1 (by rfl) T.b_range (pa_cons (pe_lenS (by rfl) T.b_len (pv 2)) pa_nil)) (pg_name (i := 5) nd rfl (.inl rfl))
        (pss_one (ps_for PassesOwn.never rfl (pi_tup (pe_slice sl_tupA (pv 2) (po_some (pe_op op_add (pv 5) pe_int)) po_none)) (pg_name (i := 6) nd rfl (.inl rfl))
          (pss_one (ps_if (pt_cmpR op_lt (pe_k (c_draw T) hr (by decide) (by rfl) (pa_cons (pv 0) (pa_cons pe_int pa_nil))) (pv 4) (nomark _))
            (pss_one (ps_expr (pe_bm PySem.F.plainAttrs_list PySem.F.slot_list_append PySem.F.type_list_append mt_append (pv 3) (pa_cons (pe_tup (pa_cons (pe_ix ix_tup (pv 2) (pv 5) (fun _ _ => rfl)) (pa_cons (pv 6) pa_nil))) pa_nil)))) pss_nil)))))
      (pss_one (ps_ret (pe_tup (pa_cons (pv 2) (pa_cons (pe_tupleOf (by rfl) T.b_tuple (pv 3)) pa_nil))))))), ?_⟩
    refine ⟨(show 6 ≤ sizeLine by decide), fun t0 o0 hc0 hd0 ht0 => ?_⟩
    have s1 := same_upd (o := .frz o0 (.tup [.str "a", .str "b", .str "c", .str "dd", .str "e", .str "f"])) ht0
    have e1 : SqF (upd H t0 (.frz o0 (.tup [.str "a", .str "b", .str "c", .str "dd", .str "e", .str "f"]))) t0 (NL.map V.str) := ⟨o0, upd_same, hc0, hd0⟩
    generalize upd H t0 (.frz o0 (.tup [.str "a", .str "b", .str "c", .str "dd", .str "e", .str "f"])) = H1 at s1 e1 ⊢
    refine noPart ?_
    refine ⟨_, rfl, _, rfl, m, c, g, s, most, rfl, R.same s1, by omega, by omega, by omega, fun r H2 r0 r1 R2 k2 => ?_⟩
    obtain ⟨n, hn⟩ : ∃ n : Nat, 1 + r = (n : Int) := ⟨(1 + r).toNat, by omega⟩
    have n1 : 1 ≤ n := by omega
    have n6 : n ≤ 6 := by omega
    refine ⟨_, _, rfl, rfl, (n : Int), congrArg V.int hn, ?_⟩
    refine ⟨t0, _, rfl, e1.tk ((R.same s1).tk k2), fun H3 tn s3 hN => ⟨Nat.zero_le _, fun D hD => ⟨_, _, rfl, ?_⟩⟩⟩
    rw [cut_init, ← List.map_take] at hN
    have k3 : Kp m g H H3 := ((Kp.of s1).trans k2).trans (Kp.of s3)
    have R3 := R2.same s3
    have nD := R3.nm hD
    have hDH : H D = none := by
      cases e : H D with
      | none => rfl
      | some o =>
        rw [k3 _ _ nD.1 nD.2.2 e] at hD
        cases hD
    have k4 : Kp m g H (upd H3 D (.lst [])) := k3.put hDH
    have R4 := R3.put (o := .lst []) nD
    have hN4 := hN.tk (Tk.of (same_upd (o := .lst []) hD))
    have eD4 : upd H3 D (.lst []) D = some (.lst []) := upd_same
    generalize upd H3 D (.lst []) = H4 at k4 R4 hN4 eD4 ⊢
    refine ⟨_, rfl, m, c, g, s + 1, 3, rfl, R4, by omega, by omega, by omega, fun rc H5 c0 c1 R5 k5 => ⟨_, _, rfl, rfl, ?_⟩⟩
    have eD5 := k5 _ _ nD.1 nD.2.2 eD4
    have hN5 := hN4.tk (R4.tk k5)
    have k5 := k4.trans k5
    have hl : ((NL.take n).map V.str).length = n := by rw [List.length_map, nl_len n6]
    refine ⟨_, rfl, tn, _, rfl, .inr hN5.sqT, _, rfl, by rw [hl]; omega, by rw [hl]; omega, ?_⟩
    rw [hl]
    refine for_range (lo := 0) (n := n) (fun k σ H2 => ∃ y5, FieldInv K H m c g tn D most (1 + rc) s n (PP n k) (6 * k) y5 σ H2)
      ⟨none, none, s + 1 + 1, [], rfl, k5, R5, by omega, hN5, ⟨[], eD5, .nil⟩, List.nil_sublist _, Nat.zero_le _⟩ (fun k σ H6 hk ⟨y5, y6, s2, ps, eσ, k6, R6, hs6, hN6, ⟨xs, eD6, hX⟩, hsub, hpl⟩ => ?_) (fun σ H6 ⟨y5, y6, s2, ps, eσ, k6, R6, hs6, hN6, ⟨xs, eD6, hX⟩, hsub, hpl⟩ => ?_)
    · subst eσ
      rw [Int.zero_add]
      refine ⟨_, rfl, _, rfl, _, _, rfl, rfl, ((k + 1 : Nat) : Int), rfl, ?_⟩
      refine noPart ?_
      refine sl_suf hN6.sqT fun H7 u s7 hU => ⟨u, rfl, ⟨_, hU⟩, ?_⟩
      rw [← List.map_drop] at hU
      have hlu : (((NL.take n).drop (k + 1)).map V.str).length = n - (k + 1) := by rw [List.length_map, List.length_drop, nl_len n6]
      refine for_it (walk_tup (xs := ((NL.take n).drop (k + 1)).map V.str)) (fun j σ H2 => FieldInv K H m c g tn D most (1 + rc) s n (PP n k ++ (fP n k).take j) (6 * k + j) (some (.int (k : Nat))) σ H2 ∧ SqT K H2 u (((NL.take n).drop (k + 1)).map V.str))
        ⟨⟨y6, s2, ps, rfl, k6.trans (Kp.of s7), R6.same s7, by omega, hN6.tk (Tk.of s7), ⟨xs, s7 _ _ eD6, DpAll.tk (Tk.of s7) _ (flat_pairs ps) hX⟩, by simpa using hsub, by omega⟩, hU⟩ (fun j σ H2 _ h => h.2) (fun j x σ H8 H9 hj ⟨⟨y6, s2, ps, eσ, k8, R8, hs8, hN8, ⟨xs, eD8, hX⟩, hsub, hpl⟩, hU⟩ hy => ?_) (fun σ H8 ⟨⟨y6, s2, ps, eσ, k8, R8, hs8, hN8, ⟨xs, eD8, hX⟩, hsub, hpl⟩, hU⟩ => ?_)
      · obtain ⟨rfl, hx⟩ := hy
        subst eσ
        obtain ⟨o, ho, rfl⟩ := str_at hx
        rw [hlu] at hj
        refine ⟨_, rfl, m, c, g, s2, 4, rfl, R8, by omega, by omega, by omega, fun rr H10 q0 q1 R10 k10 => ?_⟩
        have t10 := R8.tk k10
        have eD10 := k10 _ _ nD.1 nD.2.2 eD8
        have hX10 := DpAll.tk t10 _ (flat_pairs ps) hX
        have hlx := hX.len
        rw [List.length_map] at hlx
        have ex : (fP n k).take (j + 1) = (fP n k).take j ++ [(nmN k, o)] := take_snoc (by unfold fP; rw [List.getElem?_map, ho]; rfl)
        refine ⟨_, rfl, _, _, rfl, rfl, _, rfl, ?_⟩
        cases decide (rr < 1 + rc)
        · refine iteF ⟨⟨_, s2 + 1, ps, rfl, k8.trans k10, R10, by omega, hN8.tk t10, ⟨xs, eD10, hX10⟩, ?_, by omega⟩, t10.sqT hU⟩
          rw [ex, ← List.append_assoc]
          exact hsub.trans (List.sublist_append_left _ _)
        · refine iteT ⟨_, rfl, Or.inl ⟨rfl, _, SqL.of eD10⟩, _, rfl, _, rfl, _, _, _, _, rfl, rfl, (hN8.tk t10).sqT, at_of (j := k) rfl (nl_at n6 hk), _, rfl, (show 2 ≤ sizeLine by decide), fun T hT => ?_⟩
          have sT := same_upd (o := .tup [.str (nmN k), .str o]) hT
          have eDT := sT _ _ eD10
          have tT : Tk H10 (upd (upd H10 T (.tup [.str (nmN k), .str o])) D (.lst (xs ++ [.ref T]))) := (Tk.of sT).lst eDT
          refine ⟨D, xs, .ref T, rfl, rfl, eDT, small1000 (by omega), ⟨⟨_, s2 + 1, ps ++ [(nmN k, o)], rfl, ((k8.trans k10).trans (Kp.of sT)).put hDH, (R10.same sT).put nD, by omega, (hN8.tk t10).tk tT, ⟨xs ++ [.ref T], upd_same, ?_⟩, ?_, ?_⟩, tT.sqT (t10.sqT hU)⟩⟩
          · rw [List.map_append]
            refine (DpAll.tk tT _ (flat_pairs ps) hX10).app (.cons (.tup ?_ (.cons (.str _) (.cons (.str _) .nil))) .nil)
            exact (Tk.refl.lst eDT).sqT (SqT.of upd_same)
          · rw [ex, ← List.append_assoc]
            exact hsub.append (List.Sublist.refl _)
          · rw [List.length_append]
            simp
            omega
      · subst eσ
        rw [hlu] at hsub hs8 hpl
        have hf : (fP n k).take (n - (k + 1)) = fP n k := List.take_of_length_le (by unfold fP; rw [List.length_map, List.length_drop, nl_len n6]; exact Nat.le_refl _)
        rw [hf, ← PP_succ] at hsub
        exact ⟨_, y6, s2, ps, rfl, k8, R8, by omega, hN8, ⟨xs, eD8, hX⟩, hsub, by omega⟩
    · subst eσ
      refine ⟨_, rfl, _, rfl, .inl ⟨D, xs, rfl, SqL.of eD6, fun u hu => ⟨(show 2 ≤ sizeLine by decide), fun fa hfa => ?_⟩⟩⟩
      have sA := same_upd (o := .tup xs) hu
      have sB := same_upd (o := .tup [.ref tn, .ref u]) hfa
      refine q _ fa ⟨NL.take n, ps⟩ s2 (R6.same (sA.trans sB)) (by omega) (k6.trans (Kp.of (sA.trans sB))) ?_ (fld_ok n1 n6 hsub) ⟨tn, u, SqT.of upd_same, hN6.tk (Tk.of (sA.trans sB))⟩
      refine .tup (SqT.of upd_same) (.cons (.tup (hN6.tk (Tk.of (sA.trans sB))).sqT (DpAll.strs _)) (.cons (.tup ((Tk.of sB).sqT (SqT.of upd_same)) (DpAll.tk (Tk.of (sA.trans sB)) _ (flat_pairs ps) hX)) .nil))
end
end XB
set_option Elab.async false
set_option linter.all false
set_option maxRecDepth 100000
set_option maxHeartbeats 4000000
namespace XB
open PySem PySem.Spec PyProof.Rows L2
def SL : List Int := [1, -1, 1, -1, 2, -2, 3, -3, 1, -1, 6, 10 ^ 30, -(10 ^ 30), 10 ^ 30 - 1]
theorem sl_good {i : Nat} {z : Int} (h : SL[i]? = some z) : GoodTimes z := by
  have : ∀ z ∈ SL, z ≠ 0 ∧ -(10 ^ 30) ≤ z ∧ z ≤ 10 ^ 30 := by decide +kernel
  exact this z (List.mem_of_getElem? h)
section
variable {P : Program} {w : World} {K : PySem.W.Frag} {mg : Str → Option Value} {base : Heap}
def spLawScript (K : PySem.W.Frag) : Sp := fun vs H Q _ => ∃ (m c g f : Addr) (s most : Int) (F : Fld), vs = [.ref m, .ref f, .int most] ∧ Dr H m c g s ∧ Dp K H (.ref f) (dField F) ∧ F.Ok ∧ 0 ≤ most ∧ most ≤ 60 ∧ s < 1000000000 ∧
  ∀ H' r l s', Dr H' m c g s' → s' ≤ s + 2 + 2 * most → Kp m g H H' → Dp K H' (.ref r) (dSteps l) → GoodScript F l → (l.length : Int) ≤ most → Q (.ref r) H'
def ScriptInv (K : PySem.W.Frag) (F : Fld) (H : Hp) (m c g f D S : Addr) (most many s : Int) (b : Nat) : L2.St → Hp → Prop := fun σ H2 => ∃ (y6 : Option V) (s2 : Int) (l : List (Str × Int)), σ = [some (.ref m), some (.ref f), some (.int most), some (.ref D), some (.ref S), some (.int many), y6] ∧
  Kp m g H H2 ∧ Dr H2 m c g s2 ∧ s2 ≤ s + 2 + 2 * (b : Int) ∧ Dp K H2 (.ref f) (dField F) ∧ H2 S = some (.lst (SL.map V.int)) ∧ Row1 K H2 D l ∧ (∀ x ∈ l, x.1 ∈ F.names ∧ GoodTimes x.2) ∧ l.length = b
theorem c__law_script (T : Tx K mg) : Cl P w K mg base CX0 3 "_law_script" (spLawScript K) := by
  refine cl0 T.d__law_script (ps := ["m", "field", "most"]) (fun _ _ _ _ _ _ us hl => match us, hl with | [_, _, _], _ => rfl) sc__law_script (fun vs H Q E h => ?_) (fun fa cdv A outer st H vs Q E hr h => ?_)
  · obtain ⟨m, c, g, f, s, most, F, rfl, _⟩ := h
    rfl
  · obtain ⟨m, c, g, f, s, most, F, rfl, R, hF, ok, m0, m60, hs9, q⟩ := h
    have nd := sc__law_script.nd
    refine ⟨_, pss_cons (ps_par (i := 3) (j := 4) rfl nd rfl rfl (by decide) rfl rfl (pa_cons (pe_lst pa_nil) (pa_cons (pe_lst (pa_cons pe_int (pa_cons (pe_un un_neg pe_int) (pa_cons pe_int (pa_cons (pe_un un_neg pe_int) (pa_cons pe_int (pa_cons (pe_un un_neg pe_int) (pa_cons pe_int (pa_cons (pe_un un_neg pe_int) (pa_cons pe_int (pa_cons (pe_un un_neg pe_int) (pa_cons pe_int
          (pa_cons (pe_op op_pow pe_int pe_int) (pa_cons (pe_un un_neg (pe_op op_pow pe_int pe_int)) (pa_cons (pe_op op_sub (pe_op op_pow pe_int pe_int) pe_int) pa_nil))))))))))))))) pa_nil)) rfl)
      (pss_cons (ps_set (i := 5) nd rfl (.inl rfl) (pe_op op_add pe_int (pe_op op_mul pe_int (pe_callTy call_int1 (by rfl) T.b_int (by decide +kernel) (pa_cons (pe_cmpR op_eq (pe_k (c_draw T) hr (by decide) (by rfl) (pa_cons (pv 0) (pa_cons pe_int pa_nil))) pe_int (nomark _)) pa_nil)))))
      (pss_cons (ps_for PassesOwn.never rfl (pi_range1 (by rfl) T.b_range (pa_cons (pe_k (c_draw T) hr (by decide) (by rfl) (pa_cons (pv 0) (pa_cons (pe_op op_add (pv 2) pe_int) pa_nil))) pa_nil)) (pg_name (i := 6) nd rfl (.inl rfl))
        (pss_one (ps_expr (pe_bm PySem.F.plainAttrs_list PySem.F.slot_list_append PySem.F.type_list_append mt_append (pv 3) (pa_cons (pe_tup (pa_cons
          (pe_ix ix_tup (pe_ix ix_tup (pv 1) pe_int (fun _ _ => rfl)) (pe_k (c_draw T) hr (by decide) (by rfl) (pa_cons (pv 0) (pa_cons (pe_lenS (by rfl) T.b_len (pe_ix ix_tup (pv 1) pe_int (fun _ _ => rfl))) pa_nil))) (fun _ _ => rfl))
          (pa_cons (pe_ix ix_list (pv 4) (pe_k (c_draw T) hr (by decide) (by rfl) (pa_cons (pv 0) (pa_cons (pv 5) pa_nil))) (fun _ _ => rfl)) pa_nil))) pa_nil)))))
      (pss_one (ps_ret (pe_tupleOf (by rfl) T.b_tuple (pv 3)))))), ?_⟩
    refine ⟨Nat.zero_le _, fun D hD0 => ?_⟩
    have C30 : CPow 10 30 := ⟨by decide, by decide, by decide⟩
    refine ⟨_, rfl, _, rfl, _, rfl, _, rfl, _, rfl, _, _, rfl, rfl, C30, _, _, rfl, rfl, C30, _, rfl, _, _, rfl, rfl, C30, _, _, rfl, rfl, (show 14 ≤ sizeLine by decide), fun S hS0 => ⟨_, _, rfl, ?_⟩⟩
    have sD := same_upd (o := .lst []) hD0
    have hSH : H S = none := fresh_of sD hS0
    have nDS : D ≠ S := ne_of_none upd_same hS0
    have eS : upd (upd H D (.lst [])) S (.lst (SL.map V.int)) S = some (.lst (SL.map V.int)) := upd_same
    have eD : upd (upd H D (.lst [])) S (.lst (SL.map V.int)) D = some (.lst []) := by
      rw [upd_ne nDS]
      exact upd_same
    have s1 : Same H (upd (upd H D (.lst [])) S (.lst (SL.map V.int))) := sD.trans (same_upd hS0)
    have nD := R.nm hD0
    have nS := R.nm hSH
    refine ⟨_, rfl, m, c, g, s, 6, rfl, R.same s1, by omega, by omega, by omega, fun r1 H4 _ _ R4 k4 => ?_⟩
    have eS4 : H4 S = some (.lst (SL.map V.int)) := k4 _ _ nS.1 nS.2.2 eS
    have eD4 : H4 D = some (.lst []) := k4 _ _ nD.1 nD.2.2 eD
    have hF4 : Dp K H4 (.ref f) (dField F) := Dp.tk ((Tk.of s1).trans ((R.same s1).tk k4)) _ (flat_field F) hF
    have k4 : Kp m g H H4 := (Kp.of s1).trans k4
    refine ⟨rfl, .inr ⟨_, rfl, _, _, rfl, rfl, .inl (by decide), _, _, rfl, rfl, ?_⟩⟩
    obtain ⟨many, hmany, hm⟩ : ∃ many : Int, 10 + 4 * (if decide (V.int r1 = V.int 0) = true then 1 else 0) = many ∧ (many = 10 ∨ many = 14) := by
      refine ⟨_, rfl, ?_⟩
      split
      · exact .inr rfl
      · exact .inl rfl
    show gName 5 (V.int (10 + 4 * (if decide (V.int r1 = V.int 0) = true then 1 else 0))) _ _ _
    rw [hmany]
    refine ⟨_, rfl, _, rfl, _, _, rfl, rfl, m, c, g, s + 1, most + 1, rfl, R4, by omega, by omega, by omega, fun cnt H5 c0 c1 R5 k5 => ?_⟩
    obtain ⟨nc, hnc⟩ : ∃ n : Nat, cnt = (n : Int) := ⟨cnt.toNat, by omega⟩
    subst hnc
    refine ⟨_, rfl, by omega, by omega, ?_⟩
    refine for_range (lo := 0) (n := nc) (fun i σ H2 => ScriptInv K F H m c g f D S most many s i σ H2)
      ⟨none, s + 1 + 1, [], rfl, k4.trans k5, R5, by omega, Dp.tk (R4.tk k5) _ (flat_field F) hF4, k5 _ _ nS.1 nS.2.2 eS4, ⟨[], k5 _ _ nD.1 nD.2.2 eD4, .nil⟩, (fun _ h => nomatch h), rfl⟩ (fun i σ H6 hi ⟨y6, s2, l, eσ, k6, R6, hs6, hF6, eS6, ⟨ys, eD6, hY⟩, hg, hlen⟩ => ?_) (fun σ H6 ⟨y6, s2, l, eσ, k6, R6, hs6, hF6, eS6, ⟨ys, eD6, hY⟩, hg, hlen⟩ => ?_)
    · subst eσ
      have hly := hY.len
      rw [List.length_map] at hly
      obtain ⟨_, n, p, ps, e, hA, hN, hP, hD⟩ := hF6.field
      cases e
      have hlN : (F.names.map V.str).length = F.names.length := List.length_map ..
      have f0 := ok.n0
      have f6 := ok.n6
      refine ⟨_, rfl, Or.inl ⟨rfl, _, SqL.of eD6⟩, ?_⟩
      refine ⟨_, rfl, _, _, _, _, rfl, rfl, hA, rfl, _, rfl, _, rfl, _, _, _, _, rfl, rfl, hA, rfl, n, _, rfl, .inr hN, m, c, g, s2, _, rfl, R6, by rw [hlN]; omega, by rw [hlN]; omega, by omega, fun r2 H7 r20 r21 R7 k7 => ?_⟩
      rw [hlN] at r21
      obtain ⟨a, ha⟩ : ∃ a : Nat, r2 = (a : Int) := ⟨r2.toNat, by omega⟩
      have hx : F.names[a]? = some F.names[a] := List.getElem?_eq_getElem (by omega)
      have hxm := List.mem_of_getElem? hx
      generalize F.names[a] = x at hx hxm
      have t7 := R6.tk k7
      refine ⟨_, _, _, .str x, rfl, rfl, t7.sqT hN, at_of ha (by rw [List.getElem?_map, hx]; rfl), ?_⟩
      refine ⟨_, rfl, _, rfl, _, rfl, m, c, g, s2 + 1, many, rfl, R7, by omega, by omega, by omega, fun r3 H8 r30 r31 R8 k8 => ?_⟩
      obtain ⟨b, hb⟩ : ∃ b : Nat, r3 = (b : Int) := ⟨r3.toNat, by omega⟩
      have hbl : b < SL.length := by
        show b < 14
        omega
      have hz : SL[b]? = some SL[b] := List.getElem?_eq_getElem hbl
      have hzg := sl_good hz
      generalize SL[b] = z at hz hzg
      have eS8 := k8 _ _ nS.1 nS.2.2 (k7 _ _ nS.1 nS.2.2 eS6)
      have eD8 := k8 _ _ nD.1 nD.2.2 (k7 _ _ nD.1 nD.2.2 eD6)
      have t8 := t7.trans (R7.tk k8)
      refine ⟨_, _, _, .int z, rfl, rfl, SqL.of eS8, at_of hb (by rw [List.getElem?_map, hz]; rfl), (show 2 ≤ sizeLine by decide), fun T hT => ?_⟩
      have sT := same_upd (o := .tup [.str x, .int z]) hT
      have eDT := sT _ _ eD8
      have nDS' : S ≠ D := nDS.symm
      have tT : Tk H8 (upd (upd H8 T (.tup [.str x, .int z])) D (.lst (ys ++ [.ref T]))) := (Tk.of sT).lst eDT
      refine ⟨D, ys, .ref T, rfl, rfl, eDT, small1000 (by omega), ?_⟩
      refine ⟨_, s2 + 1 + 1, l ++ [(x, z)], rfl, (((k6.trans k7).trans k8).trans (Kp.of sT)).put hD0, (R8.same sT).put nD, by omega, Dp.tk (t8.trans tT) _ (flat_field F) hF6, ?_, ⟨ys ++ [.ref T], upd_same, ?_⟩, fun y hy => ?_, by rw [List.length_append, hlen]; rfl⟩
      · rw [upd_ne nDS']
        exact sT _ _ eS8
      · rw [List.map_append]
        exact (DpAll.tk (t8.trans tT) _ (flat_all_steps l) hY).app (.cons (Dp.of_step (s := (x, z)) ((Tk.refl.lst eDT).sqT (SqT.of upd_same))) .nil)
      · rcases List.mem_append.mp hy with h | h
        · exact hg y h
        · rw [List.mem_singleton.mp h]
          exact ⟨hxm, hzg⟩
    · subst eσ
      refine ⟨_, rfl, .inl ⟨D, ys, rfl, SqL.of eD6, fun r hr' => ?_⟩⟩
      have sr := same_upd (o := .tup ys) hr'
      exact q _ r l s2 (R6.same sr) (by omega) (k6.trans (Kp.of sr)) (.tup (SqT.of upd_same) (DpAll.tk (Tk.of sr) _ (flat_all_steps l) hY)) ⟨by omega, hg⟩ (by omega)
end
end XB
set_option Elab.async false
set_option linter.all false
set_option maxRecDepth 100000
set_option maxHeartbeats 4000000
namespace XB
open PySem PySem.Spec PyProof.Rows L2
/-- what can be shown: how great it is -/
structure Sz (d : PyData) (n : Nat) : Prop where
  sh : d.showable = true
  nd : d.hasDict = false
  dp : d.depth ≤ 20
  lv : d.leavesShort 60 = true
  bk : d.bulk ≤ n
structure SzA (ds : List PyData) (n : Nat) : Prop where
  sh : PyData.showableAll ds = true
  nd : PyData.hasDictAll ds = false
  dp : PyData.depthAll ds ≤ 19
  lv : PyData.leavesShortAll 60 ds = true
  bk : PyData.bulkAll ds ≤ n
theorem Sz.fits {d : PyData} {n : Nat} (h : Sz d n) (hn : n ≤ 100000) : d.shown.length ≤ sizeLine := by
  have q := PyData.shown_le_bulk 60 (by decide) d h.lv
  have := h.bk
  rw [sizeLine_eq]
  omega
theorem SzA.nil : SzA [] 0 := ⟨rfl, rfl, by decide, rfl, Nat.le_refl _⟩
theorem SzA.cons {d : PyData} {ds : List PyData} {n k : Nat} (h : Sz d n) (hd : d.depth ≤ 19) (t : SzA ds k) : SzA (d :: ds) (n + 1 + k) := by
  refine ⟨?_, ?_, ?_, ?_, ?_⟩
  · rw [PyData.showableAll, h.sh, t.sh]
    rfl
  · rw [PyData.hasDictAll, h.nd, t.nd]
    rfl
  · rw [PyData.depthAll]
    have := t.dp
    omega
  · rw [PyData.leavesShortAll, h.lv, t.lv]
    rfl
  · rw [PyData.bulkAll]
    have := h.bk
    have := t.bk
    omega
theorem SzA.tup {ds : List PyData} {n : Nat} (h : SzA ds n) : Sz (.tuple ds) n := ⟨by rw [PyData.showable]; exact h.sh, by rw [PyData.hasDict]; exact h.nd, by rw [PyData.depth]; have := h.dp; omega, by rw [PyData.leavesShort]; exact h.lv, by rw [PyData.bulk]; exact h.bk⟩
theorem SzA.lst {ds : List PyData} {n : Nat} (h : SzA ds n) : Sz (.list ds) n := ⟨by rw [PyData.showable]; exact h.sh, by rw [PyData.hasDict]; exact h.nd, by rw [PyData.depth]; have := h.dp; omega, by rw [PyData.leavesShort]; exact h.lv, by rw [PyData.bulk]; exact h.bk⟩
theorem Sz.mono {d : PyData} {n k : Nat} (h : Sz d n) (e : n ≤ k) : Sz d k := ⟨h.sh, h.nd, h.dp, h.lv, Nat.le_trans h.bk e⟩
theorem sz_bool (b : Bool) : Sz (.bool b) 0 := ⟨rfl, rfl, by simp [PyData.depth], rfl, Nat.le_refl _⟩
theorem sz_int {z : Int} (h : z.natAbs < 10 ^ 50) : Sz (.int z) 0 := by
  refine ⟨decide_eq_true ?_, rfl, by simp [PyData.depth], decide_eq_true ?_, Nat.le_refl _⟩
  · by_cases h0 : z.natAbs = 0
    · rw [h0]
      decide
    · have : z.natAbs.log2 < 200 := (Nat.log2_lt h0).mpr (Nat.lt_of_lt_of_le h (by decide))
      omega
  · have e := int_text_length_le10 (k := 50) (by decide) h
    show (Str.ofString (toString z)).length ≤ 60
    rw [PySem.ofString_length]
    omega
theorem sz_str {n : Str} (h : GoodName n) : Sz (.str n) 6 := by
  refine ⟨rfl, rfl, by simp [PyData.depth], ?_, h.2.1⟩
  show (n.cps.toList.all fun c => decide (c < 16 ^ 8)) = true
  rw [List.all_eq_true]
  intro c hc
  have := h.2.2 c hc
  exact decide_eq_true (by omega)
theorem sz_step {s : Str × Int} (h : GoodName s.1) (g : s.2.natAbs < 10 ^ 50) : Sz (dStep s) 8 := (SzA.cons (sz_str h) (by simp [PyData.depth]) (SzA.cons (sz_int g) (by simp [PyData.depth]) SzA.nil)).tup.mono (by omega)
theorem sz_stepsA : ∀ {l : List (Str × Int)}, (∀ s ∈ l, GoodName s.1 ∧ s.2.natAbs < 10 ^ 50) → SzA (l.map dStep) (9 * l.length)
  | [], _ => SzA.nil
  | s :: l, h => by
    have t := sz_stepsA fun x hx => h x (List.mem_cons_of_mem _ hx)
    have hs := h s List.mem_cons_self
    have e : (dStep s).depth ≤ 19 := by
      show PyData.depth (.tuple [.str s.1, .int s.2]) ≤ 19
      simp [PyData.depth, PyData.depthAll]
    have q := SzA.cons (sz_step hs.1 hs.2) e t
    exact ⟨q.sh, q.nd, q.dp, q.lv, Nat.le_trans q.bk (by rw [List.length_cons]; omega)⟩
theorem sz_strsA : ∀ {l : List Str}, (∀ s ∈ l, GoodName s) → SzA (l.map .str) (7 * l.length)
  | [], _ => SzA.nil
  | s :: l, h => by
    have t := sz_strsA fun x hx => h x (List.mem_cons_of_mem _ hx)
    have q := SzA.cons (sz_str (h s List.mem_cons_self)) (by simp [PyData.depth]) t
    exact ⟨q.sh, q.nd, q.dp, q.lv, Nat.le_trans q.bk (by rw [List.length_cons]; omega)⟩
section
variable {P : Program} {w : World} {K : PySem.W.Frag} {mg : Str → Option Value} {base : Heap}
def spLike (K : PySem.W.Frag) : Sp := fun vs H Q _ => ∃ (u v : V) (d : PyData), vs = [u, v] ∧ Dp K H u d ∧ Dp K H v d ∧ Sz d 90000 ∧ Q (.bl true) H
theorem g__law_like (T : Tx K mg) : Cg P w K mg base CX0 1 "_law_like" (spLike K) := by
  refine cg0 T.d__law_like (ps := ["heard", "due"]) (fun _ _ _ _ _ _ us hl => match us, hl with | [_, _], _ => rfl) sc__law_like (fun vs H Q E h => ?_) (fun f cdv A outer st H vs Q E hgu hr h => ?_)
  · obtain ⟨u, v, d, rfl, _⟩ := h
    rfl
  · obtain ⟨u, v, d, rfl, h1, h2, z, q⟩ := h
    have hu : (A.deeper (envOfC "_law_like" (defScope s__law_like) st.heap.objs.size f cdv)).units + 70 < cLine := by
      have := hr.un
      omega
    refine ⟨_, pss_one (ps_ret (pe_cmpR op_eq (pe_callB (call_reprD hgu hu) (by rfl) T.b_repr (by decide +kernel) (pa_cons (pv 0) pa_nil)) (pe_callB (call_reprD hgu hu) (by rfl) T.b_repr (by decide +kernel) (pa_cons (pv 1) pa_nil)) (nomark _))), ?_⟩
    have dd := z.dp
    refine ⟨_, rfl, u, d, rfl, h1, z.sh, z.nd, by omega, z.fits (by decide), _, rfl, v, d, rfl, h2, z.sh, z.nd, by omega, z.fits (by decide), rfl, ?_⟩
    show Q (.bl (decide (V.str d.shown = V.str d.shown))) H
    rw [decide_eq_true rfl]
    exact q
end
end XB
set_option Elab.async false
set_option linter.all false
set_option maxRecDepth 100000
set_option maxHeartbeats 4000000
namespace XB
open PySem PySem.Spec PyProof.Rows L2
theorem firsts_frs {F : Fld} {l : List (Str × Int)} : ∀ n : Nat, n ≤ l.length → (firstsL F l n).map (nm1 l) = XM.frs (OF F) [] (l.take n)
  | 0, _ => rfl
  | n + 1, h => by
    have ih := firsts_frs (F := F) n (Nat.le_of_succ_le h)
    have hs : l[n]? = some l[n] := List.getElem?_eq_getElem h
    generalize l[n] = s at hs
    rw [firsts_snoc, List.map_append, ih, take_snoc hs, XM.frs_snoc, List.nil_append]
    congr 1
    have e : free1 F l n = (l.take n).all fun w => !(OF F).tc w.1 s.1 := by
      unfold free1
      rw [hs]
    rw [e]
    cases (l.take n).all fun w => !(OF F).tc w.1 s.1
    · rfl
    · rw [if_pos rfl, if_pos rfl, List.map_singleton, nm1_of hs]
theorem srt_unique : ∀ {zs ys : List Str}, zs.Perm ys → sortedS zs = true → sortedS ys = true → zs = ys
  | [], ys, p, _, _ => (List.Perm.nil_eq p)
  | z :: zs, [], p, _, _ => by
    have := p.length_eq
    simp at this
  | z :: zs, y :: ys, p, h1, h2 => by
    have m1 : y ∈ z :: zs := p.symm.subset List.mem_cons_self
    have m2 : z ∈ y :: ys := p.subset List.mem_cons_self
    have a1 := sorted_head h1 y m1
    have a2 := sorted_head h2 z m2
    have e : z = y := by
      by_cases e : z = y
      · exact e
      · have := sLt_tot z y e a2
        rw [a1] at this
        cases this
    subst e
    have t : ∀ {x : Str} {l : List Str}, sortedS (x :: l) = true → sortedS l = true := fun {x l} h => by
      cases l with
      | nil => rfl
      | cons y r =>
        have h : risingS x (y :: r) = true := h
        unfold risingS at h
        rw [Bool.and_eq_true] at h
        exact h.2
    rw [srt_unique (p.cons_inv) (t h1) (t h2)]
theorem srt_same {ns ms zs ys : List Str} (h1 : SrtOf ns zs) (h2 : SrtOf ms ys) (h : ns.Perm ms) : zs = ys := srt_unique (h1.1.trans (h.trans h2.1.symm)) h1.2 h2.2
theorem ins_bound {F : Fld} {x : Str × Int} {b c : Nat} (hx : x.2.natAbs ≤ c) : ∀ {r : List (Str × Int)}, (∀ y ∈ r, y.2.natAbs ≤ b) → ∀ y ∈ XM.ins (OF F) x r, y.2.natAbs ≤ b + c
  | [], _ => fun y hy => by
    have hy : y ∈ [x] := hy
    rw [List.mem_singleton.mp hy]
    omega
  | z :: r, h => by
    have ih := ins_bound (F := F) hx (r := r) fun y hy => h y (List.mem_cons_of_mem _ hy)
    have hz := h z List.mem_cons_self
    have h0 : ∀ y ∈ r, y.2.natAbs ≤ b + c := fun y hy => by
      have := h y (List.mem_cons_of_mem _ hy)
      omega
    have k : ∀ {a : Str × Int} {l : List (Str × Int)}, a.2.natAbs ≤ b + c → (∀ y ∈ l, y.2.natAbs ≤ b + c) → ∀ y ∈ a :: l, y.2.natAbs ≤ b + c := fun {a l} ha hl y hy => by
      rcases List.mem_cons.mp hy with rfl | hy
      · exact ha
      · exact hl y hy
    unfold XM.ins
    by_cases e1 : z.1 = x.1
    · rw [if_pos e1]
      by_cases e2 : z.2 + x.2 = 0
      · rw [if_pos e2]
        exact h0
      · rw [if_neg e2]
        exact k (by show (z.2 + x.2).natAbs ≤ b + c; omega) h0
    · rw [if_neg e1]
      by_cases e2 : (OF F).tc z.1 x.1 = true
      · rw [if_pos e2]
        exact k (by omega) (k (by omega) h0)
      · rw [if_neg e2]
        by_cases e3 : ((OF F).lt z.1 x.1 && XM.top (OF F) x.1 r) = true
        · rw [if_pos e3]
          exact k (by omega) (k (by omega) h0)
        · rw [if_neg e3]
          exact k (by omega) ih
theorem act_bound {F : Fld} {c : Nat} : ∀ {l r : List (Str × Int)} {b : Nat}, (∀ y ∈ l, y.2.natAbs ≤ c) → (∀ y ∈ r, y.2.natAbs ≤ b) → ∀ y ∈ XM.act (OF F) l r, y.2.natAbs ≤ b + l.length * c
  | [], r, b, _, h => fun y hy => by
    have := h y hy
    omega
  | x :: l, r, b, hl, h => fun y hy => by
    rw [XM.act_cons] at hy
    have := act_bound (F := F) (b := b + c) (fun z hz => hl z (List.mem_cons_of_mem _ hz)) (ins_bound (hl x List.mem_cons_self) h) y hy
    rw [List.length_cons, Nat.succ_mul]
    omega
theorem len_bound {c : Nat} : ∀ {l : List (Str × Int)}, (∀ y ∈ l, y.2.natAbs ≤ c) → (lenOf l).natAbs ≤ l.length * c
  | [], _ => by
    show (0 : Int).natAbs ≤ _
    omega
  | x :: l, h => by
    have t := len_bound (l := l) fun y hy => h y (List.mem_cons_of_mem _ hy)
    have hx := h x List.mem_cons_self
    have e : lenOf (x :: l) = (if x.2 < 0 then -x.2 else x.2) + lenOf l := by
      unfold lenOf
      rw [List.map_cons, List.sum_cons]
    rw [e, List.length_cons, Nat.succ_mul]
    split <;> omega
/-- the data of a good script's pile -/
structure PileD (F : Fld) (A : List (Str × Int)) : Prop where
  nm : Names F A
  ln : A.length ≤ 60
  bd : ∀ y ∈ A, y.2.natAbs < 10 ^ 40
theorem times_c {t : Int} (g : GoodTimes t) : t.natAbs ≤ 10 ^ 30 := by
  obtain ⟨_, a, b⟩ := g
  omega
theorem pileD {F : Fld} {l : List (Str × Int)} (hN : Names F l) (h60 : l.length ≤ 60) (hb : ∀ y ∈ l, y.2.natAbs ≤ 10 ^ 30) : PileD F (XM.act (OF F) l []).reverse := by
  refine ⟨names_rev (names_act hN (fun _ h => nomatch h)), ?_, fun y hy => ?_⟩
  · rw [List.length_reverse]
    exact Nat.le_trans act_len0 h60
  · have := act_bound (F := F) (r := []) (b := 0) hb (fun _ h => nomatch h) y (List.mem_reverse.mp hy)
    have h2 : l.length * 10 ^ 30 ≤ 60 * 10 ^ 30 := Nat.mul_le_mul_right _ h60
    exact Nat.lt_of_le_of_lt this (Nat.lt_of_le_of_lt (by omega) (show 60 * 10 ^ 30 < 10 ^ 40 by decide))
theorem PileD.szA {F : Fld} (ok : F.Ok) {A : List (Str × Int)} (h : PileD F A) : Sz (dSteps A) 540 := (sz_stepsA fun s hs => ⟨ok.sgn _ (h.nm s hs), Nat.lt_trans (h.bd s hs) (by decide)⟩).tup.mono (by have := h.ln; omega)
theorem PileD.szL {F : Fld} {A : List (Str × Int)} (h : PileD F A) : Sz (.int (lenOf A)) 0 := by
  refine sz_int (Nat.lt_of_le_of_lt (len_bound (c := 10 ^ 40) fun y hy => Nat.le_of_lt (h.bd y hy)) ?_)
  have : A.length * 10 ^ 40 ≤ 60 * 10 ^ 40 := Nat.mul_le_mul_right _ h.ln
  exact Nat.lt_of_le_of_lt this (by decide)
theorem frs_mem {F : Fld} : ∀ {l bar : List (Str × Int)} {n : Str}, n ∈ XM.frs (OF F) bar l → ∃ s ∈ l, s.1 = n
  | [], _, _, h => by cases h
  | x :: l, bar, n, h => by
    unfold XM.frs at h
    split at h
    · rcases List.mem_cons.mp h with rfl | h
      · exact ⟨x, List.mem_cons_self, rfl⟩
      · obtain ⟨s, hs, e⟩ := frs_mem h
        exact ⟨s, List.mem_cons_of_mem _ hs, e⟩
    · obtain ⟨s, hs, e⟩ := frs_mem h
      exact ⟨s, List.mem_cons_of_mem _ hs, e⟩
theorem sz_names {F : Fld} (ok : F.Ok) {A : List (Str × Int)} (hn : Names F A) (h60 : A.length ≤ 60) {zs : List Str} (h : SrtOf (XM.frs (OF F) [] A) zs) : Sz (dNames zs) 420 := by
  refine (sz_strsA fun s hs => ?_).tup.mono ?_
  · obtain ⟨x, hx, rfl⟩ := frs_mem (h.1.subset hs)
    exact ok.sgn _ (hn x hx)
  · have e := h.1.length_eq
    have := frs_len (F := F) (l := A) (bar := [])
    omega
theorem deep_dsteps (A : List (Str × Int)) : (dSteps A).depth ≤ 19 := by
  have := deep_steps A
  show PyData.depth (.tuple _) ≤ 19
  rw [PyData.depth]
  omega
theorem deep_strs : ∀ zs : List Str, PyData.depthAll (zs.map .str) ≤ 1
  | [] => by decide
  | z :: zs => by
    have := deep_strs zs
    rw [List.map_cons, PyData.depthAll]
    have e : (PyData.str z).depth = 0 := by simp [PyData.depth]
    omega
theorem deep_dnames (zs : List Str) : (dNames zs).depth ≤ 19 := by
  have := deep_strs zs
  show PyData.depth (.tuple _) ≤ 19
  rw [PyData.depth]
  omega
end XB
set_option Elab.async false
set_option linter.all false
set_option maxRecDepth 100000
set_option maxHeartbeats 8000000
namespace XB
open PySem PySem.Spec PyProof.Rows L2
section
variable {P : Program} {w : World} {K : PySem.W.Frag} {mg : Str → Option Value} {base : Heap}
theorem fg0 {x : Str} {st : Stmt} {N ps : List Str} {k : Nat} {sp : Sp} {fl : Addr} {fd : FuncData} (F : Fun K x x st fl fd) (S : FnScope N ps (defScope st)) (len : ∀ vs H Q E, sp vs H Q E → vs.length = ps.length)
    (body : ∀ (f : Addr) (cdv : Value) (A : Around) (outer : List Env) (s : Shared) (H : Hp) (vs : List V) (Q : VK) (E : XK), (A.deeper (envOfC x (defScope st) s.heap.objs.size f cdv)).guards = some [] → Room k (A.deeper (envOfC x (defScope st) s.heap.objs.size f cdv)) → sp vs H Q E →
      ∃ t, PSs (cxOf CX0 P w K mg base N x (defScope st) f cdv A outer s H E).nox (defBody st) t ∧ t { nx := fun _ H' => Q .non H', rt := Q } (start N vs) H) : FnG P w K mg base CX0 (k + 1) fl fd ps sp := by
  obtain ⟨oc, od, kV, doc, pm, an, cdv, ct, osl, rfl, lk, hcd⟩ := id F.ex
  refine fng_of lk hcd S len fun A outer s H vs Q E hg hr h => ?_
  obtain ⟨t, ht, q⟩ := body fl cdv A outer s H vs Q E hg hr h
  exact ⟨t, ht.nox, q⟩
end
section
variable {X : Cx} {k j : Nat} {x : Str} {sp : Fld → Sp} {p pos : Pos} {e : Expr} {es : List Expr} {t : TA}
/-- a def's promises for each field -/
theorem pe_gF (c : ∀ F, Cg X.prog X.w X.K X.mg X.base CX0 k x (sp F)) (hgu : X.A.guards = some []) (hr : Room j X.A) (hk : k ≤ j) (hg : Gl X x) (ha : PA X (e :: es) t)
    (hdb : (x == ("__debug__" : Str)) = false := by decide) (he : starEach (e :: es) X.env = (false, eval e X.env) :: starEach es X.env := by rfl) (hpl : (backTo pos (starEach es X.env)).any (·.1) = false := by rfl) :
    PE X (.Call (.Name x p) (e :: es) [] pos) (tCall (fun vs H Q E => ∃ F, sp F vs H Q E) [] E0 t) := by
  obtain ⟨f, _, _, _, hm, kp, _⟩ := (c ⟨[], []⟩).ex
  constructor
  intro pins s σ H Q I h
  refine wpAny_Call_Name_kw (ld_glob I hg hm ?_ hdb)
  refine PySem.W.callWith_K (h₀ := X.base) I.ok.mod.kin kp (thn (ha.run pos pins s σ H _ I h) ?_) he hpl
  rintro us s1 ⟨vs, H1, I1, r, G, q⟩
  obtain ⟨f', fd, ps, F, hm', _, b⟩ := (c G).ex
  have ef : f = f' := Value.ref.inj (Option.some.inj (hm.symm.trans hm'))
  subst ef
  have q' : sp G vs H1 Q E0 := by
    rw [List.append_nil] at q
    exact q
  have hl : us.length = ps.length := by
    rw [← r.length]
    exact F.many _ _ _ _ q'
  have bb := b s1 us I1.kIn (by rw [List.append_nil]; exact hl)
  rw [List.append_nil] at bb
  refine ⟨I1.kIn, wpAny_call (codeAny_mono (F.goes (outer := X.stack) (Q := Q) (E := E0) hgu (hr.mono hk) I1.env0 bb r q') ?_)⟩
  rintro (er | fl) s' hq
  · exact hq.elim
  · rcases fl with u | _ | _ | _ <;> first
      | exact I1.after hq
      | exact False.elim hq
end
section
variable {P : Program} {w : World} {K : PySem.W.Frag} {mg : Str → Option Value} {base : Heap}
def spLaw (K : PySem.W.Frag) : Sp := fun vs H Q _ => ∃ (a : Addr) (ns : List Int), vs = [.ref a] ∧ SqL K H a (ns.map V.int) ∧ ns.length ≤ 1000 ∧ ∀ H', Q (.bl true) H'
theorem sp_law_len {vs : List V} {H : Hp} {Q : VK} {E : XK} (h : spLaw K vs H Q E) : vs.length = ["script"].length := by
  obtain ⟨a, ns, rfl, _⟩ := h
  rfl
theorem same_t {H H1 H2 : Hp} (a : Same H H1) (b : Same H1 H2) : Same H H2 := a.trans b
theorem tS {K : PySem.W.Frag} {H H' : Hp} {v : V} {l : List (Str × Int)} (h : Dp K H v (dSteps l)) (s : Same H H') : Dp K H' v (dSteps l) := Dp.tk (Tk.of s) _ (flat_steps l) h
theorem tF {K : PySem.W.Frag} {H H' : Hp} {v : V} {F : Fld} (h : Dp K H v (dField F)) (s : Same H H') : Dp K H' v (dField F) := Dp.tk (Tk.of s) _ (flat_field F) h
theorem tN {K : PySem.W.Frag} {H H' : Hp} {v : V} {l : List Str} (h : Dp K H v (dNames l)) (s : Same H H') : Dp K H' v (dNames l) := Dp.tk (Tk.of s) _ (flat_names l) h
theorem dpN {K : PySem.W.Frag} {H : Hp} {a : Addr} {l : List Str} (h : SqT K H a (l.map V.str)) : Dp K H (.ref a) (dNames l) := .tup h (DpAll.strs l)
end
end XB
set_option Elab.async false
set_option linter.all false
set_option maxRecDepth 100000
set_option maxHeartbeats 4000000
namespace XB
open PySem PySem.Spec PyProof.Rows L2
theorem sh_dsteps {l : List (Str × Int)} (h : ∀ s ∈ l, GoodName s.1) : SeqAt.shaped (dSteps l) = true := by
  have h2 := deep_steps l
  show (PyData.canLayAll0 (l.map dStep) && decide (PyData.depthAll (l.map dStep) + 1 ≤ 64)) = true
  rw [lay_steps h, Bool.true_and]
  exact decide_eq_true (by omega)
theorem eqv_step (s t : Str × Int) : PyData.eqv (dStep s) (dStep t) = decide (s = t) := by
  obtain ⟨a, i⟩ := s
  obtain ⟨b, j⟩ := t
  show (PyData.eqv (.str a) (.str b) && (PyData.eqv (.int i) (.int j) && true)) = _
  rw [Bool.and_true]
  show ((a == b) && (i == j)) = _
  by_cases h1 : a = b
  · by_cases h2 : i = j
    · simp [h1, h2]
    · simp [h2]
  · simp [h1]
theorem eqv_all_steps : ∀ l m : List (Str × Int), PyData.eqvAll (l.map dStep) (m.map dStep) = decide (l = m)
  | [], [] => rfl
  | [], b :: m => rfl
  | a :: l, [] => rfl
  | a :: l, b :: m => by
    rw [List.map_cons, List.map_cons, PyData.eqvAll, eqv_step, eqv_all_steps l m]
    by_cases h1 : a = b
    · by_cases h2 : l = m
      · simp [h1, h2]
      · simp [h2]
    · simp [h1]
theorem eqv_steps (l m : List (Str × Int)) : PyData.eqv (dSteps l) (dSteps m) = decide (l = m) := by
  show PyData.eqv (.tuple (l.map dStep)) (.tuple (m.map dStep)) = _
  rw [PyData.eqv]
  exact eqv_all_steps l m
theorem good_pile {F : Fld} (ok : F.Ok) {l : List (Str × Int)} (hN : Names F l) : ∀ s ∈ (XM.act (OF F) l []).reverse, GoodName s.1 := fun s hs => ok.sgn _ (names_act (r := []) hN (fun _ h => (nomatch h)) s (List.mem_reverse.mp hs))
/-- a row of a yard, and the yard -/
def GoodAll (F : Fld) (l : List (Str × Int)) : Prop := ∀ x ∈ l, x.1 ∈ F.names ∧ GoodTimes x.2
theorem GoodAll.nz {F : Fld} {l : List (Str × Int)} (h : GoodAll F l) : XM.NZ l := fun x hx => (h x hx).2.1
theorem GoodAll.names {F : Fld} {l : List (Str × Int)} (h : GoodAll F l) : Names F l := fun x hx => (h x hx).1
theorem GoodAll.app {F : Fld} {l m : List (Str × Int)} (h : GoodAll F l) (g : GoodAll F m) : GoodAll F (l ++ m) := fun x hx => (List.mem_append.mp hx).elim (h x) (g x)
theorem GoodAll.take {F : Fld} {l : List (Str × Int)} (h : GoodAll F l) (k : Nat) : GoodAll F (l.take k) := fun x hx => h x (List.mem_of_mem_take hx)
theorem GoodAll.drop {F : Fld} {l : List (Str × Int)} (h : GoodAll F l) (k : Nat) : GoodAll F (l.drop k) := fun x hx => h x (List.mem_of_mem_drop hx)
theorem GoodAll.one {F : Fld} {x : Str × Int} (h : x.1 ∈ F.names ∧ GoodTimes x.2) : GoodAll F [x] := fun y hy => by
  rw [List.mem_singleton.mp hy]
  exact h
/-- the same to every pile -/
theorem good_neg {t : Int} (h : GoodTimes t) : GoodTimes (-t) := by
  obtain ⟨a, b, c⟩ := h
  exact ⟨by omega, by omega, by omega⟩
theorem good_back {F : Fld} {l : List (Str × Int)} (h : GoodAll F l) : GoodAll F (XM.back l) := fun s hs => by
  unfold XM.back at hs
  obtain ⟨x, hx, rfl⟩ := List.mem_map.mp (List.mem_reverse.mp hs)
  exact ⟨(h x hx).1, good_neg (h x hx).2⟩
theorem len_back {l : List (Str × Int)} : (XM.back l).length = l.length := by
  unfold XM.back
  rw [List.length_reverse, List.length_map]
section
variable {K : PySem.W.Frag}
theorem slTo {H : Hp} {a : Addr} {l : List (Str × Int)} {k : Nat} {Q : VK} (h : Dp K H (.ref a) (dSteps l)) (q : ∀ H' p, Same H H' → Dp K H' (.ref p) (dSteps (l.take k)) → Q (.ref p) H') : rSlA K (.ref a) none (some (k : Int)) H Q := by
  obtain ⟨_, xs, e, hS, hV⟩ := h.steps
  cases e
  have hl := hV.len
  rw [List.length_map] at hl
  have e2 : HT.sIx xs.length xs.length (some (k : Int)) = min k xs.length := HT.sIx_nat xs.length xs.length k
  refine ⟨a, xs, rfl, hS, fun hw => ?_, fun _ p hp => ?_⟩
  · rw [e2] at hw
    have : l.take k = l := List.take_of_length_le (by omega)
    refine q _ _ (Same.refl _) ?_
    rw [this]
    exact h
  · refine q _ p (same_upd hp) (.tup (SqT.of upd_same) ?_)
    rw [cut_init, List.map_take]
    exact (DpAll.tk (Tk.of (same_upd hp)) _ (flat_all_steps l) hV).take k
theorem slFrom {H : Hp} {a : Addr} {l : List (Str × Int)} {k : Nat} {Q : VK} (h : Dp K H (.ref a) (dSteps l)) (q : ∀ H' p, Same H H' → Dp K H' (.ref p) (dSteps (l.drop k)) → Q (.ref p) H') : rSlA K (.ref a) (some (k : Int)) none H Q := by
  obtain ⟨_, xs, e, hS, hV⟩ := h.steps
  cases e
  have hl := hV.len
  rw [List.length_map] at hl
  have e2 : HT.sIx xs.length 0 (some (k : Int)) = min k xs.length := HT.sIx_nat xs.length 0 k
  refine ⟨a, xs, rfl, hS, fun hw => ?_, fun _ p hp => ?_⟩
  · rw [e2] at hw
    refine q _ _ (Same.refl _) ?_
    rcases Nat.eq_zero_or_pos k with h0 | h0
    · rw [h0, List.drop_zero]
      exact h
    · have : l = [] := List.length_eq_zero_iff.mp (by omega)
      rw [this] at h ⊢
      rw [List.drop_nil]
      exact h
  · refine q _ p (same_upd hp) (.tup (SqT.of upd_same) ?_)
    rw [cut_from, List.map_drop]
    exact (DpAll.tk (Tk.of (same_upd hp)) _ (flat_all_steps l) hV).drop k
theorem catD {H : Hp} {a b : Addr} {l m : List (Str × Int)} {Q : VK} (h1 : Dp K H (.ref a) (dSteps l)) (h2 : Dp K H (.ref b) (dSteps m)) (hl : l.length + m.length ≤ 500) (q : ∀ H' p, Same H H' → Dp K H' (.ref p) (dSteps (l ++ m)) → Q (.ref p) H') : rCatA K (.ref a) (.ref b) H Q := by
  obtain ⟨_, xs, e, hS, hV⟩ := h1.steps
  cases e
  obtain ⟨_, ys, e, hS2, hV2⟩ := h2.steps
  cases e
  have l1 := hV.len
  have l2 := hV2.len
  rw [List.length_map] at l1 l2
  refine catA hS hS2 (Nat.le_of_lt (small1000 (by omega))) fun H' p s h => q H' p s (.tup h ?_)
  rw [List.map_append]
  exact (DpAll.tk (Tk.of s) _ (flat_all_steps l) hV).app (DpAll.tk (Tk.of s) _ (flat_all_steps m) hV2)
end
end XB
set_option Elab.async false
set_option linter.all false
set_option maxRecDepth 100000
set_option maxHeartbeats 4000000
namespace XB
open PySem PySem.Spec PyProof.Rows L2
abbrev Rw := List (Str × Int)
theorem set_if {i : Nat} {A : TT} {B C : TE} {g : TG} {u : TS} {D : Ends} {r : VK} {b c : L2.St → Hp → Prop} {σ : L2.St} {v : V} {H : Hp} (h : tIf A B C (σ.set i (some v)) H fun x H1 => g x (σ.set i (some v)) H1 (u D)) : gName i v σ H (Ends.nx ⟨tSeq (tAsg (tIf A B C) g) u D, r, b, c⟩) := h
/-- two neighbours changed -/
def chgL (F : Fld) (l : Rw) (k : Int) : Option Rw := if 0 ≤ k ∧ k < (l.length : Int) - 1 then
    match l[k.toNat]?, l[k.toNat + 1]? with
    | some s, some t => if apart F s.1 t.1 then some (l.take k.toNat ++ [t, s] ++ l.drop (k.toNat + 2)) else none
    | _, _ => none
  else none
theorem slToI {K : PySem.W.Frag} {H : Hp} {a : Addr} {l : Rw} {k : Int} {Q : VK} (h : Dp K H (.ref a) (dSteps l)) (hk : 0 ≤ k) (q : ∀ H' p, Same H H' → Dp K H' (.ref p) (dSteps (l.take k.toNat)) → Q (.ref p) H') : rSlA K (.ref a) none (some k) H Q := by
  have e : k = (k.toNat : Int) := by omega
  rw [e]
  exact slTo h q
theorem slFromI {K : PySem.W.Frag} {H : Hp} {a : Addr} {l : Rw} {k : Int} {Q : VK} (h : Dp K H (.ref a) (dSteps l)) (hk : 0 ≤ k) (q : ∀ H' p, Same H H' → Dp K H' (.ref p) (dSteps (l.drop k.toNat)) → Q (.ref p) H') : rSlA K (.ref a) (some k) none H Q := by
  have e : k = (k.toNat : Int) := by omega
  rw [e]
  exact slFrom h q
section
variable {P : Program} {w : World} {K : PySem.W.Frag} {mg : Str → Option Value} {base : Heap}
/-- steps, or None -/
def OutL (K : PySem.W.Frag) (H : Hp) (Q : VK) : Option Rw → Prop
  | none => ∀ H', Same H H' → Q .non H'
  | some l => ∀ H' r, Same H H' → Dp K H' (.ref r) (dSteps l) → Q (.ref r) H'
def spChange (K : PySem.W.Frag) : Sp := fun vs H Q _ => ∃ (a p : Addr) (k : Int) (F : Fld) (l : Rw), vs = [.ref a, .ref p, .int k] ∧ Dp K H (.ref a) (dField F) ∧ F.Ok ∧ Dp K H (.ref p) (dSteps l) ∧ Names F l ∧ l.length ≤ 401 ∧ OutL K H Q (chgL F l k)
theorem c_after_change (T : Tx K mg) : Cl P w K mg base CX0 2 "after_change" (spChange K) := by
  refine cl0 T.d_after_change (ps := ["field", "steps", "at"]) (fun _ _ _ _ _ _ us hl => match us, hl with | [_, _, _], _ => rfl) sc_after_change (fun vs H Q E h => ?_) (fun f cdv A outer st H vs Q E hr h => ?_)
  · obtain ⟨a, p, k, F, l, rfl, _⟩ := h
    rfl
  · obtain ⟨a, p, k, F, l, rfl, hF, ok, hL, nl, ll, q⟩ := h
    have nd := sc_after_change.nd
    refine ⟨_, (pss_cons (ps_asg (pv 0) (pg_tup rfl (pgs_cons (pg_name (i := 3) nd rfl (.inl rfl)) (pgs_cons (pg_name (i := 4) nd rfl (.inl rfl)) pgs_nil))))
    (pss_cons (ps_if (PW.pt (pw_or (pt_not (pt_chain op_le op_lt pe_int (pv 2) (pe_op op_sub (pe_lenS (by rfl) T.b_len (pv 1)) pe_int))) (pw_or1 (pt_not (pt_val (pe_k (c_are_apart T) hr (by decide) (by rfl) (pa_cons (pv 4) (pa_cons (pe_ix (ixk_tup (K := K) rfl) (pe_ix (ixk_tup (K := K) rfl) (pv 1) (pv 2) (fun _ _ => rfl)) pe_int (fun _ _ => rfl)) (pa_cons (pe_ix (ixk_tup (K := K) rfl) (pe_ix (ixk_tup (K := K) rfl) (pv 1) (pe_op op_add (pv 2) pe_int) (fun _ _ => rfl)) pe_int (fun _ _ => rfl)) pa_nil))))))))) (pss_one (ps_ret pe_non)) pss_nil)
    (pss_one (ps_ret (pe_op (op_catAk (K := K) rfl) (pe_op (op_catAk (K := K) rfl) (pe_slice sl_tupA (pv 1) po_none (po_some (pv 2))) (pe_tup (pa_cons (pe_ix (ixk_tup (K := K) rfl) (pv 1) (pe_op op_add (pv 2) pe_int) (fun _ _ => rfl)) (pa_cons (pe_ix (ixk_tup (K := K) rfl) (pv 1) (pv 2) (fun _ _ => rfl)) pa_nil)))) (pe_slice sl_tupA (pv 1) (po_some (pe_op op_add (pv 2) pe_int)) po_none)))))), ?_⟩
    obtain ⟨_, nn, pp, ps, e, hA, hNn, hP, hDp⟩ := hF.field
    cases e
    obtain ⟨_, xs, e, hS, hV⟩ := id hL.steps
    cases e
    have lx := hV.len
    rw [List.length_map] at lx
    refine ⟨_, rfl, a, _, rfl, hA, rfl, _, _, rfl, _, _, rfl, rfl, ?_⟩
    refine ⟨_, rfl, _, _, rfl, rfl, _, rfl, ?_⟩
    unfold chgL at q
    by_cases k0 : 0 ≤ k
    · rw [decide_eq_true k0]
      refine iteT ⟨_, rfl, p, xs, rfl, .inr hS, _, _, rfl, rfl, _, _, rfl, rfl, _, rfl, ?_⟩
      rw [lx]
      by_cases k1 : k < (l.length : Int) - 1
      · rw [decide_eq_true k1]
        rw [if_pos ⟨k0, k1⟩] at q
        have g1 : l[k.toNat]? = some l[k.toNat] := List.getElem?_eq_getElem (by omega)
        have g2 : l[k.toNat + 1]? = some l[k.toNat + 1] := List.getElem?_eq_getElem (by omega)
        have m1 := nl _ (List.mem_of_getElem? g1)
        have m2 := nl _ (List.mem_of_getElem? g2)
        rw [g1, g2] at q
        generalize l[k.toNat] = s at g1 m1 q
        generalize l[k.toNat + 1] = t at g2 m2 q
        obtain ⟨c1, hc1, cs1⟩ := hV.step g1
        obtain ⟨c2, hc2, cs2⟩ := hV.step g2
        have q : OutL K H Q (if apart F s.1 t.1 then some (l.take k.toNat ++ [t, s] ++ l.drop (k.toNat + 2)) else none) := q
        refine iteF ?_
        refine ⟨_, rfl, _, rfl, _, rfl, _, _, _, _, rfl, rfl, hS, at_of (j := k.toNat) (by omega) hc1, ix0 cs1 ?_⟩
        refine ⟨_, rfl, _, rfl, _, _, rfl, rfl, _, _, _, _, rfl, rfl, hS, at_of (j := k.toNat + 1) (by omega) hc2, ix0 cs2 ?_⟩
        refine ⟨pp, ps, F, s.1, t.1, rfl, hP, hDp, ok, m1, m2, fun H1 s1 => ⟨_, rfl, ?_⟩⟩
        cases hap : apart F s.1 t.1 with
        | false =>
          rw [hap, if_neg Bool.false_ne_true] at q
          exact iteT (q H1 s1)
        | true =>
          rw [hap, if_pos rfl] at q
          refine iteF ?_
          refine ⟨_, rfl, noPart ⟨_, rfl, k, rfl, slToI (tS hL s1) k0 fun H2 p2 s2 h2 => ?_⟩⟩
          have s12 := s1.trans s2
          have hS2 := (Tk.of s12).sqT hS
          refine ⟨_, rfl, _, rfl, _, _, rfl, rfl, _, _, _, _, rfl, rfl, hS2, at_of (j := k.toNat + 1) (by omega) hc2, ?_⟩
          refine ⟨_, rfl, _, rfl, _, _, _, _, rfl, rfl, hS2, at_of (j := k.toNat) (by omega) hc1, two_sz, fun p3 n3 => upd_gen n3 fun H3 s3 e3 => ?_⟩
          have s13 := s12.trans s3
          have h3 : Dp K H3 (.ref p3) (dSteps [t, s]) := .tup (SqT.of e3) (.cons (Dp.of_step ((Tk.of s13).sqT cs2)) (.cons (Dp.of_step ((Tk.of s13).sqT cs1)) .nil))
          refine catD (tS h2 s3) h3 (by rw [List.length_take]; show _ + 2 ≤ _; omega) fun H4 p4 s4 h4 => ?_
          refine ⟨_, rfl, _, rfl, _, _, rfl, rfl, k + 2, rfl, noPart (slFromI (tS hL (s13.trans s4)) (by omega) fun H5 p5 s5 h5 => ?_)⟩
          refine catD (tS h4 s5) h5 (by rw [List.length_append, List.length_take, List.length_drop]; show _ + 2 + _ ≤ _; omega) fun H6 p6 s6 h6 => q H6 p6 ((s13.trans s4).trans (s5.trans s6)) ?_
          rw [show (k + 2).toNat = k.toNat + 2 by omega] at h6
          exact h6
      · rw [decide_eq_false k1]
        rw [if_neg fun z => k1 z.2] at q
        exact iteT (q H (Same.refl _))
    · rw [decide_eq_false k0]
      rw [if_neg fun z => k0 z.1] at q
      exact iteF ⟨_, rfl, iteT (q H (Same.refl _))⟩
/-- two neighbours joined -/
def joiL (l : Rw) (k : Int) : Option Rw := if 0 ≤ k ∧ k < (l.length : Int) - 1 then
    match l[k.toNat]?, l[k.toNat + 1]? with
    | some s, some t => if s.1 = t.1 then some (l.take k.toNat ++ (if s.2 + t.2 = 0 then [] else [(s.1, s.2 + t.2)]) ++ l.drop (k.toNat + 2)) else none
    | _, _ => none
  else none
def spJoin (K : PySem.W.Frag) : Sp := fun vs H Q _ => ∃ (p : Addr) (k : Int) (l : Rw), vs = [.ref p, .int k] ∧ Dp K H (.ref p) (dSteps l) ∧ l.length ≤ 401 ∧ OutL K H Q (joiL l k)
theorem c_after_join (T : Tx K mg) : Cl P w K mg base CX0 1 "after_join" (spJoin K) := by
  refine cl0 T.d_after_join (ps := ["steps", "at"]) (fun _ _ _ _ _ _ us hl => match us, hl with | [_, _], _ => rfl) sc_after_join (fun vs H Q E h => ?_) (fun f cdv A outer st H vs Q E hr h => ?_)
  · obtain ⟨p, k, l, rfl, _⟩ := h
    rfl
  · obtain ⟨p, k, l, rfl, hL, ll, q⟩ := h
    have nd := sc_after_join.nd
    refine ⟨_, (pss_cons (ps_if (PW.pt (pw_or (pt_not (pt_chain op_le op_lt pe_int (pv 1) (pe_op op_sub (pe_lenS (by rfl) T.b_len (pv 0)) pe_int))) (pw_or1 (pt_cmpR op_ne (pe_ix (ixk_tup (K := K) rfl) (pe_ix (ixk_tup (K := K) rfl) (pv 0) (pv 1) (fun _ _ => rfl)) pe_int (fun _ _ => rfl)) (pe_ix (ixk_tup (K := K) rfl) (pe_ix (ixk_tup (K := K) rfl) (pv 0) (pe_op op_add (pv 1) pe_int) (fun _ _ => rfl)) pe_int (fun _ _ => rfl)) (nomark _))))) (pss_one (ps_ret pe_non)) pss_nil)
    (pss_cons (ps_asg (pe_ix (ixk_tup (K := K) rfl) (pv 0) (pv 1) (fun _ _ => rfl)) (pg_tup rfl (pgs_cons (pg_name (i := 2) nd rfl (.inl rfl)) (pgs_cons (pg_name (i := 3) nd rfl (.inl rfl)) pgs_nil))))
    (pss_cons (ps_set (i := 3) nd rfl (.inl rfl) (pe_op op_add (pv 3) (pe_ix (ixk_tup (K := K) rfl) (pe_ix (ixk_tup (K := K) rfl) (pv 0) (pe_op op_add (pv 1) pe_int) (fun _ _ => rfl)) pe_int (fun _ _ => rfl))))
    (pss_cons (ps_set (i := 4) nd rfl (.inl rfl) (pe_ifExp (pt_cmpR op_ne (pv 3) pe_int (nomark _)) (pe_tup (pa_cons (pe_tup (pa_cons (pv 2) (pa_cons (pv 3) pa_nil))) pa_nil)) (pe_tup pa_nil)))
    (pss_one (ps_ret (pe_op (op_catAk (K := K) rfl) (pe_op (op_catAk (K := K) rfl) (pe_slice sl_tupA (pv 0) po_none (po_some (pv 1))) (pv 4)) (pe_slice sl_tupA (pv 0) (po_some (pe_op op_add (pv 1) pe_int)) po_none)))))))), ?_⟩
    obtain ⟨_, xs, e, hS, hV⟩ := id hL.steps
    cases e
    have lx := hV.len
    rw [List.length_map] at lx
    refine ⟨_, rfl, _, _, rfl, rfl, _, rfl, ?_⟩
    unfold joiL at q
    by_cases k0 : 0 ≤ k
    · rw [decide_eq_true k0]
      refine iteT ⟨_, rfl, p, xs, rfl, .inr hS, _, _, rfl, rfl, _, _, rfl, rfl, _, rfl, ?_⟩
      rw [lx]
      by_cases k1 : k < (l.length : Int) - 1
      · rw [decide_eq_true k1]
        rw [if_pos ⟨k0, k1⟩] at q
        have g1 : l[k.toNat]? = some l[k.toNat] := List.getElem?_eq_getElem (by omega)
        have g2 : l[k.toNat + 1]? = some l[k.toNat + 1] := List.getElem?_eq_getElem (by omega)
        rw [g1, g2] at q
        generalize l[k.toNat] = s at g1 q
        generalize l[k.toNat + 1] = t at g2 q
        obtain ⟨c1, hc1, cs1⟩ := hV.step g1
        obtain ⟨c2, hc2, cs2⟩ := hV.step g2
        have q : OutL K H Q (if s.1 = t.1 then some (l.take k.toNat ++ (if s.2 + t.2 = 0 then [] else [(s.1, s.2 + t.2)]) ++ l.drop (k.toNat + 2)) else none) := q
        refine iteF ?_
        refine ⟨_, rfl, _, rfl, _, _, _, _, rfl, rfl, hS, at_of (j := k.toNat) (by omega) hc1, ix0 cs1 ?_⟩
        refine ⟨_, rfl, _, rfl, _, _, rfl, rfl, _, _, _, _, rfl, rfl, hS, at_of (j := k.toNat + 1) (by omega) hc2, ix0 cs2 ?_⟩
        refine ⟨rfl, _, rfl, ?_⟩
        by_cases hn : s.1 = t.1
        · rw [if_pos hn] at q
          rw [hn, decide_eq_true rfl]
          refine iteF ?_
          refine ⟨_, rfl, _, rfl, _, _, _, _, rfl, rfl, hS, at_of (j := k.toNat) (by omega) hc1, c1, _, rfl, cs1, rfl, _, _, rfl, _, _, rfl, rfl, ?_⟩
          refine ⟨_, rfl, _, rfl, _, rfl, _, _, rfl, rfl, _, _, _, _, rfl, rfl, hS, at_of (j := k.toNat + 1) (by omega) hc2, ix1 cs2 ⟨_, _, rfl, rfl, ?_⟩⟩
          refine set_if ?_
          refine by_q (fun v H' => ∃ b, v = .ref b ∧ Same H H' ∧ Dp K H' (.ref b) (dSteps (if s.2 + t.2 = 0 then [] else [(s.1, s.2 + t.2)]))) (fun Qx hQ => ?_) (fun v H1 ⟨b, ev, s1, hb⟩ => ?_)
          · refine ⟨_, rfl, rfl, _, rfl, ?_⟩
            rw [dec_int]
            by_cases hz : s.2 + t.2 = 0
            · rw [if_pos hz] at hQ
              rw [hz]
              exact iteF ⟨Nat.zero_le _, fun p1 n1 => upd_gen n1 fun H1 s1 e1 => hQ _ _ ⟨p1, rfl, s1, .tup (SqT.of e1) .nil⟩⟩
            · rw [if_neg hz] at hQ
              rw [show (!(s.2 + t.2 == 0)) = true by simp [hz]]
              exact iteT ⟨_, rfl, _, rfl, two_sz, fun p1 n1 => upd_gen n1 fun H1 s1 e1 => ⟨one_sz, fun p2 n2 => upd_gen n2 fun H2 s2 e2 => hQ _ _ ⟨p2, rfl, s1.trans s2, .tup (SqT.of e2) (.cons (Dp.of_step (s := (s.1, s.2 + t.2)) ((Tk.of s2).sqT (SqT.of e1))) .nil)⟩⟩⟩
          · subst ev
            have lb : (if s.2 + t.2 = 0 then [] else [(s.1, s.2 + t.2)] : Rw).length ≤ 1 := by split <;> simp
            generalize (if s.2 + t.2 = 0 then [] else [(s.1, s.2 + t.2)] : Rw) = B at hb lb q
            refine ⟨_, rfl, noPart ⟨_, rfl, k, rfl, slToI (tS hL s1) k0 fun H2 p2 s2 h2 => ?_⟩⟩
            refine ⟨_, rfl, ?_⟩
            refine catD h2 (tS hb s2) (by rw [List.length_take]; omega) fun H4 p4 s4 h4 => ?_
            have s14 := (s1.trans s2).trans s4
            refine ⟨_, rfl, _, rfl, _, _, rfl, rfl, k + 2, rfl, noPart (slFromI (tS hL s14) (by omega) fun H5 p5 s5 h5 => ?_)⟩
            refine catD (tS h4 s5) h5 (by rw [List.length_append, List.length_take, List.length_drop]; omega) fun H6 p6 s6 h6 => q H6 p6 (s14.trans (s5.trans s6)) ?_
            rw [show (k + 2).toNat = k.toNat + 2 by omega] at h6
            exact h6
        · rw [if_neg hn] at q
          rw [decide_eq_false fun z => hn (by injection z)]
          exact iteT (q H (Same.refl _))
      · rw [decide_eq_false k1]
        rw [if_neg fun z => k1 z.2] at q
        exact iteT (q H (Same.refl _))
    · rw [decide_eq_false k0]
      rw [if_neg fun z => k0 z.1] at q
      exact iteF ⟨_, rfl, iteT (q H (Same.refl _))⟩
end
end XB
set_option Elab.async false
set_option linter.all false
set_option maxRecDepth 100000
set_option maxHeartbeats 4000000
namespace XB
open PySem PySem.Spec PyProof.Rows L2
theorem sh_nms {F : Fld} (ok : F.Ok) : SeqAt.shaped (.tuple (F.names.map PyData.str)) = true := by
  have lay : ∀ ns : List Str, (∀ n ∈ ns, GoodName n) → PyData.canLayAll0 (ns.map PyData.str) = true := fun ns => by
    induction ns with
    | nil => exact fun _ => rfl
    | cons n ns ih =>
      intro h
      rw [List.map_cons, PyData.canLayAll0, ih fun x hx => h x (List.mem_cons_of_mem _ hx)]
      simp [PyData.canLay0, strOk_of (h n List.mem_cons_self)]
  have dep : ∀ ns : List Str, PyData.depthAll (ns.map PyData.str) ≤ 1 := fun ns => by
    induction ns with
    | nil => decide
    | cons n ns ih =>
      rw [List.map_cons, PyData.depthAll]
      have : PyData.depth (.str n) ≤ 1 := by simp [PyData.depth]
      omega
  have d := dep F.names
  show (PyData.canLayAll0 (F.names.map PyData.str) && decide (PyData.depthAll (F.names.map PyData.str) + 1 ≤ 64)) = true
  rw [lay F.names fun n hn => ok.sgn _ hn, Bool.true_and]
  exact decide_eq_true (by omega)
/-- a step parted -/
def prtL (l : Rw) (k : Int) (d : PyData) : Option Rw := if 0 ≤ k ∧ k < (l.length : Int) then
    match l[k.toNat]?, d with
    | some s, .int t => if timesD (.int t) = true ∧ t ≠ s.2 then some (l.take k.toNat ++ [(s.1, t), (s.1, s.2 - t)] ++ l.drop (k.toNat + 1)) else none
    | _, _ => none
  else none
/-- a step and its taking back put in -/
def putL (F : Fld) (l : Rw) (k : Int) (d : PyData) : Option Rw := if 0 ≤ k ∧ k ≤ (l.length : Int) then
    match d with
    | .tuple [.str n, .int t] => if stepD F.names (.tuple [.str n, .int t]) = true then some (l.take k.toNat ++ [(n, t), (n, -t)] ++ l.drop k.toNat) else none
    | _ => none
  else none
section
variable {P : Program} {w : World} {K : PySem.W.Frag} {mg : Str → Option Value} {base : Heap}
def spPart (K : PySem.W.Frag) : Sp := fun vs H Q _ => ∃ (p : Addr) (k : Int) (v : V) (d : PyData) (l : Rw), vs = [.ref p, .int k, v] ∧ Dp K H (.ref p) (dSteps l) ∧ Dp K H v d ∧ l.length ≤ 401 ∧ OutL K H Q (prtL l k d)
theorem c_after_part (T : Tx K mg) : Cl P w K mg base CX0 3 "after_part" (spPart K) := by
  refine cl0 T.d_after_part (ps := ["steps", "at", "times"]) (fun _ _ _ _ _ _ us hl => match us, hl with | [_, _, _], _ => rfl) sc_after_part (fun vs H Q E h => ?_) (fun f cdv A outer st H vs Q E hr h => ?_)
  · obtain ⟨p, k, v, d, l, rfl, _⟩ := h
    rfl
  · obtain ⟨p, k, v, d, l, rfl, hL, hd, ll, q⟩ := h
    have nd := sc_after_part.nd
    refine ⟨_, (pss_cons (ps_if (pt_not (pt_chain op_le op_lt pe_int (pv 1) (pe_lenS (by rfl) T.b_len (pv 0)))) (pss_one (ps_ret pe_non)) pss_nil)
    (pss_cons (ps_asg (pe_ix (ixk_tup (K := K) rfl) (pv 0) (pv 1) (fun _ _ => rfl)) (pg_tup rfl (pgs_cons (pg_name (i := 3) nd rfl (.inl rfl)) (pgs_cons (pg_name (i := 4) nd rfl (.inl rfl)) pgs_nil))))
    (pss_cons (ps_if (PW.pt (pw_or (pt_not (pt_val (pe_k (c_is_timesD T) hr (by decide) (by rfl) (pa_cons (pv 2) pa_nil)))) (pw_or1 (pt_cmpR op_eq (pv 2) (pv 4) (nomark _))))) (pss_one (ps_ret pe_non)) pss_nil)
    (pss_one (ps_ret (pe_op (op_catAk (K := K) rfl) (pe_op (op_catAk (K := K) rfl) (pe_slice sl_tupA (pv 0) po_none (po_some (pv 1))) (pe_tup (pa_cons (pe_tup (pa_cons (pv 3) (pa_cons (pv 2) pa_nil))) (pa_cons (pe_tup (pa_cons (pv 3) (pa_cons (pe_op op_sub (pv 4) (pv 2)) pa_nil))) pa_nil)))) (pe_slice sl_tupA (pv 0) (po_some (pe_op op_add (pv 1) pe_int)) po_none))))))), ?_⟩
    obtain ⟨_, xs, e, hS, hV⟩ := id hL.steps
    cases e
    have lx := hV.len
    rw [List.length_map] at lx
    refine ⟨_, rfl, _, _, rfl, rfl, _, rfl, ?_⟩
    unfold prtL at q
    by_cases k0 : 0 ≤ k
    · rw [decide_eq_true k0]
      refine iteT ⟨_, rfl, p, xs, rfl, .inr hS, _, _, rfl, rfl, _, rfl, ?_⟩
      rw [lx]
      by_cases k1 : k < (l.length : Int)
      · rw [decide_eq_true k1]
        rw [if_pos ⟨k0, k1⟩] at q
        have g1 : l[k.toNat]? = some l[k.toNat] := List.getElem?_eq_getElem (by omega)
        rw [g1] at q
        generalize l[k.toNat] = s at g1 q
        obtain ⟨c1, hc1, cs1⟩ := hV.step g1
        refine iteF ?_
        refine ⟨_, rfl, _, rfl, _, _, _, _, rfl, rfl, hS, at_of (j := k.toNat) (by omega) hc1, c1, _, rfl, cs1, rfl, _, _, rfl, _, _, rfl, rfl, ?_⟩
        refine ⟨_, rfl, v, d, rfl, hd, _, rfl, ?_⟩
        cases d with
        | int t =>
          cases hd
          have q : OutL K H Q (if timesD (.int t) = true ∧ t ≠ s.2 then some (l.take k.toNat ++ [(s.1, t), (s.1, s.2 - t)] ++ l.drop (k.toNat + 1)) else none) := q
          by_cases ht : timesD (.int t) = true
          · rw [ht]
            refine iteF ⟨_, rfl, _, rfl, rfl, _, rfl, ?_⟩
            by_cases he : t = s.2
            · rw [if_neg fun z => z.2 he] at q
              rw [he, decide_eq_true rfl]
              exact iteT (q H (Same.refl _))
            · rw [if_pos ⟨ht, he⟩] at q
              rw [decide_eq_false fun z => he (by injection z)]
              refine iteF ?_
              refine ⟨_, rfl, noPart ⟨_, rfl, k, rfl, slToI hL k0 fun H2 p2 s2 h2 => ?_⟩⟩
              refine ⟨_, rfl, _, rfl, two_sz, fun p3 n3 => upd_gen n3 fun H3 s3 e3 => ⟨_, rfl, _, rfl, _, rfl, _, _, rfl, rfl, two_sz, fun p4 n4 => upd_gen n4 fun H4 s4 e4 => ⟨two_sz, fun p5 n5 => upd_gen n5 fun H5 s5 e5 => ?_⟩⟩⟩
              have s25 := (s3.trans s4).trans s5
              have h5 : Dp K H5 (.ref p5) (dSteps [(s.1, t), (s.1, s.2 - t)]) := .tup (SqT.of e5) (.cons (Dp.of_step (s := (s.1, t)) ((Tk.of (s4.trans s5)).sqT (SqT.of e3))) (.cons (Dp.of_step (s := (s.1, s.2 - t)) ((Tk.of s5).sqT (SqT.of e4))) .nil))
              refine catD (tS h2 s25) h5 (by rw [List.length_take]; show _ + 2 ≤ _; omega) fun H6 p6 s6 h6 => ?_
              have s06 := s2.trans (s25.trans s6)
              refine ⟨_, rfl, _, rfl, _, _, rfl, rfl, k + 1, rfl, noPart (slFromI (tS hL s06) (by omega) fun H7 p7 s7 h7 => ?_)⟩
              refine catD (tS h6 s7) h7 (by rw [List.length_append, List.length_take, List.length_drop]; show _ + 2 + _ ≤ _; omega) fun H8 p8 s8 h8 => q H8 p8 (s06.trans (s7.trans s8)) ?_
              rw [show (k + 1).toNat = k.toNat + 1 by omega] at h8
              exact h8
          · rw [Bool.eq_false_iff.mpr ht]
            rw [if_neg fun z => ht z.1] at q
            exact iteT (q H (Same.refl _))
        | _ => exact iteT (q H (Same.refl _))
      · rw [decide_eq_false k1]
        rw [if_neg fun z => k1 z.2] at q
        exact iteT (q H (Same.refl _))
    · rw [decide_eq_false k0]
      rw [if_neg fun z => k0 z.1] at q
      exact iteF ⟨_, rfl, iteT (q H (Same.refl _))⟩
def spPut (K : PySem.W.Frag) : Sp := fun vs H Q _ => ∃ (a p : Addr) (k : Int) (v : V) (F : Fld) (d : PyData) (l : Rw), vs = [.ref a, .ref p, .int k, v] ∧ Dp K H (.ref a) (dField F) ∧ F.Ok ∧ Dp K H (.ref p) (dSteps l) ∧ Dp K H v d ∧ SeqAt.shaped d = true ∧ l.length ≤ 401 ∧ OutL K H Q (putL F l k d)
theorem c_after_put (T : Tx K mg) : Cl P w K mg base CX0 4 "after_put" (spPut K) := by
  refine cl0 T.d_after_put (ps := ["field", "steps", "at", "step"]) (fun _ _ _ _ _ _ us hl => match us, hl with | [_, _, _, _], _ => rfl) sc_after_put (fun vs H Q E h => ?_) (fun f cdv A outer st H vs Q E hr h => ?_)
  · obtain ⟨a, p, k, v, F, d, l, rfl, _⟩ := h
    rfl
  · obtain ⟨a, p, k, v, F, d, l, rfl, hF, ok, hL, hd, sd, ll, q⟩ := h
    have nd := sc_after_put.nd
    refine ⟨_, (pss_cons (ps_asg (pv 0) (pg_tup rfl (pgs_cons (pg_name (i := 4) nd rfl (.inl rfl)) (pgs_cons (pg_name (i := 5) nd rfl (.inl rfl)) pgs_nil))))
    (pss_cons (ps_if (PW.pt (pw_or (pt_not (pt_chain op_le op_le pe_int (pv 2) (pe_lenS (by rfl) T.b_len (pv 1)))) (pw_or1 (pt_not (pt_val (pe_k (c_is_stepD T) hr (by decide) (by rfl) (pa_cons (pv 4) (pa_cons (pv 3) pa_nil)))))))) (pss_one (ps_ret pe_non)) pss_nil)
    (pss_cons (ps_asg (pv 3) (pg_tup rfl (pgs_cons (pg_name (i := 6) nd rfl (.inl rfl)) (pgs_cons (pg_name (i := 7) nd rfl (.inl rfl)) pgs_nil))))
    (pss_one (ps_ret (pe_op (op_catAk (K := K) rfl) (pe_op (op_catAk (K := K) rfl) (pe_slice sl_tupA (pv 1) po_none (po_some (pv 2))) (pe_tup (pa_cons (pv 3) (pa_cons (pe_tup (pa_cons (pv 6) (pa_cons (pe_un un_neg (pv 7)) pa_nil))) pa_nil)))) (pe_slice sl_tupA (pv 1) (po_some (pv 2)) po_none))))))), ?_⟩
    obtain ⟨_, nn, pp, ps, e, hA, hNn, hP, hDp⟩ := hF.field
    cases e
    obtain ⟨_, xs, e, hS, hV⟩ := id hL.steps
    cases e
    have lx := hV.len
    rw [List.length_map] at lx
    refine ⟨_, rfl, a, _, rfl, hA, rfl, _, _, rfl, _, _, rfl, rfl, ?_⟩
    refine ⟨_, rfl, _, _, rfl, rfl, _, rfl, ?_⟩
    unfold putL at q
    by_cases k0 : 0 ≤ k
    · rw [decide_eq_true k0]
      refine iteT ⟨_, rfl, p, xs, rfl, .inr hS, _, _, rfl, rfl, _, rfl, ?_⟩
      rw [lx]
      by_cases k1 : k ≤ (l.length : Int)
      · rw [decide_eq_true k1]
        rw [if_pos ⟨k0, k1⟩] at q
        refine iteF ⟨_, rfl, _, rfl, nn, v, F.names, d, rfl, hNn, sh_nms ok, hd, sd, _, rfl, ?_⟩
        by_cases hs : stepD F.names d = true
        · rw [hs]
          obtain ⟨n, t, rfl⟩ : ∃ n t, d = .tuple [.str n, .int t] := by
            match d, hs with
            | .tuple [.str n, .int t], _ => exact ⟨n, t, rfl⟩
          have q : OutL K H Q (if stepD F.names (.tuple [.str n, .int t]) = true then some (l.take k.toNat ++ [(n, t), (n, -t)] ++ l.drop k.toNat) else none) := q
          rw [if_pos hs] at q
          cases hd with
          | tup hS1 hV1 =>
          cases hV1 with
          | cons hx hV1 =>
          cases hV1 with
          | cons hy hV1 =>
          cases hV1
          cases hx
          cases hy
          refine iteF ⟨_, rfl, _, _, rfl, hS1, rfl, _, _, rfl, _, _, rfl, rfl, ?_⟩
          refine ⟨_, rfl, noPart ⟨_, rfl, k, rfl, slToI hL k0 fun H2 p2 s2 h2 => ?_⟩⟩
          refine ⟨_, rfl, _, rfl, _, rfl, _, rfl, two_sz, fun p3 n3 => upd_gen n3 fun H3 s3 e3 => ⟨two_sz, fun p4 n4 => upd_gen n4 fun H4 s4 e4 => ?_⟩⟩
          have s24 := s3.trans s4
          have h4 : Dp K H4 _ (dSteps [(n, t), (n, -t)]) := .tup (SqT.of e4) (.cons (Dp.of_step (s := (n, t)) ((Tk.of (s2.trans s24)).sqT hS1)) (.cons (Dp.of_step (s := (n, -t)) ((Tk.of s4).sqT (SqT.of e3))) .nil))
          refine catD (tS h2 s24) h4 (by rw [List.length_take]; show _ + 2 ≤ _; omega) fun H6 p6 s6 h6 => ?_
          have s06 := s2.trans (s24.trans s6)
          refine ⟨_, rfl, _, rfl, k, rfl, noPart (slFromI (tS hL s06) k0 fun H7 p7 s7 h7 => ?_)⟩
          exact catD (tS h6 s7) h7 (by rw [List.length_append, List.length_take, List.length_drop]; show _ + 2 + _ ≤ _; omega) fun H8 p8 s8 h8 => q H8 p8 (s06.trans (s7.trans s8)) h8
        · rw [Bool.eq_false_iff.mpr hs]
          have e : OutL K H Q none := by
            match d, hs, q with
            | .tuple [.str n, .int t], h, q =>
              have q : OutL K H Q (if stepD F.names (.tuple [.str n, .int t]) = true then some (l.take k.toNat ++ [(n, t), (n, -t)] ++ l.drop k.toNat) else none) := q
              rwa [if_neg h] at q
            | .none, _, q => exact q
            | .bool _, _, q => exact q
            | .int _, _, q => exact q
            | .str _, _, q => exact q
            | .list _, _, q => exact q
            | .dict _, _, q => exact q
            | .tuple [], _, q => exact q
            | .tuple [x], _, q => cases x <;> exact q
            | .tuple (x :: y :: _ :: _), _, q => cases x <;> first | exact q | (cases y <;> exact q)
            | .tuple [.none, _], _, q => exact q
            | .tuple [.bool _, _], _, q => exact q
            | .tuple [.int _, _], _, q => exact q
            | .tuple [.list _, _], _, q => exact q
            | .tuple [.dict _, _], _, q => exact q
            | .tuple [.tuple _, _], _, q => exact q
            | .tuple [.str _, .none], _, q => exact q
            | .tuple [.str _, .bool _], _, q => exact q
            | .tuple [.str _, .str _], _, q => exact q
            | .tuple [.str _, .list _], _, q => exact q
            | .tuple [.str _, .dict _], _, q => exact q
            | .tuple [.str _, .tuple _], _, q => exact q
          exact iteT (e H (Same.refl _))
      · rw [decide_eq_false k1]
        rw [if_neg fun z => k1 z.2] at q
        exact iteT (q H (Same.refl _))
    · rw [decide_eq_false k0]
      rw [if_neg fun z => k0 z.1] at q
      exact iteF ⟨_, rfl, iteT (q H (Same.refl _))⟩
end
end XB
set_option Elab.async false
set_option linter.all false
set_option maxRecDepth 100000
set_option maxHeartbeats 4000000
/-! comprehensions with two fors; data that stand where all stands -/
namespace XB
open PySem PySem.Spec PyProof.Rows L2
theorem pi_tupk {X : Cx} {tg e : Expr} {te : TE} {K : PySem.W.Frag} (hk : X.K = K) (he : PE X e te) : PI X tg e (iTup K te) := by
  subst hk
  exact pi_tup he
theorem pi_listk {X : Cx} {tg e : Expr} {te : TE} {K : PySem.W.Frag} (hk : X.K = K) (he : PE X e te) : PI X tg e (iList K te) := by
  subst hk
  exact pi_list he
theorem cr_allk {X : Cx} {K : PySem.W.Frag} (hk : X.K = K) (hc : X.calm = true) : CallR X (.builtin "all") (rAll K) := by
  subst hk
  exact cr_all hc
theorem pi_enumk {X : Cx} {K : PySem.W.Frag} (hk : X.K = K) {e : Expr} {ta : TA} {p pos tpos : Pos} {elts : List Expr} {kk : Nat} (hg : Gl X "enumerate") (hm : X.mg "enumerate" = none) (ha : PA X [e] ta) (hs : starEach [e] X.env = [(false, eval e X.env)] := by rfl) :
    PI X (.Tuple elts kk tpos) (.Call (.Name "enumerate" p) [e] [] pos) (iEnum K ta) := by
  subst hk
  exact pi_enum hg hm ha hs
theorem pt_truthk {X : Cx} {K : PySem.W.Frag} (hk : X.K = K) {a : Expr} {ta : TE} (ha : PE X a ta) (he : ∀ whole, isTrue a X.env whole = (do let v ← whole; standAt a.pos; holding [v] (truthy v)) := by intro _; rfl) : PT X a (fun σ H Q => ta σ H fun x H' => ∃ k, TruV K x H' k ∧ Q k H') := by
  subst hk
  exact pt_truth ha he
/-- the inner for -/
def Lc2In (J1 : It) (g1 : TG) (tt1 : TT) (te : TE) (vs1 : List Nat) (σ2 : L2.St) (D : Addr) (Nx : Hp → Prop) (H4 : Hp) : Prop :=
  ∃ W1 : Nat → Nat → Hp → Prop, (∃ m, W1 0 m H4) ∧ ∀ j k H, W1 j k H →
      (J1.stop j H ∧ Nx H) ∨ (J1.go j H ∧ ∃ Nx1 : Hp → Prop, (∀ H', Nx1 H' → ∃ k', k' < k ∧ W1 (j + 1) k' H') ∧ ∀ x H', J1.yld j H x H' → g1 x (wipe σ2 vs1) H' fun σ3 H5 => wipe σ3 vs1 = wipe σ2 vs1 ∧ tt1 σ3 H5 fun b H6 =>
        if b = true then te σ3 H6 fun y H7 => ∃ acc, H7 D = some (.lst acc) ∧ acc.length < sizeLine ∧ Nx1 (upd H7 D (.lst (acc ++ [y]))) else Nx1 H6)
theorem lc2_in {J1 : It} {n1 : Nat} {G1 : Hp → Prop} {Y1 : Nat → Hp → V → Hp → Prop} (w : Walk J1 n1 G1 Y1) {g1 : TG} {tt1 : TT} {te : TE} {vs1 : List Nat} {σ2 : L2.St} {D : Addr} {Nx : Hp → Prop} {H4 : Hp} (Pv : Nat → Hp → Prop) (h0 : Pv 0 H4) (hG : ∀ i H, i ≤ n1 → Pv i H → G1 H)
    (hs : ∀ i x H H', i < n1 → Pv i H → Y1 i H x H' → g1 x (wipe σ2 vs1) H' fun σ3 H5 => wipe σ3 vs1 = wipe σ2 vs1 ∧ tt1 σ3 H5 fun b H6 =>
      if b = true then te σ3 H6 fun y H7 => ∃ acc, H7 D = some (.lst acc) ∧ acc.length < sizeLine ∧ Pv (i + 1) (upd H7 D (.lst (acc ++ [y]))) else Pv (i + 1) H6) (hd : ∀ H, Pv n1 H → Nx H) : Lc2In J1 g1 tt1 te vs1 σ2 D Nx H4 := by
  refine ⟨fun i m H => m = n1 - i ∧ i ≤ n1 ∧ Pv i H, ⟨n1, by simp, Nat.zero_le _, h0⟩, ?_⟩
  rintro i m H ⟨rfl, hi, p⟩
  have q := hG i H hi p
  by_cases hlt : i < n1
  · refine .inr ⟨w.goes i H hlt q, Pv (i + 1), fun H' p' => ⟨n1 - (i + 1), by omega, rfl, hlt, p'⟩, fun x H' y => hs i x H H' hlt p (w.yields i H x H' hlt q y)⟩
  · have e : i = n1 := by omega
    subst e
    exact .inl ⟨w.stops H q, hd H p⟩
theorem lc2_out {J : It} {n : Nat} {G : Hp → Prop} {Y : Nat → Hp → V → Hp → Prop} (w : Walk J n G Y) {wi1 : TI} {g g1 : TG} {tt tt1 : TT} {te : TE} {vs vs1 : List Nat} {σ : L2.St} {H1 : Hp} {D : Addr} {Qd : Hp → Prop} (Pv : Nat → Hp → Prop) (h0 : Pv 0 (upd H1 D (.lst []))) (hG : ∀ i H, i ≤ n → Pv i H → G H)
    (hs : ∀ i x H H', i < n → Pv i H → Y i H x H' → g x (wipe σ vs) H' fun σ2 H2 => wipe σ2 vs = wipe σ vs ∧ tt σ2 H2 fun b H3 =>
      if b = true then wi1 σ2 H3 fun J1 H4 => Lc2In J1 g1 tt1 te vs1 σ2 D (Pv (i + 1)) H4 else Pv (i + 1) H3) (hd : ∀ H, Pv n H → Qd H) :
    ∃ W : Nat → Nat → Hp → Prop, (∃ m, W 0 m (upd H1 D (.lst []))) ∧ ∀ i m H, W i m H →
      (J.stop i H ∧ Qd H) ∨ (J.go i H ∧ ∃ Nx : Hp → Prop, (∀ H', Nx H' → ∃ m', m' < m ∧ W (i + 1) m' H') ∧ ∀ x H', J.yld i H x H' → g x (wipe σ vs) H' fun σ2 H2 => wipe σ2 vs = wipe σ vs ∧ tt σ2 H2 fun b H3 =>
        if b = true then wi1 σ2 H3 fun J1 H4 => Lc2In J1 g1 tt1 te vs1 σ2 D Nx H4 else Nx H3) := by
  refine ⟨fun i m H => m = n - i ∧ i ≤ n ∧ Pv i H, ⟨n, by simp, Nat.zero_le _, h0⟩, ?_⟩
  rintro i m H ⟨rfl, hi, p⟩
  have q := hG i H hi p
  by_cases hlt : i < n
  · refine .inr ⟨w.goes i H hlt q, Pv (i + 1), fun H' p' => ⟨n - (i + 1), by omega, rfl, hlt, p'⟩, fun x H' y => hs i x H H' hlt p (w.yields i H x H' hlt q y)⟩
  · have e : i = n := by omega
    subst e
    exact .inl ⟨w.stops H q, hd H p⟩
theorem sqL_same {K : PySem.W.Frag} {H H' : Hp} {a : Addr} {xs : List V} (s : Same H H') (h : SqL K H a xs) : SqL K H' a xs := s.seq h
mutual
theorem Dp.sm {K : PySem.W.Frag} {H H' : Hp} (s : Same H H') : ∀ (d : PyData) {v : V}, Dp K H v d → Dp K H' v d
  | .none, _, h => by cases h; exact .non
  | .bool b, _, h => by cases h; exact .bl b
  | .int i, _, h => by cases h; exact .int i
  | .str x, _, h => by cases h; exact .str x
  | .list ds, _, h => by
    cases h with
    | lst h1 h2 => exact .lst (s.seq h1) (DpAll.sm s ds h2)
  | .tuple ds, _, h => by
    cases h with
    | tup h1 h2 => exact .tup ((Tk.of s).sqT h1) (DpAll.sm s ds h2)
  | .dict _, _, h => by cases h
theorem DpAll.sm {K : PySem.W.Frag} {H H' : Hp} (s : Same H H') : ∀ (ds : List PyData) {vs : List V}, DpAll K H vs ds → DpAll K H' vs ds
  | [], _, h => by cases h; exact .nil
  | d :: ds, _, h => by
    cases h with
    | cons h1 h2 => exact .cons (Dp.sm s d h1) (DpAll.sm s ds h2)
end
/-- a list of data -/
def RowG (K : PySem.W.Frag) (H : Hp) (D : Addr) (ds : List PyData) : Prop := ∃ xs, H D = some (.lst xs) ∧ DpAll K H xs ds
theorem RowG.same {K : PySem.W.Frag} {H H' : Hp} {D : Addr} {ds : List PyData} (h : RowG K H D ds) (s : Same H H') : RowG K H' D ds := by
  obtain ⟨xs, e, v⟩ := h
  exact ⟨xs, s _ _ e, DpAll.sm s ds v⟩
theorem rowCatG {K : PySem.W.Frag} {H : Hp} {a b : Addr} {l m : List PyData} {Q : VK} (h1 : RowG K H a l) (h2 : RowG K H b m) (hl : l.length + m.length ≤ 9000) (q : ∀ H' p, Same H H' → H p = none → RowG K H' p (l ++ m) → Q (.ref p) H') : rCat (.ref a) (.ref b) H Q := by
  obtain ⟨xs, e1, v1⟩ := h1
  obtain ⟨ys, e2, v2⟩ := h2
  have l1 := v1.len
  have l2 := v2.len
  refine catL e1 e2 (Nat.le_trans (show xs.length + ys.length ≤ 9000 by omega) (by decide)) fun H' p s hp e => q H' p s hp ⟨_, e, ?_⟩
  exact (DpAll.sm s l v1).app (DpAll.sm s m v2)
end XB
set_option Elab.async false
set_option linter.all false
set_option maxRecDepth 100000
set_option maxHeartbeats 4000000
namespace XB
open PySem PySem.Spec PyProof.Rows L2
def isW (w : PyData) (x : Str) : Bool := PyData.eqv w (.str x)
def capL : Option Rw → Option Rw
  | some l => if l.length ≤ 400 then some l else none
  | none => none
/-- the steps behind a move, whatever it is -/
def amvL (F : Fld) (l : Rw) : PyData → Option Rw
  | .tuple [w, .int k] => capL (if isW w "change" then chgL F l k else if isW w "join" then joiL l k else none)
  | .tuple [w, .int k, x] => capL (if isW w "part" then prtL l k x else if isW w "put" then putL F l k x else none)
  | _ => none
theorem shaped_mem {d : PyData} {ds : List PyData} (h : SeqAt.shaped (.tuple ds) = true) (hd : d ∈ ds) : SeqAt.shaped d = true := by
  have h : (PyData.canLayAll0 ds && decide (PyData.depthAll ds + 1 ≤ 64)) = true := h
  rw [Bool.and_eq_true, decide_eq_true_eq] at h
  obtain ⟨h1, h2⟩ := h
  have gen : ∀ ds : List PyData, PyData.canLayAll0 ds = true → d ∈ ds → PyData.canLay0 d = true ∧ PyData.depth d ≤ PyData.depthAll ds := fun ds => by
    induction ds with
    | nil => exact fun _ h => nomatch h
    | cons e ds ih =>
      intro h hm
      rw [PyData.canLayAll0, Bool.and_eq_true] at h
      rw [PyData.depthAll]
      rcases List.mem_cons.mp hm with z | z
      · rw [z]
        exact ⟨h.1, by omega⟩
      · have := ih h.2 z
        exact ⟨this.1, by omega⟩
  obtain ⟨k1, k2⟩ := gen ds h1 hd
  show (PyData.canLay0 d && decide (PyData.depth d ≤ 64)) = true
  rw [k1, Bool.true_and]
  exact decide_eq_true (by omega)
section
variable {P : Program} {w : World} {K : PySem.W.Frag} {mg : Str → Option Value} {base : Heap}
def OutV (K : PySem.W.Frag) (H : Hp) (v : V) : Option Rw → Prop
  | none => v = .non
  | some l => ∃ b, v = .ref b ∧ Dp K H (.ref b) (dSteps l)
theorem outL_of {H : Hp} {Q : VK} {r : Option Rw} (h : ∀ v H', Same H H' → OutV K H' v r → Q v H') : OutL K H Q r := by
  cases r with
  | none => exact fun H' s => h _ H' s rfl
  | some l => exact fun H' r s hr => h _ H' s ⟨r, rfl, hr⟩
def spMove (K : PySem.W.Frag) : Sp := fun vs H Q _ => ∃ (a p : Addr) (v : V) (F : Fld) (d : PyData) (l : Rw), vs = [.ref a, .ref p, v] ∧ Dp K H (.ref a) (dField F) ∧ F.Ok ∧ Dp K H (.ref p) (dSteps l) ∧ Names F l ∧ Dp K H v d ∧ SeqAt.shaped d = true ∧ l.length ≤ 400 ∧ OutL K H Q (amvL F l d)
theorem c_after_move (T : Tx K mg) : Cl P w K mg base CX0 5 "after_move" (spMove K) := by
  refine cl0 T.d_after_move (ps := ["field", "steps", "move"]) (fun _ _ _ _ _ _ us hl => match us, hl with | [_, _, _], _ => rfl) sc_after_move (fun vs H Q E h => ?_) (fun f cdv A outer st H vs Q E hr h => ?_)
  · obtain ⟨a, p, v, F, d, l, rfl, _⟩ := h
    rfl
  · obtain ⟨a, p, v, F, d, l, rfl, hF, ok, hL, nl, hd, sd, ll, q⟩ := h
    have nd := sc_after_move.nd
    obtain ⟨tk, h_MOST_MOVED_STEPS⟩ := T.g_MOST_MOVED_STEPS
    refine ⟨_, (pss_cons (ps_if (PW.pt (pw_or (pt_not (pt_val (pe_isT "tuple" (by rfl) T.b_isinstance (by rfl) T.b_tuple (by decide +kernel) (pv 2)))) (pw_or (pt_cmpR (opk_notIn_seq (K := K) rfl) (pe_lenS (by rfl) T.b_len (pv 2)) (pe_tup (pa_cons pe_int (pa_cons pe_int pa_nil))) (by rfl)) (pw_or1 (pt_not (pt_val (pe_k (c_is_wholeD T) hr (by decide) (by rfl) (pa_cons (pe_ix (ixk_tup (K := K) rfl) (pv 2) pe_int (fun _ _ => rfl)) pa_nil)))))))) (pss_one (ps_ret pe_non)) pss_nil)
    (pss_cons (ps_set (i := 3) nd rfl (.inl rfl) pe_non)
    (C8.pss_cut (ps_if (pt_cmpR op_eq (pe_lenS (by rfl) T.b_len (pv 2)) pe_int (nomark _)) (pss_cons (ps_asg (pv 2) (pg_tup rfl (pgs_cons (pg_name (i := 4) nd rfl (.inl rfl)) (pgs_cons (pg_name (i := 5) nd rfl (.inl rfl)) pgs_nil))))
    (pss_one (ps_if (pt_cmpR (op_eqD hr.units) (pv 4) pe_str (nomark _)) (pss_one (ps_set (i := 3) nd rfl (.inl rfl) (pe_k (c_after_change T) hr (by decide) (by rfl) (pa_cons (pv 0) (pa_cons (pv 1) (pa_cons (pv 5) pa_nil)))))) (pss_one (ps_if (pt_cmpR (op_eqD hr.units) (pv 4) pe_str (nomark _)) (pss_one (ps_set (i := 3) nd rfl (.inl rfl) (pe_k (c_after_join T) hr (by decide) (by rfl) (pa_cons (pv 1) (pa_cons (pv 5) pa_nil))))) pss_nil))))) (pss_cons (ps_asg (pv 2) (pg_tup rfl (pgs_cons (pg_name (i := 4) nd rfl (.inl rfl)) (pgs_cons (pg_name (i := 5) nd rfl (.inl rfl)) (pgs_cons (pg_name (i := 6) nd rfl (.inl rfl)) pgs_nil)))))
    (pss_one (ps_if (pt_cmpR (op_eqD hr.units) (pv 4) pe_str (nomark _)) (pss_one (ps_set (i := 3) nd rfl (.inl rfl) (pe_k (c_after_part T) hr (by decide) (by rfl) (pa_cons (pv 1) (pa_cons (pv 5) (pa_cons (pv 6) pa_nil)))))) (pss_one (ps_if (pt_cmpR (op_eqD hr.units) (pv 4) pe_str (nomark _)) (pss_one (ps_set (i := 3) nd rfl (.inl rfl) (pe_k (c_after_put T) hr (by decide) (by rfl) (pa_cons (pv 0) (pa_cons (pv 1) (pa_cons (pv 5) (pa_cons (pv 6) pa_nil))))))) pss_nil))))))
    (pss_cons (ps_if (PW.pt (pw_or (pt_cmpR op_isN (pv 3) pe_non (nomark _)) (pw_or1 (pt_cmpR op_gt (pe_lenS (by rfl) T.b_len (pv 3)) (pe_glob (v := .int 400) (by rfl) h_MOST_MOVED_STEPS ⟨_, rfl⟩) (nomark _))))) (pss_one (ps_ret pe_non)) pss_nil)
    (pss_one (ps_ret (pv 3))))))), ?_⟩
    refine ⟨_, rfl, v, .ty "tuple", _, _, _, rfl, .ty _, tyx_data hd, kit_data (.inl rfl) hd, _, rfl, ?_⟩
    cases d with
    | tuple ds =>
      cases hd with
      | tup hS hV =>
      rename_i o os
      have hl := hV.len
      refine iteF ⟨_, rfl, _, os, rfl, .inr hS, two_sz, fun t nt => upd_gen nt fun H1 s1 e1 => ⟨t, _, rfl, .inr (SqT.of e1), rfl, rfl, _, rfl, ?_⟩⟩
      have hS1 := (Tk.of s1).sqT hS
      have hV1 := DpAll.sm s1 _ hV
      have fin : ∀ (r : Option Rw), OutL K H Q (capL r) → ∀ (mv : V) (H2 : Hp), Same H H2 → OutV K H2 mv r → (r = none → Q .non H2) ∧ (∀ l', r = some l' → ∃ b, mv = .ref b ∧ Dp K H2 (.ref b) (dSteps l') ∧ (l'.length ≤ 400 → Q (.ref b) H2) ∧ (¬ l'.length ≤ 400 → Q .non H2)) := fun r hq mv H2 s2 ho => by
        refine ⟨fun e => ?_, fun l' e => ?_⟩
        · subst e
          exact hq H2 s2
        · subst e
          obtain ⟨b, e1, e2⟩ := ho
          have hq : OutL K H Q (if l'.length ≤ 400 then some l' else none) := hq
          refine ⟨b, e1, e2, fun z => ?_, fun z => ?_⟩
          · rw [if_pos z] at hq
            exact hq H2 b s2 e2
          · rw [if_neg z] at hq
            exact hq H2 s2
      match ds, hV, hV1, hl, sd, q with
      | [], _, _, hl, _, q =>
        rw [hl]
        exact iteT (q H1 s1)
      | [_], _, _, hl, _, q =>
        rw [hl]
        exact iteT (by cases ‹PyData› <;> exact q H1 s1)
      | [w, k], hV, hV1, hl, sd, q =>
        rw [hl]
        have sw := shaped_mem sd (show w ∈ [w, k] by simp)
        cases hV1 with
        | cons hw hV1 =>
        cases hV1 with
        | cons hk hV1 =>
        cases hV1
        refine iteF ⟨_, rfl, ix1 hS1 ⟨_, k, rfl, hk, _, rfl, ?_⟩⟩
        cases k with
        | int k =>
          cases hk
          refine iteF ?_
          have q : OutL K H Q (capL (if isW w "change" then chgL F l k else if isW w "join" then joiL l k else none)) := q
          generalize hr0 : (if isW w "change" then chgL F l k else if isW w "join" then joiL l k else none) = r0 at q
          refine ⟨fun σ H' => ∃ (mv : V) (y2 y4 y5 y6 : Option V), σ = [some (.ref a), some (.ref p), y2, some mv, y4, y5, y6] ∧ Same H H' ∧ OutV K H' mv r0, ?_, ?_⟩
          · refine ⟨_, rfl, _, _, rfl, .inr hS1, rfl, _, rfl, ?_⟩
            rw [hl]
            refine iteT ⟨_, rfl, _, _, rfl, hS1, rfl, _, _, rfl, _, _, rfl, rfl, ?_⟩
            refine ⟨_, rfl, w, .str "change", hw, .str _, sw, by decide +kernel, _, rfl, ite2 (fun h => ?_) (fun h => ?_)⟩
            · have h : isW w "change" = true := h
              rw [if_pos h] at hr0
              refine ⟨_, rfl, _, rfl, _, rfl, a, p, k, F, l, rfl, tF hF s1, ok, tS hL s1, nl, by omega, outL_of fun v' H' s' ho => ⟨v', _, _, _, _, rfl, s1.trans s', ?_⟩⟩
              rw [← hr0]
              exact ho
            · have h : ¬ isW w "change" = true := h
              rw [if_neg h] at hr0
              refine ⟨_, rfl, w, .str "join", hw, .str _, sw, by decide +kernel, _, rfl, ite2 (fun h => ?_) (fun h => ?_)⟩
              · have h : isW w "join" = true := h
                rw [if_pos h] at hr0
                refine ⟨_, rfl, _, rfl, p, k, l, rfl, tS hL s1, by omega, outL_of fun v' H' s' ho => ⟨v', _, _, _, _, rfl, s1.trans s', ?_⟩⟩
                rw [← hr0]
                exact ho
              · have h : ¬ isW w "join" = true := h
                rw [if_neg h] at hr0
                refine ⟨.non, _, _, _, _, rfl, s1, ?_⟩
                rw [← hr0]
                rfl
          · rintro σ' H2 ⟨mv, y2, y4, y5, y6, rfl, s2, ho⟩
            obtain ⟨f1, f2⟩ := fin r0 q mv H2 s2 ho
            cases r0 with
            | none =>
              have ho : mv = .non := ho
              subst ho
              exact ⟨_, rfl, rfl, _, rfl, iteT (f1 rfl)⟩
            | some l' =>
              obtain ⟨b, rfl, hb, g1, g2⟩ := f2 l' rfl
              obtain ⟨_, bs, eb, hbS, hbV⟩ := id hb.steps
              cases eb
              have lb := hbV.len
              rw [List.length_map] at lb
              refine ⟨_, rfl, rfl, _, rfl, iteF ⟨_, rfl, _, bs, rfl, .inr hbS, _, _, rfl, rfl, _, rfl, ite2 (fun h => ?_) (fun h => ?_)⟩⟩
              · have h : (400 : Int) < (bs.length : Int) := of_decide_eq_true h
                exact g2 (by omega)
              · have h : ¬ (400 : Int) < (bs.length : Int) := fun z => h (decide_eq_true z)
                exact ⟨_, rfl, g1 (by omega)⟩
        | _ => exact iteT (q H1 s1)
      | [w, k, x], hV, hV1, hl, sd, q =>
        rw [hl]
        have sw := shaped_mem sd (show w ∈ [w, k, x] by simp)
        have sx := shaped_mem sd (show x ∈ [w, k, x] by simp)
        cases hV1 with
        | cons hw hV1 =>
        cases hV1 with
        | cons hk hV1 =>
        cases hV1 with
        | cons hx hV1 =>
        cases hV1
        refine iteF ⟨_, rfl, ix1 hS1 ⟨_, k, rfl, hk, _, rfl, ?_⟩⟩
        cases k with
        | int k =>
          cases hk
          refine iteF ?_
          have q : OutL K H Q (capL (if isW w "part" then prtL l k x else if isW w "put" then putL F l k x else none)) := q
          generalize hr0 : (if isW w "part" then prtL l k x else if isW w "put" then putL F l k x else none) = r0 at q
          refine ⟨fun σ H' => ∃ (mv : V) (y2 y4 y5 y6 : Option V), σ = [some (.ref a), some (.ref p), y2, some mv, y4, y5, y6] ∧ Same H H' ∧ OutV K H' mv r0, ?_, ?_⟩
          · refine ⟨_, rfl, _, _, rfl, .inr hS1, rfl, _, rfl, ?_⟩
            rw [hl]
            refine iteF ⟨_, rfl, _, _, rfl, hS1, rfl, _, _, rfl, _, _, rfl, _, _, rfl, rfl, ?_⟩
            refine ⟨_, rfl, w, .str "part", hw, .str _, sw, by decide +kernel, _, rfl, ite2 (fun h => ?_) (fun h => ?_)⟩
            · have h : isW w "part" = true := h
              rw [if_pos h] at hr0
              refine ⟨_, rfl, _, rfl, _, rfl, p, k, _, x, l, rfl, tS hL s1, hx, by omega, outL_of fun v' H' s' ho => ⟨v', _, _, _, _, rfl, s1.trans s', ?_⟩⟩
              rw [← hr0]
              exact ho
            · have h : ¬ isW w "part" = true := h
              rw [if_neg h] at hr0
              refine ⟨_, rfl, w, .str "put", hw, .str _, sw, by decide +kernel, _, rfl, ite2 (fun h => ?_) (fun h => ?_)⟩
              · have h : isW w "put" = true := h
                rw [if_pos h] at hr0
                refine ⟨_, rfl, _, rfl, _, rfl, _, rfl, a, p, k, _, F, x, l, rfl, tF hF s1, ok, tS hL s1, hx, sx, by omega, outL_of fun v' H' s' ho => ⟨v', _, _, _, _, rfl, s1.trans s', ?_⟩⟩
                rw [← hr0]
                exact ho
              · have h : ¬ isW w "put" = true := h
                rw [if_neg h] at hr0
                refine ⟨.non, _, _, _, _, rfl, s1, ?_⟩
                rw [← hr0]
                rfl
          · rintro σ' H2 ⟨mv, y2, y4, y5, y6, rfl, s2, ho⟩
            obtain ⟨f1, f2⟩ := fin r0 q mv H2 s2 ho
            cases r0 with
            | none =>
              have ho : mv = .non := ho
              subst ho
              exact ⟨_, rfl, rfl, _, rfl, iteT (f1 rfl)⟩
            | some l' =>
              obtain ⟨b, rfl, hb, g1, g2⟩ := f2 l' rfl
              obtain ⟨_, bs, eb, hbS, hbV⟩ := id hb.steps
              cases eb
              have lb := hbV.len
              rw [List.length_map] at lb
              refine ⟨_, rfl, rfl, _, rfl, iteF ⟨_, rfl, _, bs, rfl, .inr hbS, _, _, rfl, rfl, _, rfl, ite2 (fun h => ?_) (fun h => ?_)⟩⟩
              · have h : (400 : Int) < (bs.length : Int) := of_decide_eq_true h
                exact g2 (by omega)
              · have h : ¬ (400 : Int) < (bs.length : Int) := fun z => h (decide_eq_true z)
                exact ⟨_, rfl, g1 (by omega)⟩
        | _ => exact iteT (q H1 s1)
      | w :: k :: x :: y :: r, _, _, hl, _, q =>
        rw [hl]
        have e : inV (.int (((w :: k :: x :: y :: r).length : Nat) : Int)) [.int 2, .int 3] = false := by
          have h2 : (((w :: k :: x :: y :: r).length : Nat) : Int) ≠ 2 := by simp only [List.length_cons]; omega
          have h3 : (((w :: k :: x :: y :: r).length : Nat) : Int) ≠ 3 := by simp only [List.length_cons]; omega
          generalize (((w :: k :: x :: y :: r).length : Nat) : Int) = z at h2 h3
          show (eqV (.int 2) (.int z) || (eqV (.int 3) (.int z) || false)) = false
          have e2 : eqV (.int 2) (.int z) = (2 == z) := rfl
          have e3 : eqV (.int 3) (.int z) = (3 == z) := rfl
          rw [e2, e3]
          simp [h2.symm, h3.symm]
        rw [e]
        refine iteT ?_
        have q : OutL K H Q none := by
          cases k <;> first | exact q | (cases x <;> exact q)
        exact q H1 s1
    | _ => exact iteT (q H (Same.refl _))
end
end XB
set_option Elab.async false
set_option linter.all false
set_option maxRecDepth 100000
set_option maxHeartbeats 4000000
/-! defs that raise, called by their names; what stands when the tables of code objects grow -/
namespace XB
open PySem PySem.Spec PyProof.Rows L2
section
variable {P : Program} {w : World} {K : PySem.W.Frag} {mg : Str → Option Value} {base : Heap}
theorem clX {x : Str} {st : Stmt} {N ps : List Str} {k : Nat} {sp : Sp} (D : Dn K mg x st)
    (hb : ∀ (kV doc pm : Value) (an : Option Addr) (cdv ct : Value) (us : List Value), us.length = ps.length → bindArgs (PySem.W.fnOf x x (defArgs st) (defBody st) (defScope st) .none kV doc pm an cdv ct) ⟨us, []⟩ = pure (ps.zip us))
    (S : FnScope N ps (defScope st)) (len : ∀ vs H Q E, sp vs H Q E → vs.length = ps.length)
    (hbody : ∀ (f : Addr) (cdv : Value) (A : Around) (outer : List Env) (s : Shared) (H : Hp) (vs : List V) (Q : VK) (E : XK), Room k (A.deeper (envOfC x (defScope st) s.heap.objs.size f cdv)) → sp vs H Q E →
      ∃ t, PSs (cxOf (L2.CX P w) P w K mg base N x (defScope st) f cdv A outer s H E) (defBody st) t ∧ t { nx := fun _ H' => Q .non H', rt := Q } (start N vs) H) : Cl P w K mg base (L2.CX P w) (k + 1) x sp := by
  obtain ⟨f, fd, F, hm⟩ := D.ex
  exact ⟨f, fd, ps, F.okX S len (fun cdv A outer s H vs Q E hr h => hbody f cdv A outer s H vs Q E hr h), hm, F.kp, F.binds hb⟩
end
section
variable {X : Cx} {k j : Nat} {x : Str} {sp : Sp} {p pos : Pos} {e : Expr} {es : List Expr} {t : TA} {E : XK}
/-- a def that may raise, called where what it raises may pass -/
theorem pe_kX (c : Cl X.prog X.w X.K X.mg X.base (L2.CX X.prog X.w) k x sp) (hr : Room j X.A) (hk : k ≤ j) (tk : Takes X fun cls d _ H => E cls d H) (hg : Gl X x) (ha : PA X (e :: es) t)
    (hdb : (x == ("__debug__" : Str)) = false := by decide) (he : starEach (e :: es) X.env = (false, eval e X.env) :: starEach es X.env := by rfl) (hpl : (backTo pos (starEach es X.env)).any (·.1) = false := by rfl) :
    PE X (.Call (.Name x p) (e :: es) [] pos) (tCall sp [] E t) := by
  obtain ⟨f, fd, ps, F, hm, kp, b⟩ := c.ex
  exact pe_call F (hr.mono hk) hg hm kp b .nil (passes_call tk fun _ _ _ _ h => h) ha hdb he hpl
/-- a def that may raise, called where nothing it raises can come about -/
theorem pe_kL (c : Cl X.prog X.w X.K X.mg X.base (L2.CX X.prog X.w) k x sp) (hr : Room j X.A) (hk : k ≤ j) (hg : Gl X x) (ha : PA X (e :: es) t)
    (hdb : (x == ("__debug__" : Str)) = false := by decide) (he : starEach (e :: es) X.env = (false, eval e X.env) :: starEach es X.env := by rfl) (hpl : (backTo pos (starEach es X.env)).any (·.1) = false := by rfl) :
    PE X (.Call (.Name x p) (e :: es) [] pos) (tCall sp [] E0 t) := by
  obtain ⟨f, fd, ps, F, hm, kp, b⟩ := c.ex
  exact pe_call F (hr.mono hk) hg hm kp b .nil passL ha hdb he hpl
end
/-! ### the tables of code objects grow, all else stands -/
open LamX (ExtN Tabs TabS)
theorem extN_tk {H H' : Hp} (s : ExtN H H') : Tk H H' := ⟨fun b xs e => s b _ e fun ps z => (nomatch z), fun b o u e => s b _ e fun ps z => (nomatch z)⟩
theorem extN_at {H H' : Hp} (s : ExtN H H') {b : Addr} {o : HO} (e : H b = some o) (n : ∀ ps, o ≠ .tbl ps) : H' b = some o := s b o e n
theorem extN_lst {H H' : Hp} (s : ExtN H H') {b : Addr} {xs : List V} (e : H b = some (.lst xs)) : H' b = some (.lst xs) := s b _ e fun ps z => (nomatch z)
theorem extN_seq {K : PySem.W.Frag} {H H' : Hp} (s : ExtN H H') {a : Addr} {xs : List V} (h : SqL K H a xs) : SqL K H' a xs := by
  rcases h with h | h
  · rcases h with h | ⟨o, h⟩
    · exact .inl (.inl (extN_lst s h))
    · exact .inl (.inr ⟨o, s a _ h fun ps z => (nomatch z)⟩)
  · exact .inr h
mutual
theorem Dp.ext {K : PySem.W.Frag} {H H' : Hp} (s : ExtN H H') : ∀ (d : PyData) {v : V}, Dp K H v d → Dp K H' v d
  | .none, _, h => by cases h; exact .non
  | .bool b, _, h => by cases h; exact .bl b
  | .int i, _, h => by cases h; exact .int i
  | .str x, _, h => by cases h; exact .str x
  | .list ds, _, h => by
    cases h with
    | lst h1 h2 => exact .lst (extN_seq s h1) (DpAll.ext s ds h2)
  | .tuple ds, _, h => by
    cases h with
    | tup h1 h2 => exact .tup ((extN_tk s).sqT h1) (DpAll.ext s ds h2)
  | .dict _, _, h => by cases h
theorem DpAll.ext {K : PySem.W.Frag} {H H' : Hp} (s : ExtN H H') : ∀ (ds : List PyData) {vs : List V}, DpAll K H vs ds → DpAll K H' vs ds
  | [], _, h => by cases h; exact .nil
  | d :: ds, _, h => by
    cases h with
    | cons h1 h2 => exact .cons (Dp.ext s d h1) (DpAll.ext s ds h2)
end
theorem tabs_same {H H' : Hp} {T : List (Addr × Str)} (t : Tabs T H) (s : Same H H') : Tabs T H' := t.ext s
theorem tabs_first {H : Hp} {c P : Addr} {q : Str} (h : H P = some (.tbl #[])) : Tabs [(P, q)] H := fun y hy => by
  rw [List.mem_singleton.mp hy]
  exact TabS.nil h
theorem extN_same {H H' : Hp} (s : Same H H') : ExtN H H' := ExtN.of s
end XB
set_option Elab.async false
set_option linter.all false
set_option maxRecDepth 100000
set_option maxHeartbeats 4000000
/-! an own exception made by a call with keywords alone -/
namespace PySem
namespace XOK
open Builtin Builtin.ObjectAttr HandSPX PySem.Spec PyProof.Rows
section
variable {prog : Program} {w : World} {A : Around} {E : Value → Shared → Prop} {R : Result → Shared → Prop} {h : Heap} {g : Array GenState} {d : Drawn} {t : Nat} {os : OsState}
variable {nm q : Str} {C N : Addr} {bs bm bmB : List Value} {hdct : Bool} {sn : List Str} {sub : List Value} {ab : Bool} {col : Option Bool} {dd : Option Addr} {k0 k1 k2 k3 k5 : Option Value} {B newId initId : String} {kw : List (Str × Value)}
theorem chk_type (hC : h.get? C = some (excClassObj nm q C N bs bm hdct sn sub ab col dd k0 k1 k2 k3 k5 newId)) {M : Model} {Q : Unit → Shared → Prop} (hq : Q () ⟨h, g, d, t, os⟩) : wpAny M A (checkBuiltinCall "type.__call__" ⟨[.ref C], kw⟩) Q E ⟨h, g, d, t, os⟩ := by
  have z3 := tc_sub
  have zT : (⟨h, g, d, t, os⟩ : Shared).TypeIs (.ref C) "type" := ⟨_, hC, rfl⟩
  simp only [tc_split, tc_kind, checkBuiltinCall]
  repeat (any_goals (first | assumption | with_reducible refine wpAny_onRaise ?_ | with_reducible refine wpAny_loadPart_at hC ?_ | with_reducible refine wpAny_map ?_ | wp_step))
theorem chk_new (F : ExcBaseFacts B newId initId bmB) (hT : ∀ Y : String, bm.contains (.type Y) = bmB.contains (.type Y)) {M : Model} {Q : Unit → Shared → Prop}
    (hC : h.get? C = some (excClassObj nm q C N bs bm hdct sn sub ab col dd k0 k1 k2 k3 k5 newId)) (hq : Q () ⟨h, g, d, t, os⟩) : wpAny M A (checkBuiltinCall newId ⟨[.ref C], kw⟩) Q E ⟨h, g, d, t, os⟩ := by
  have zc : (Value.ref C :: bm).contains (.type B) = true := by rw [List.contains_cons, hT, F.hasB, Bool.or_true]
  have zs := F.noStar
  simp only [F.newRow, F.newSplit, F.newKind, checkBuiltinCall]
  repeat (first | refine wpAny_loadPart_at hC ?_ | refine wpAny_staticBase_exc hC ?_ | (refine wpAny_isSubtype_exc hC ?_; rw [zc]) | refine wpAny_madeBy_exc hC ?_ | simp only [Bool.false_eq_true, bne_self_eq_false, if_false] | wp_step)
  exact hq
theorem make_new (F : ExcBaseFacts B newId initId bmB) (hT : ∀ Y : String, bm.contains (.type Y) = bmB.contains (.type Y)) (hC : h.get? C = some (excClassObj nm q C N bs bm hdct sn sub ab col dd k0 k1 k2 k3 k5 newId))
    (hq : R (.ok (.ret (.ref (h.objs.size + 1)))) ⟨(h.push { cls := .type "tuple", data := .seq #[] }).push { cls := .ref C, data := .fields #[.ref h.objs.size, .none, .none, .none, .bool false, .none] }, g, d, t, os⟩) :
    codeAny (model prog w) A (.builtin newId ⟨[.ref C], kw⟩) R ⟨h, g, d, t, os⟩ := by
  have z1 : (Value.ref C :: bm).contains (.type B) = true := by rw [List.contains_cons, hT, F.hasB, Bool.or_true]
  have z2 : (Value.ref C :: bm).contains (.type "AttributeError") = false := by rw [List.contains_cons, hT, F.noAttr, Bool.or_false]; rfl
  have z3 : (Value.ref C :: bm).contains (.type "NameError") = false := by rw [List.contains_cons, hT, F.noName, Bool.or_false]; rfl
  have zl : ([] : List Value).length ≤ sizeLine := Nat.zero_le _
  have ze := F.ends
  refine codeAny_builtinAt F.entry ?_
  unfold Builtin.«BaseException.__new__»
  refine wpAt_bind (show wpAt _ _ _ (stack >>= _) _ _ _ from ?_)
  refine wpAt_bind (wpAt_stack fun pa lo => wpAt_of_wpAny ?_)
  wp_walk
  refine (wpAt_of_wpAny ?_)
  rw [F.owner]
  repeat (first | with_reducible refine wpAny_loadPart_at hC ?_ | with_reducible refine wpAny_madeHere_exc F.canon hC ?_ | (with_reducible refine wpAny_isSubtype_exc hC ?_; first | rw [z1] | rw [z2] | rw [z3]) | wp_step)
  show R _ _
  rw [Heap.size_push]
  exact hq
theorem type_kw (F : ExcBaseFacts B newId initId bmB) (hT : ∀ Y : String, bm.contains (.type Y) = bmB.contains (.type Y)) {fI : Addr} {Q : Fin → Shared → Prop} (hC : h.get? C = some (excClassObj nm q C N bs bm hdct sn sub ab col dd k0 k1 k2 k3 k5 newId))
    (hi : W.Looks (model prog w) h (typeLookup (.ref C) "__init__") (some (.ref fI))) (hb : ∀ self, W.Looks (model prog w) h (bindSpecial (.ref fI) self) (.ref fI, [self]))
    (hq : codeAny (model prog w) A (.call (.ref fI) ⟨[.ref (h.objs.size + 1)], kw⟩) (fun r s' => match r with | .ok (.ret v) => v = .none ∧ Q (.done (.ret (.ref (h.objs.size + 1)))) s' | .ok _ => False | .error e => E e s')
      ⟨(h.push (W.kdv_tup [])).push (excO C h.objs.size), g, d, t, os⟩) : wpAny (model prog w) A (Builtin.«type.__call__» ⟨[.ref C], kw⟩) Q E ⟨h, g, d, t, os⟩ := by
  repeat (first | with_reducible refine wpAny_madeBy_exc hC ?_ | with_reducible refine wpAny_loadPart_at hC ?_ | wp_step)
  refine codeAny_call_builtin_code (Code.quiet_builtin _ F.quiet) (chk_new F hT hC (make_new F hT hC ?_))
  show wpAny _ _ _ _ _ _
  obtain ⟨h2, e2⟩ : ∃ h2, h2 = (h.push (W.kdv_tup [])).push (excO C h.objs.size) := ⟨_, rfl⟩
  have kp : ∀ b o, h.get? b = some o → h2.get? b = some o := fun b o e => by
    rw [e2]
    exact Heap.get?_push_of_some _ (Heap.get?_push_of_some _ e)
  have hg : h2.get? (h.objs.size + 1) = some (excO C h.objs.size) := by
    rw [e2]
    heap_get
  have hC2 := kp _ _ hC
  have zz : (Value.ref C :: bm).contains (.ref C) = true := by simp
  have j1 := hi.keeps kp
  have j2 := (hb (.ref (h.objs.size + 1))).keeps kp
  rw [← e2] at hq
  rw [show (h.push { cls := .type "tuple", data := .seq #[] }).push { cls := .ref C, data := .fields #[.ref h.objs.size, .none, .none, .none, .bool false, .none] } = h2 from e2.symm]
  unfold isInstance
  repeat (first | (with_reducible refine wpAny_isSubtype_exc hC2 ?_; rw [zz]) | with_reducible refine wpAny_loadPart_at hg ?_ | wp_step)
  show wpAny _ _ (typeLookup (.ref C) _) _ _ _
  refine j1.at (wpAny_holding (wpAny_bind (j2.at (wpAny_bind (wpAny_call (codeAny_mono hq ?_))))))
  rintro (e | fl) s' z
  · exact z
  · cases fl with
    | ret v =>
      obtain ⟨rfl, z⟩ := z
      first
        | exact wpAny_pure (wpAny_pure z)
        | (wp_walk; exact z)
    | next => exact False.elim z
    | brk => exact False.elim z
    | cont => exact False.elim z
theorem call_kw (F : ExcBaseFacts B newId initId bmB) (hT : ∀ Y : String, bm.contains (.type Y) = bmB.contains (.type Y)) {fI : Addr} (hC : h.get? C = some (excClassObj nm q C N bs bm hdct sn sub ab col dd k0 k1 k2 k3 k5 newId))
    (hi : W.Looks (model prog w) h (typeLookup (.ref C) "__init__") (some (.ref fI))) (hb : ∀ self, W.Looks (model prog w) h (bindSpecial (.ref fI) self) (.ref fI, [self]))
    (hq : codeAny (model prog w) (A.under (.builtin "type.__call__" ⟨[.ref C], kw⟩)) (.call (.ref fI) ⟨[.ref (h.objs.size + 1)], kw⟩) (W.InitBack (h.objs.size + 1) R) ⟨(h.push (W.kdv_tup [])).push (excO C h.objs.size), g, d, t, os⟩) :
    codeAny (model prog w) A (.call (.ref C) ⟨[], kw⟩) R ⟨h, g, d, t, os⟩ := by
  have y1 := tc_lookup
  have y2 := tc_bind (.ref C)
  have yT : (⟨h, g, d, t, os⟩ : Shared).TypeIs (.ref C) "type" := ⟨_, hC, rfl⟩
  refine codeAny_of_tree (show wpAny _ _ (callAny (.ref C) _) _ _ _ from ?_)
  repeat (any_goals (first | assumption | with_reducible refine wpAny_loadPart_at hC ?_ | wp_step))
  refine ⟨rfl, codeAny_call_builtin_at (Code.quiet_builtin _ (by decide +kernel)) entry_typeCall (chk_type hC (type_kw F hT hC hi hb (codeAny_mono hq ?_)))⟩
  rintro (e | fl) s' z
  · exact z
  · cases fl <;> exact z
end
end XOK
end PySem
namespace XB
open PySem PySem.Spec PyProof.Rows L2
section
variable {X : Cx}
/-- C(f = e) -/
theorem pe_newK {k j : Nat} {x f : Str} {e : Expr} {te : TE} {p pos kpos : Pos} (c : MkE X.prog X.w X.K X.mg X.base k x f) (hr : Room j X.A) (hk : k + 1 ≤ j) (hg : Gl X x) (ha : PE X e te)
    (hall : (backToKw pos (keywordEach [⟨some f, e, kpos⟩] X.env)).all (·.1.isSome) = true := by rfl) (hks : (backToKw pos (keywordEach [⟨some f, e, kpos⟩] X.env)).filterMap (·.1) = [f] := by rfl) (hdb : (x == ("__debug__" : Str)) = false := by decide)
    (hpl : ((backTo pos (starEach ([] : List Expr) X.env)).any (·.1) || (backToKw pos (keywordEach [⟨some f, e, kpos⟩] X.env)).any (·.1.isNone)) = false := by rfl) :
    PE X (.Call (.Name x p) [] [⟨some f, e, kpos⟩] pos) (tNew X.K X.mg x f te) := by
  obtain ⟨C, fI, fd, ps, h1, h2, h3, h4, h5, F, _, b⟩ := c.ex
  constructor
  intro pins s σ H Q I h
  obtain ⟨nm, q, N, bs, bm, sn, sub, ab, col, dd, k0, k1, k2, k3, k5, B, ni, ii, bmB, hC, hF, hT, _, _⟩ := h2.cls
  refine wpAny_Call_Name_kw (ld_glob I hg h1 ?_ hdb)
  refine PySem.W.callWith_KW0 (h₀ := X.base) I.ok.mod.kin h2.kC hall ?_ hpl
  have e1 : ∀ P : Addr → Prop, (∀ C', X.mg x = some (.ref C') → ExcC X.K C' → P C') = P C := fun P => propext ⟨fun g => g C h1 h3, fun g C' z _ => by rw [cls_eq z h1]; exact g⟩
  unfold tNew rNew at h
  simp only [e1] at h
  refine thn ((pk_cons ha pk_nil).run pos pins s σ H _ I (show tCons te tNil σ H (fun vs H2 => vs.length ≤ 1000 ∧ ∀ a, H2 a = none → spIni X.K C f (.ref a :: vs) (upd H2 a (exo a C none)) (fun v H3 => v = .non ∧ Q (.ref a) H3) fun _ _ _ => False) from h)) ?_
  rintro ws ⟨hp, g, dr, tk, os⟩ ⟨zs, H1, I1, rz, hz, q1⟩
  refine ⟨I1.kIn, ?_⟩
  rw [hks]
  have up1 : hp.objs.size ≤ hp.objs.size + 1 := by omega
  have hq := q1 (hp.objs.size + 1) (I1.hok.fresh up1)
  obtain ⟨a', y', ev, _⟩ := id hq
  obtain ⟨_, ez⟩ := List.cons.inj ev
  subst ez
  obtain ⟨u, rfl, ru⟩ := rz.one
  obtain ⟨h2', eh2⟩ : ∃ h2', h2' = (hp.push (PySem.W.kdv_tup [])).push (PySem.HandSPX.excO C hp.objs.size) := ⟨_, rfl⟩
  have kk : ∀ b o, hp.get? b = some o → h2'.get? b = some o := fun b o z => by
    rw [eh2]
    exact Heap.get?_push_of_some _ (Heap.get?_push_of_some _ z)
  have hget : h2'.get? (hp.objs.size + 1) = some (PySem.HandSPX.excO C hp.objs.size) := by
    rw [eh2]
    heap_get
  have I2 : Inv X pins σ (upd H1 (hp.objs.size + 1) (exo (hp.objs.size + 1) C none)) ⟨h2', g, dr, tk, os⟩ := I1.laid (t' := tk) (a := hp.objs.size + 1) (h' := h2') kk up1 (exo_ok hget)
  have r2 : Vals [V.ref (hp.objs.size + 1), y'] [Value.ref (hp.objs.size + 1), u] := .cons rfl (.cons ru .nil)
  refine wpAny_call (PySem.XOK.call_kw (kw := [(f, u)]) hF hT (I1.kIn _ _ hC) (PySem.W.looks_findIn I1.kIn h4) (fun self => PySem.W.bind_fn I1.kIn self h5) ?_)
  rw [← eh2]
  refine codeAny_mono (F.run _ X.stack _ _ ⟨[.ref (hp.objs.size + 1)], [(f, u)]⟩ [.ref (hp.objs.size + 1), u] _ _ (fun _ _ _ => False) ((hr.mono hk).make C [] [(f, u)]) (I2.env0.make C [] [(f, u)]) (b _ _ _) r2 hq) ?_
  rintro (er | fl) s' hq'
  · exact pass0 pins σ _ _ er s' I2 hq'
  · cases fl with
    | ret u =>
      obtain ⟨v, H2, os2, bare2, un2, hok2, rv, ev, q2⟩ := hq'
      subst ev
      exact ⟨rv, .ref (hp.objs.size + 1), H2, I2.call' (ch := []) os2 un2 hok2 bare2 (fun b z => absurd z (by simp)), rfl, q2⟩
    | next => exact False.elim hq'
    | brk => exact False.elim hq'
    | cont => exact False.elim hq'
end
end XB
set_option Elab.async false
set_option linter.all false
set_option maxRecDepth 100000
set_option maxHeartbeats 4000000
/-! an exception that is caught and kept -/
namespace XB
open PySem PySem.Spec PyProof.Rows L2
section
variable {X : Cx} {pins : List (Addr × Obj)} {σ : L2.St} {H : Hp} {s : Shared} {a : Addr} {o : HO}
/-- an object that nothing told of, new since the entry, is told of -/
theorem adopt (I : Inv X pins σ H s) (hn : H a = none) (h0 : X.s_0.heap.get? a = none) (hL : a ≠ X.env.locals) (hc : ∀ x c, X.env.cells.lookup x = some c → c ≠ a) (hp : ∀ p ∈ X.pn ++ pins, p.1 ≠ a) (new : ObjOk X.prog X.w (upd H a o) s.heap a o) : Inv X pins σ (upd H a o) s := by
  obtain ⟨b1, b2, b3, b4, b5, b6, b7⟩ := I.base
  have nh : ∀ {b : Addr} {u : HO}, H b = some u → b ≠ a := fun {b u} e z => by
    rw [z, hn] at e
    cases e
  refine ⟨I.ok, I.os, I.bare, ⟨b1, b2, fun b u e n hx => ?_, b4, fun b xs e => ?_, fun b u v e => ?_, fun b ps e => ?_⟩, I.loc, I.cell, ?_, fun x c e => ?_, fun p hm => ?_, ?_, I.len⟩
  · have : b ≠ a := fun z => by
      rw [z, h0] at e
      cases e
    rw [upd_ne this]
    exact b3 b u e n hx
  · have z := b5 b xs e
    rw [upd_ne (nh z), z]
  · have z := b6 b u v e
    rw [upd_ne (nh z), z]
  · obtain ⟨more, z⟩ := b7 b ps e
    exact ⟨more, by rw [upd_ne (nh z), z]⟩
  · rw [upd_ne (Ne.symm hL)]
    exact I.free
  · rw [upd_ne (hc x c e)]
    exact I.freeC x c e
  · obtain ⟨p1, p2, p3⟩ := I.pin p hm
    exact ⟨p1, by rw [upd_ne (hp p hm), p2], p3⟩
  · exact I.hok.laidN (fun _ _ e => e) hn new
end
/-- what the clause 'except x as n' wishes, the exception being kept -/
def wKeep (K : PySem.W.Frag) (c : Value) (i : Nat) (ts : Addr → Value → Option Addr → TS) (Wout : WX) (D : Ends) : WX := fun cls d σ H =>
  ∃ b, PySem.W.exmOne K cls c = some b ∧ (b = true → ∀ a, H a = none → ts a cls d { nx := fun σ' H' => D.nx (σ'.set i none) (upd H' a (exg a cls d)), rt := fun v H' => D.rt v (upd H' a (exg a cls d)), bk := fun σ' H' => D.bk (σ'.set i none) (upd H' a (exg a cls d)), ct := fun σ' H' => D.ct (σ'.set i none) (upd H' a (exg a cls d)) } (σ.set i (some (.ref a))) H) ∧
    (b = false → Wout cls d σ H)
section
variable {X : Cx} {x n : Str} {c : Value} {i : Nat} {body suite : List Stmt} {b₀ : Stmt} {np pos pos' : Pos} {tb : WX → TS} {ts : Addr → Value → Option Addr → TS} {Wout : WX}
theorem ps_keep (hx : X.ex = []) (hs : X.stack = X.env :: X.outer) (hf : X.env.frame = some X.env.locals) (hN : X.N.Nodup) (hi : X.N[i]? = some n) (hln : X.env.kindOf n = some .local) (hc : L2.Names X x c) (tk : Takes X Wout)
    (hb : ∀ (W : WX) (pn : List (Addr × Obj)) (xe : Value → Shared → Prop), Takes (X.tr pn xe) W → PassesOwn (model X.prog X.w) X.A X.env xe → PSs (X.tr pn xe) body (tb W))
    (hsu : ∀ (a : Addr) (oe : Obj) (cls : Value) (d : Option Addr) (pn : List (Addr × Obj)), Zc cls d oe → (∃ vs, oe.data = .fields vs) → PSs (X.suite a ((a, oe) :: pn)) (b₀ :: suite) (ts a cls d)) :
    PS X (.Try body [.ExceptHandler (some (.Name x np)) (some n) (b₀ :: suite) pos'] [] [] pos) (fun D σ H => tb (wKeep X.K c i ts Wout D) D σ H) := by
  constructor
  intro pins s σ H D I h
  have kk := I.ok
  have frm : X.A.frames = some (X.env :: X.outer) := by rw [kk.frames, hs]
  have lo : Loc X.env.scope n := .inl hln
  refine wpAny_Try_except (wpAny_mono ((hb (wKeep X.K c i ts Wout D) (X.pn ++ pins) (fun e s₁ => wpAny (model X.prog X.w) X.A (noteFrame e X.env) (fun _ s₂ => wpAny (model X.prog X.w) X.A (setFlight e none) (fun _ s₃ => wpAny (model X.prog X.w) X.A (handleBy e X.env [.ExceptHandler (some (.Name x np)) (some n) (b₀ :: suite) pos']) (SP X pins D) X.xe s₃) X.xe s₂) X.xe s₁) ?_ PassesOwn.looking).run [] s σ H D (I.toTry _) h) ?_ (fun _ _ he => he))
  · rintro u s' ⟨a, B, sI, pins', σ', H', cls, d, rfl, J', nb, up, sky, na, os, ag, b, hb1, hyes, hno⟩
    have J : Inv X pins σ' H' sI := J'.ofTry kk
    rw [hs] at sky
    show wpAny (model X.prog X.w) X.A (noteFrame (.ref a) X.env) _ _ _
    refine Sky.land Zc.steady frm hf sky fun h3 fl3 up3 => ?_
    have J3 : Inv X pins σ' H' { s' with heap := h3 } := J.landed nb fl3.1 (up.trans up3) os ag
    obtain ⟨oe3, vs3, he3, hz3, hd3⟩ := fl3.there
    have nfr : a ∉ frs (X.env :: X.outer) := fun hm => by
      obtain ⟨_, o', e', hnf⟩ := fl3.2.2.1.mem hm
      rw [he3] at e'
      cases e'
      exact hnf _ hd3
    have nL : a ≠ X.env.locals := fun z => nfr (List.mem_filterMap.mpr ⟨X.env, List.mem_cons_self, by rw [hf, z]⟩)
    have nF : a ∉ X.fs := fun hm => by
      obtain ⟨e, he, q⟩ := List.mem_filterMap.mp hm
      exact nfr (List.mem_filterMap.mpr ⟨e, List.mem_cons_of_mem _ he, q⟩)
    have Ba : B.get? a = none := fl3.2.1
    have gone : sI.heap.get? a = none := by
      cases q : sI.heap.get? a with
      | none => rfl
      | some o =>
        have z := nb a o q (by rw [hs]; exact nfr)
        rw [Ba] at z
        cases z
    have g0 : X.s_0.heap.get? a = none := by
      cases q : X.s_0.heap.get? a with
      | none => rfl
      | some o =>
        obtain ⟨o', z⟩ := J.base.there a o q (by rw [hx]; simp)
        rw [gone] at z
        cases z
    have gc : ∀ x c, X.env.cells.lookup x = some c → c ≠ a := fun x c e z => by
      obtain ⟨v, o, ho, _⟩ := J.cell x c e
      rw [z, gone] at ho
      cases ho
    have gp : ∀ p ∈ X.pn ++ pins, p.1 ≠ a := fun p hp z => by
      have w := (J.pin p hp).1
      rw [z, gone] at w
      cases w
    have S3 := J3.suite he3 hd3 na nL nF
    refine wpAny_handleBy_cons (codeAny_handlers_test ?_) (by intro q; cases q)
    have LT : PySem.W.Looks (model X.prog X.w) h3 (typeOf (.ref a)) cls := fun A Q E s k q => wpAny_typeOf_ref (k _ _ he3) (by rw [hz3.1]; exact q)
    have LM := PySem.W.exm_one (M := model X.prog X.w) J3.kIn LT hb1
    have tst : ∀ {Q : Value → Shared → Prop} {E : Value → Shared → Prop}, Q c { s' with heap := h3 } → wpAny (model X.prog X.w) (X.A.mark (some (.ref a))) (eval (.Name x np) X.env) Q E { s' with heap := h3 } := fun {Q E} q => by
      obtain ⟨hg, hdbg, hm | ⟨hm, hv, hnn⟩⟩ := hc
      · exact ld_glob (X := X.suite a ((a, oe3) :: (X.pn ++ pins))) S3 hg hm q hdbg
      · exact ld_blt (X := X.suite a ((a, oe3) :: (X.pn ++ pins))) S3 hg hm hv q hnn hdbg
    refine tst (LM.here ?_)
    cases b with
    | true =>
      refine codeAny_handlers_suite_as (HandSPX.lands_againZ fl3 fun h4 fl4 up4 => ?_)
      have J4 : Inv X pins σ' H' { s' with heap := h4 } := J.landed nb fl4.1 ((up.trans up3).trans up4) os ag
      obtain ⟨oe4, vs4, he4, hz4, hd4⟩ := fl4.there
      have S4 := J4.suite he4 hd4 na nL nF
      refine store_ok (X := X.suite a ((a, oe4) :: (X.pn ++ pins))) (v := .ref a) S4 hN hi lo rfl (fun s5 S5 => ?_) (.inr hln)
      refine wpAny_mono ((hsu a oe4 cls d (X.pn ++ pins) hz4 ⟨_, hd4⟩).run [] s5 _ H' _ S5 (hyes rfl a na)) ?_ (fun _ _ z => False.elim z)
      have fin : ∀ {s6 : Shared} {σ6 : L2.St} {H6 : Hp} {Q : Shared → Prop}, Inv (X.suite a ((a, oe4) :: (X.pn ++ pins))) [] σ6 H6 s6 → (∀ s7, Inv X pins (σ6.set i none) (upd H6 a (exg a cls d)) s7 → Q s7) →
          wpAny (model X.prog X.w) X.A (do bindName X.env n .none; unbindBehindTheSuite X.env n pos') (fun _ s7 => Q s7) X.xe s6 := fun {s6 σ6 H6 Q} S6 hq => by
        obtain ⟨w1, w2, _⟩ := S6.pin (a, oe4) (List.mem_append_left _ List.mem_cons_self)
        exact gone_ok (adopt (S6.unsuite kk) w2 g0 nL gc gp (exg_ok w1 hz4.1 hz4.2 hd4)) hN hi hln hq
      intro f s6 hsp
      cases f with
      | next =>
        obtain ⟨σ6, H6, S6, q6⟩ := hsp
        exact fin S6 fun s7 J7 => ⟨_, _, J7, q6⟩
      | brk =>
        obtain ⟨σ6, H6, S6, q6⟩ := hsp
        exact fin S6 fun s7 J7 => ⟨_, _, J7, q6⟩
      | cont =>
        obtain ⟨σ6, H6, S6, q6⟩ := hsp
        exact fin S6 fun s7 J7 => ⟨_, _, J7, q6⟩
      | ret u =>
        obtain ⟨v6, σ6, H6, S6, r6, q6⟩ := hsp
        exact fin S6 fun s7 J7 => ⟨_, _, _, J7, r6, q6⟩
    | false =>
      show wpAny _ X.A (handleBy (.ref a) X.env []) _ _ _
      refine wpAny_handleBy_nil ?_
      obtain ⟨k1, k2, k3, oe, vs, Tb, oT, tss, he, hz, hd, h1, hr⟩ := id fl3
      unfold PySem.passOn
      refine wpAny_bind (wpAny_field he hd h1 ?_)
      rw [if_neg (show ¬ ((Value.ref Tb == Value.none) = true) from by simp)]
      have last : wpAny (model X.prog X.w) X.A (setFlight (.ref a) X.env.frame) (fun _ s4 => wpAny (model X.prog X.w) X.A (throw (.ref a) : Sem Flow) (SP X pins D) X.xe s4) X.xe { s' with heap := h3 } := by
        rw [hf]
        refine HandSPX.setFlight_upZ fl3 fun h4 hh4 up4 => wpAny_throw (tk _ _ ⟨a, B, sI, pins, σ', H', cls, d, rfl, J, nb, (up.trans up3).trans up4, .inr (.inr ?_), na, os, ag, hno rfl⟩)
        rw [hs]
        exact hh4
      first
        | exact wpAny_bind (wpAny_pure (wpAny_bind last))
        | exact wpAny_bind last
  · intro f s1 hsp
    cases f with
    | next =>
      obtain ⟨σ', H', J', q⟩ := hsp
      exact wpAny_execs_nil ⟨σ', H', J'.ofTry kk, q⟩
    | brk =>
      obtain ⟨σ', H', J', q⟩ := hsp
      exact ⟨σ', H', J'.ofTry kk, q⟩
    | cont =>
      obtain ⟨σ', H', J', q⟩ := hsp
      exact ⟨σ', H', J'.ofTry kk, q⟩
    | ret u =>
      obtain ⟨v, σ', H', J', r, q⟩ := hsp
      exact ⟨v, σ', H', J'.ofTry kk, r, q⟩
end
/-! ### an own exception raised -/
section
variable {X : Cx}
/-- C(e) to be raised -/
@[irreducible] def rMk (K : PySem.W.Frag) (mg : Str → Option Value) (x f : Str) (σ : L2.St) (y : V) (H1 : Hp) (Q : XK) : Prop := ∀ C, mg x = some (.ref C) → ExcC K C → (tNil σ H1 fun ys H2 => (y :: ys).length ≤ 1000 ∧ ∀ a, H2 a = none → spIni K C f (.ref a :: (y :: ys)) (upd H2 a (exo a C none))
  (fun v H3 => v = .non ∧ ∃ (d : Addr) (fs : List (Str × V)), H3 a = some (exo a C (some d)) ∧ H3 d = some (exd d fs) ∧ H2 d = none ∧ Q (.ref C) (some d) (upd (del H3 a) d (.xd fs))) fun _ _ _ => False)
theorem mk_at {K : PySem.W.Frag} {mg : Str → Option Value} {x f : Str} {y : V} {σ : L2.St} {H1 : Hp} {Q : XK} (q : ∀ C H' d, mg x = some (.ref C) → ExcC K C → Same H1 H' → H' d = some (.xd [(f, y)]) → Q (.ref C) (some d) H') : rMk K mg x f σ y H1 Q := by
  unfold rMk
  intro C hC T
  refine (show 1 ≤ 1000 ∧ _ from ⟨by decide, fun a ha => ⟨a, y, rfl, upd_same, fun dx hdx hne => ⟨rfl, dx, [(f, y)], upd_same, ?_, ?_, q C _ dx hC T ?_ upd_same⟩⟩⟩)
  · rw [upd_ne hne, upd_same]
  · rw [upd_ne hne] at hdx
    exact hdx
  · have hd : H1 dx = none := by
      rw [upd_ne hne] at hdx
      exact hdx
    intro b o e
    have e1 : b ≠ a := ne_of_none e ha
    have e2 : b ≠ dx := ne_of_none e hd
    rw [upd_ne e2, del_ne e1, upd_ne e1, upd_ne e2, upd_ne e1, e]
theorem pmk_gen {CX : CXT} {x : Str} {C fI : Addr} {k : Nat} {fd : FuncData} {ps : List Str} {sp : Sp} {e : Expr} {es : List Expr} {p pos : Pos} {ta : TA} (T : OexG X.K C) (iC : PySem.W.findIn X.K (.ref C) "__init__" = some (some (.ref fI)))
    (tI : PySem.W.typeIn X.K (.ref fI) = some (.type "function")) (F1 : FnOk X.prog X.w X.K X.mg X.base CX k fI fd ps sp) (hr : Room (k + 1) X.A) (hb : Binds X.K fd ps []) (hx : Passes CX X fun _ _ _ => False) (hg : Gl X x) (hm : X.mg x = some (.ref C)) (ha : PA X (e :: es) ta)
    (hdb : (x == ("__debug__" : Str)) = false := by decide) (he : starEach (e :: es) X.env = (false, eval e X.env) :: starEach es X.env := by rfl) (hpl : (backTo pos (starEach es X.env)).any (·.1) = false := by rfl) :
    PMk X (.Call (.Name x p) (e :: es) [] pos) (fun σ H Q => ta σ H fun vs H1 => vs.length ≤ 1000 ∧ ∀ a, H1 a = none → sp (.ref a :: vs) (upd H1 a (exo a C none)) (fun v H2 => v = .non ∧ ∃ (d : Addr) (fs : List (Str × V)), H2 a = some (exo a C (some d)) ∧ H2 d = some (exd d fs) ∧ H1 d = none ∧ Q (.ref C) (some d) (upd (del H2 a) d (.xd fs))) fun _ _ _ => False) := by
  intro pins s σ H Q I h
  obtain ⟨nm, q, N, bs, bm, sn, sub, ab, col, dd, k0, k1, k2, k3, k5, B, ni, ii, bmB, hC, hF, hT, _, _⟩ := T.cls
  refine wpAny_Call_Name_kw (ld_glob I hg hm ?_ hdb)
  refine PySem.W.callWith_K (h₀ := X.base) I.ok.mod.kin T.kC (thn (ha.run pos pins s σ H _ I h) ?_) he hpl
  rintro us ⟨hp, g, dr, tk, os⟩ ⟨vs, H1, I1, r1, hz, q1⟩
  refine ⟨I1.kIn, ?_⟩
  show wpAny _ _ (call (.ref C) us) _ _ _
  have up1 : hp.objs.size ≤ hp.objs.size + 1 := by omega
  have hq := q1 (hp.objs.size + 1) (I1.hok.fresh up1)
  obtain ⟨h2, eh2⟩ : ∃ h2, h2 = (hp.push (PySem.W.kdv_tup us)).push (PySem.HandSPX.excO C hp.objs.size) := ⟨_, rfl⟩
  have kk : ∀ b o, hp.get? b = some o → h2.get? b = some o := fun b o z => by
    rw [eh2]
    exact Heap.get?_push_of_some _ (Heap.get?_push_of_some _ z)
  have hget : h2.get? (hp.objs.size + 1) = some (PySem.HandSPX.excO C hp.objs.size) := by
    rw [eh2]
    heap_get
  have I2 : Inv X pins σ (upd H1 (hp.objs.size + 1) (exo (hp.objs.size + 1) C none)) ⟨h2, g, dr, tk, os⟩ := I1.laid (t' := tk) (a := hp.objs.size + 1) (h' := h2) kk up1 (exo_ok hget)
  have r2 : Vals (V.ref (hp.objs.size + 1) :: vs) (Value.ref (hp.objs.size + 1) :: us) := .cons rfl r1
  have hl : (Value.ref (hp.objs.size + 1) :: us).length = ps.length := r2.length.symm.trans (F1.len _ _ _ _ hq)
  have hus : us.length ≤ sizeLine := by
    have z := Paired.length r1
    rw [sizeLine_eq]
    omega
  have hb2 := hb ⟨h2, g, dr, tk, os⟩ (Value.ref (hp.objs.size + 1) :: us) I2.kIn (by rw [List.append_nil]; exact hl)
  rw [List.append_nil] at hb2
  refine wpAny_call (PySem.HandSPX.call_own hF hT (I1.kIn _ _ hC) (PySem.W.looks_findIn I1.kIn iC) (fun self => PySem.W.bind_fn I1.kIn self tI) hus ?_)
  rw [← eh2]
  refine codeAny_mono (F1.run _ X.stack _ _ ⟨Value.ref (hp.objs.size + 1) :: us, []⟩ (Value.ref (hp.objs.size + 1) :: us) _ _ (fun _ _ _ => False) (hr.make C us []) (I2.env0.make C us []) hb2 r2 hq) ?_
  rintro (er | fl) s' hq'
  · exact hx pins σ _ _ er s' I2 hq'
  · cases fl with
    | ret u =>
      obtain ⟨v, H2, os2, bare2, un2, hok2, rv, ev, d, fs, ea, ed, hd1, q2⟩ := hq'
      subst ev
      obtain ⟨h3, g3, d3, t3, os3⟩ := s'
      exact ⟨rv, mk_end (raises_own T.exC T.tyC) I1 up1 kk un2 hok2 os2 bare2 ea ed hd1 q2⟩
    | next => exact False.elim hq'
    | brk => exact False.elim hq'
    | cont => exact False.elim hq'
theorem pmk_new {k j : Nat} {x f : Str} {e : Expr} {te : TE} {p pos : Pos} (c : MkE X.prog X.w X.K X.mg X.base k x f) (hr : Room j X.A) (hk : k + 1 ≤ j) (hg : Gl X x) (ha : PE X e te)
    (hdb : (x == ("__debug__" : Str)) = false := by decide) (he : starEach [e] X.env = (false, eval e X.env) :: starEach [] X.env := by rfl) (hpl : (backTo pos (starEach ([] : List Expr) X.env)).any (·.1) = false := by rfl) :
    PMk X (.Call (.Name x p) [e] [] pos) (fun σ H Q => te σ H fun y H1 => rMk X.K X.mg x f σ y H1 Q) := by
  obtain ⟨C, fI, fd, ps, h1, h2, h3, h4, h5, F, b, _⟩ := c.ex
  intro pins s σ H Q I h
  refine pmk_gen (pos := pos) (p := p) h2 h4 h5 F (hr.mono hk) b pass0 hg h1 (pa_cons (hs := he) ha pa_nil) hdb he hpl pins s σ H Q I ?_
  have e1 : ∀ P : Addr → Prop, (∀ C', X.mg x = some (.ref C') → ExcC X.K C' → P C') = P C := fun P => propext ⟨fun g => g C h1 h3, fun g C' z _ => by rw [cls_eq z h1]; exact g⟩
  unfold rMk at h
  simp only [e1] at h
  exact h
end
/-! ### classes with two fields -/
def spIni2 (K : PySem.W.Frag) (C : Addr) (f g : Str) : Sp := fun vs H Q _ => ∃ (a : Addr) (y z : V), vs = [.ref a, y, z] ∧ H a = some (exo a C none) ∧ ∀ dx, H dx = none → dx ≠ a → Q .non (upd (upd H dx (exd dx [(g, z), (f, y)])) a (exo a C (some dx)))
structure MkE2 (P : Program) (w : World) (K : PySem.W.Frag) (mg : Str → Option Value) (base : Heap) (k : Nat) (x f g : Str) : Prop where
  ex : ∃ (C fI : Addr) (fd : FuncData) (ps : List Str), mg x = some (.ref C) ∧ OexG K C ∧ ExcC K C ∧ PySem.W.findIn K (.ref C) "__init__" = some (some (.ref fI)) ∧ PySem.W.typeIn K (.ref fI) = some (.type "function") ∧ FnOk P w K mg base CX0 k fI fd ps (spIni2 K C f g) ∧ Binds K fd ps [] ∧
    ∀ (s : Shared) (u v z : Value), BindsTo s fd ⟨[u], [(g, v), (f, z)]⟩ (ps.zip [u, z, v])
section
variable {P : Program} {w : World} {K : PySem.W.Frag} {mg : Str → Option Value} {base : Heap}
theorem mke2 {x q f g : Str} {st : Stmt} {N ps : List Str} {k : Nat} (D : Ek K mg x q st) (hp : ps.length = 3)
    (hb : ∀ (kV doc pm : Value) (an : Option Addr) (cdv ct : Value) (us : List Value), us.length = ps.length → bindArgs (PySem.W.fnOf "__init__" q (defArgs st) (defBody st) (defScope st) .none kV doc pm an cdv ct) ⟨us, []⟩ = pure (ps.zip us))
    (hk : ∀ (kV doc pm : Value) (an : Option Addr) (cdv ct u v z : Value), bindArgs (PySem.W.fnOf "__init__" q (defArgs st) (defBody st) (defScope st) .none kV doc pm an cdv ct) ⟨[u], [(g, v), (f, z)]⟩ = pure (ps.zip [u, z, v]))
    (S : FnScope N ps (defScope st))
    (hbody : ∀ (C f' : Addr) (cdv : Value) (A : Around) (outer : List Env) (s : Shared) (H : Hp) (vs : List V) (Q : VK) (E : XK), mg x = some (.ref C) → Room k (A.deeper (envOfC q (defScope st) s.heap.objs.size f' cdv)) → spIni2 K C f g vs H Q E →
      ∃ t, PSs (cxOf CX0 P w K mg base N q (defScope st) f' cdv A outer s H E).nox (defBody st) t ∧ t { nx := fun _ H' => Q .non H', rt := Q } (start N vs) H) : MkE2 P w K mg base (k + 1) x f g := by
  obtain ⟨C, fI, fd, h1, h2, h3, h4, h5, F⟩ := D.ex
  refine ⟨C, fI, fd, ps, h1, h2, h3, h4, h5, F.ok S (fun vs H Q E h => ?_) (fun cdv A outer s H vs Q E hr h => hbody C fI cdv A outer s H vs Q E h1 hr h), F.binds hb, fun s u v z => ?_⟩
  · obtain ⟨a, y, z, rfl, _⟩ := h
    rw [hp]
    rfl
  · obtain ⟨oc, od, kV, doc, pm, an, cdv, ct, osl, rfl, lk, hcd⟩ := F.ex
    exact .of_eq (hk kV doc pm an cdv ct u v z)
end
/-- two stores on a new exception -/
theorem two_st {H : Hp} {a dx : Addr} {u v v' : HO} (h : dx ≠ a) : upd (upd (upd H dx v) a u) dx v' = upd (upd H dx v') a u := by
  funext b
  by_cases h1 : b = dx
  · rw [h1, upd_same, upd_ne h, upd_same]
  · by_cases h2 : b = a
    · rw [h2, upd_ne (Ne.symm h), upd_same, upd_same]
    · rw [upd_ne h1, upd_ne h2, upd_ne h1, upd_ne h2, upd_ne h1]
section
variable {X : Cx}
@[irreducible] def rMk2 (K : PySem.W.Frag) (mg : Str → Option Value) (x f g : Str) (σ : L2.St) (y z : V) (H1 : Hp) (Q : XK) : Prop := ∀ C, mg x = some (.ref C) → ExcC K C → (tNil σ H1 fun ys H2 => (y :: z :: ys).length ≤ 1000 ∧ ∀ a, H2 a = none → spIni2 K C f g (.ref a :: (y :: z :: ys)) (upd H2 a (exo a C none))
  (fun v H3 => v = .non ∧ ∃ (d : Addr) (fs : List (Str × V)), H3 a = some (exo a C (some d)) ∧ H3 d = some (exd d fs) ∧ H2 d = none ∧ Q (.ref C) (some d) (upd (del H3 a) d (.xd fs))) fun _ _ _ => False)
theorem mk_at2 {K : PySem.W.Frag} {mg : Str → Option Value} {x f g : Str} {y z : V} {σ : L2.St} {H1 : Hp} {Q : XK} (q : ∀ C H' d, mg x = some (.ref C) → ExcC K C → Same H1 H' → H' d = some (.xd [(g, z), (f, y)]) → Q (.ref C) (some d) H') : rMk2 K mg x f g σ y z H1 Q := by
  unfold rMk2
  intro C hC T
  refine (show 2 ≤ 1000 ∧ _ from ⟨by decide, fun a ha => ⟨a, y, z, rfl, upd_same, fun dx hdx hne => ⟨rfl, dx, [(g, z), (f, y)], upd_same, ?_, ?_, q C _ dx hC T ?_ upd_same⟩⟩⟩)
  · rw [upd_ne hne, upd_same]
  · rw [upd_ne hne] at hdx
    exact hdx
  · have hd : H1 dx = none := by
      rw [upd_ne hne] at hdx
      exact hdx
    intro b o e
    have e1 : b ≠ a := ne_of_none e ha
    have e2 : b ≠ dx := ne_of_none e hd
    rw [upd_ne e2, del_ne e1, upd_ne e1, upd_ne e2, upd_ne e1, e]
theorem pmk_new2 {k j : Nat} {x f g : Str} {e1 e2 : Expr} {t1 t2 : TE} {p pos : Pos} (c : MkE2 X.prog X.w X.K X.mg X.base k x f g) (hr : Room j X.A) (hk : k + 1 ≤ j) (hg : Gl X x) (ha : PA X [e1, e2] (tCons t1 (tCons t2 tNil)))
    (hdb : (x == ("__debug__" : Str)) = false := by decide) (he : starEach [e1, e2] X.env = (false, eval e1 X.env) :: starEach [e2] X.env := by rfl) (hpl : (backTo pos (starEach [e2] X.env)).any (·.1) = false := by rfl) :
    PMk X (.Call (.Name x p) [e1, e2] [] pos) (fun σ H Q => t1 σ H fun y H1 => t2 σ H1 fun z H2 => rMk2 X.K X.mg x f g σ y z H2 Q) := by
  obtain ⟨C, fI, fd, ps, h1, h2, h3, h4, h5, F, b, _⟩ := c.ex
  intro pins s σ H Q I h
  refine pmk_gen (pos := pos) (p := p) h2 h4 h5 F (hr.mono hk) b pass0 hg h1 ha hdb he hpl pins s σ H Q I ?_
  have e1 : ∀ P : Addr → Prop, (∀ C', X.mg x = some (.ref C') → ExcC X.K C' → P C') = P C := fun P => propext ⟨fun g => g C h1 h3, fun g C' z _ => by rw [cls_eq z h1]; exact g⟩
  unfold rMk2 at h
  simp only [e1] at h
  exact h
@[irreducible] def rNew2 (K : PySem.W.Frag) (mg : Str → Option Value) (x f g : Str) (σ : L2.St) (z y : V) (H1 : Hp) (Q : VK) : Prop := ∀ C, mg x = some (.ref C) → ExcC K C → ∀ a, H1 a = none → spIni2 K C f g [.ref a, y, z] (upd H1 a (exo a C none)) (fun v H3 => v = .non ∧ Q (.ref a) H3) fun _ _ _ => False
theorem new_at2 {K : PySem.W.Frag} {mg : Str → Option Value} {x f g : Str} {y z : V} {σ : L2.St} {H1 : Hp} {Q : VK} (q : ∀ H' a, Same H1 H' → Ex1 K mg x H' a [(g, z), (f, y)] → Q (.ref a) H') : rNew2 K mg x f g σ z y H1 Q := by
  unfold rNew2
  intro C hC T a ha
  refine ⟨a, y, z, rfl, upd_same, fun dx hdx hne => ⟨rfl, q _ a (fun b o w => ?_) ⟨C, hC, T, dx, .inl upd_same, .inl ?_⟩⟩⟩
  · have hb : b ≠ a := ne_of_none w ha
    have hd : b ≠ dx := fun e => by
      rw [← e, upd_ne hb, w] at hdx
      cases hdx
    rw [upd_ne hb, upd_ne hd, upd_ne hb]
    exact w
  · rw [upd_ne hne, upd_same]
/-- C(g = e1, f = e2) -/
theorem pe_newK2 {k j : Nat} {x f g : Str} {e1 e2 : Expr} {t1 t2 : TE} {p pos kp1 kp2 : Pos} (c : MkE2 X.prog X.w X.K X.mg X.base k x f g) (hr : Room j X.A) (hk : k + 1 ≤ j) (hg : Gl X x) (h1e : PE X e1 t1) (h2e : PE X e2 t2)
    (hall : (backToKw pos (keywordEach [⟨some g, e1, kp1⟩, ⟨some f, e2, kp2⟩] X.env)).all (·.1.isSome) = true := by rfl) (hks : (backToKw pos (keywordEach [⟨some g, e1, kp1⟩, ⟨some f, e2, kp2⟩] X.env)).filterMap (·.1) = [g, f] := by rfl) (hdb : (x == ("__debug__" : Str)) = false := by decide)
    (hpl : ((backTo pos (starEach ([] : List Expr) X.env)).any (·.1) || (backToKw pos (keywordEach [⟨some g, e1, kp1⟩, ⟨some f, e2, kp2⟩] X.env)).any (·.1.isNone)) = false := by rfl) :
    PE X (.Call (.Name x p) [] [⟨some g, e1, kp1⟩, ⟨some f, e2, kp2⟩] pos) (fun σ H Q => t1 σ H fun z H1 => t2 σ H1 fun y H2 => rNew2 X.K X.mg x f g σ z y H2 Q) := by
  obtain ⟨C, fI, fd, ps, h1, h2, h3, h4, h5, F, _, b⟩ := c.ex
  constructor
  intro pins s σ H Q I h
  obtain ⟨nm, q, N, bs, bm, sn, sub, ab, col, dd, k0, k1, k2, k3, k5, B, ni, ii, bmB, hC, hF, hT, _, _⟩ := h2.cls
  refine wpAny_Call_Name_kw (ld_glob I hg h1 ?_ hdb)
  refine PySem.W.callWith_KW0 (h₀ := X.base) I.ok.mod.kin h2.kC hall ?_ hpl
  have e1 : ∀ P : Addr → Prop, (∀ C', X.mg x = some (.ref C') → ExcC X.K C' → P C') = P C := fun P => propext ⟨fun g => g C h1 h3, fun g C' z _ => by rw [cls_eq z h1]; exact g⟩
  unfold rNew2 at h
  simp only [e1] at h
  refine thn ((pk_cons h1e (pk_cons h2e pk_nil)).run pos pins s σ H _ I (show tCons t1 (tCons t2 tNil) σ H (fun vs H2 => match vs with
    | [z, y] => ∀ a, H2 a = none → spIni2 X.K C f g [.ref a, y, z] (upd H2 a (exo a C none)) (fun v H3 => v = .non ∧ Q (.ref a) H3) fun _ _ _ => False
    | _ => False) from h)) ?_
  rintro ws ⟨hp, gg, dr, tk, os⟩ ⟨zs, H1, I1, rz, hm⟩
  obtain ⟨z, y, rfl⟩ : ∃ z y, zs = [z, y] := by
    rcases zs with _ | ⟨z, _ | ⟨y, _ | ⟨_, _⟩⟩⟩
    · exact False.elim hm
    · exact False.elim hm
    · exact ⟨z, y, rfl⟩
    · exact False.elim hm
  have q1 : ∀ a, H1 a = none → spIni2 X.K C f g [.ref a, y, z] (upd H1 a (exo a C none)) (fun v H3 => v = .non ∧ Q (.ref a) H3) fun _ _ _ => False := hm
  refine ⟨I1.kIn, ?_⟩
  rw [hks]
  have up1 : hp.objs.size ≤ hp.objs.size + 1 := by omega
  have hq := q1 (hp.objs.size + 1) (I1.hok.fresh up1)
  obtain ⟨u, v, rfl, ru, rv⟩ := vals2 rz
  obtain ⟨h2', eh2⟩ : ∃ h2', h2' = (hp.push (PySem.W.kdv_tup [])).push (PySem.HandSPX.excO C hp.objs.size) := ⟨_, rfl⟩
  have kk : ∀ b o, hp.get? b = some o → h2'.get? b = some o := fun b o z => by
    rw [eh2]
    exact Heap.get?_push_of_some _ (Heap.get?_push_of_some _ z)
  have hget : h2'.get? (hp.objs.size + 1) = some (PySem.HandSPX.excO C hp.objs.size) := by
    rw [eh2]
    heap_get
  have I2 : Inv X pins σ (upd H1 (hp.objs.size + 1) (exo (hp.objs.size + 1) C none)) ⟨h2', gg, dr, tk, os⟩ := I1.laid (t' := tk) (a := hp.objs.size + 1) (h' := h2') kk up1 (exo_ok hget)
  have r2 : Vals [V.ref (hp.objs.size + 1), y, z] [Value.ref (hp.objs.size + 1), v, u] := .cons rfl (.cons rv (.cons ru .nil))
  refine wpAny_call (PySem.XOK.call_kw (kw := [(g, u), (f, v)]) hF hT (I1.kIn _ _ hC) (PySem.W.looks_findIn I1.kIn h4) (fun self => PySem.W.bind_fn I1.kIn self h5) ?_)
  rw [← eh2]
  refine codeAny_mono (F.run _ X.stack _ _ ⟨[.ref (hp.objs.size + 1)], [(g, u), (f, v)]⟩ [.ref (hp.objs.size + 1), v, u] _ _ (fun _ _ _ => False) ((hr.mono hk).make C [] [(g, u), (f, v)]) (I2.env0.make C [] [(g, u), (f, v)]) (b _ _ _ _) r2 hq) ?_
  rintro (er | fl) s' hq'
  · exact pass0 pins σ _ _ er s' I2 hq'
  · cases fl with
    | ret u =>
      obtain ⟨v, H2, os2, bare2, un2, hok2, rv, ev, q2⟩ := hq'
      subst ev
      exact ⟨rv, .ref (hp.objs.size + 1), H2, I2.call' (ch := []) os2 un2 hok2 bare2 (fun b z => absurd z (by simp)), rfl, q2⟩
    | next => exact False.elim hq'
    | brk => exact False.elim hq'
    | cont => exact False.elim hq'
end
section
variable {X : Cx} {W : WX}
/-- raise C(e) -/
theorem ps_rs {K : PySem.W.Frag} {mg : Str → Option Value} {k j : Nat} {x f : Str} {e : Expr} {te : TE} {p pos pos' : Pos} (hK : X.K = K) (hmg : X.mg = mg) (hcm : X.calm = true) (tk : Takes X W) (c : MkE X.prog X.w X.K X.mg X.base k x f) (hr : Room j X.A) (hk : k + 1 ≤ j) (hg : Gl X x) (ha : PE X e te)
    (hdb : (x == ("__debug__" : Str)) = false := by decide) (he : starEach [e] X.env = (false, eval e X.env) :: starEach [] X.env := by rfl) (hpl : (backTo pos (starEach ([] : List Expr) X.env)).any (·.1) = false := by rfl) :
    PS X (.Raise (some (.Call (.Name x p) [e] [] pos)) none pos') (fun _ σ H => te σ H fun y H1 => rMk K mg x f σ y H1 fun cls d H' => W cls d σ H') := by
  subst hK hmg
  exact ps_raise hcm tk (pmk_new c hr hk hg ha hdb he hpl)
theorem ps_rs2 {K : PySem.W.Frag} {mg : Str → Option Value} {k j : Nat} {x f g : Str} {e1 e2 : Expr} {t1 t2 : TE} {p pos pos' : Pos} (hK : X.K = K) (hmg : X.mg = mg) (hcm : X.calm = true) (tk : Takes X W) (c : MkE2 X.prog X.w X.K X.mg X.base k x f g) (hr : Room j X.A) (hk : k + 1 ≤ j) (hg : Gl X x) (ha : PA X [e1, e2] (tCons t1 (tCons t2 tNil)))
    (hdb : (x == ("__debug__" : Str)) = false := by decide) (he : starEach [e1, e2] X.env = (false, eval e1 X.env) :: starEach [e2] X.env := by rfl) (hpl : (backTo pos (starEach [e2] X.env)).any (·.1) = false := by rfl) :
    PS X (.Raise (some (.Call (.Name x p) [e1, e2] [] pos)) none pos') (fun _ σ H => t1 σ H fun y H1 => t2 σ H1 fun z H2 => rMk2 K mg x f g σ y z H2 fun cls d H' => W cls d σ H') := by
  subst hK hmg
  exact ps_raise hcm tk (pmk_new2 c hr hk hg ha hdb he hpl)
end
end XB
set_option Elab.async false
set_option linter.all false
set_option maxRecDepth 100000
set_option maxHeartbeats 4000000
namespace XB
open PySem PySem.Spec PyProof.Rows L2
theorem nm_take {F : Fld} {l : Rw} (h : Names F l) (k : Nat) : Names F (l.take k) := fun s hs => h s (List.mem_of_mem_take hs)
theorem nm_drop {F : Fld} {l : Rw} (h : Names F l) (k : Nat) : Names F (l.drop k) := fun s hs => h s (List.mem_of_mem_drop hs)
theorem nm_app {F : Fld} {l m : Rw} (h : Names F l) (g : Names F m) : Names F (l ++ m) := fun s hs => (List.mem_append.mp hs).elim (h s) (g s)
theorem nm_two {F : Fld} {s t : Str × Int} (h : s.1 ∈ F.names) (g : t.1 ∈ F.names) : Names F [s, t] := fun x hx => by
  rcases List.mem_cons.mp hx with e | hx
  · rw [e]; exact h
  · rw [List.mem_singleton.mp hx]; exact g
theorem amv_names {F : Fld} {l l' : Rw} {d : PyData} (h : Names F l) (e : amvL F l d = some l') : Names F l' ∧ l'.length ≤ 400 := by
  have cap : ∀ {r : Option Rw}, (∀ z, r = some z → Names F z) → capL r = some l' → Names F l' ∧ l'.length ≤ 400 := fun {r} hr hc => by
    cases r with
    | none => cases hc
    | some z =>
      have hc : (if z.length ≤ 400 then some z else none) = some l' := hc
      by_cases q : z.length ≤ 400
      · rw [if_pos q] at hc
        cases hc
        exact ⟨hr _ rfl, q⟩
      · rw [if_neg q] at hc
        cases hc
  have h1 : ∀ k z, chgL F l k = some z → Names F z := fun k z hz => by
    unfold chgL at hz
    split at hz
    · split at hz
      · rename_i s t g1 g2
        split at hz
        · cases hz
          exact nm_app (nm_app (nm_take h _) (nm_two (h t (List.mem_of_getElem? g2)) (h s (List.mem_of_getElem? g1)))) (nm_drop h _)
        · cases hz
      · cases hz
    · cases hz
  have h2 : ∀ k z, joiL l k = some z → Names F z := fun k z hz => by
    unfold joiL at hz
    split at hz
    · split at hz
      · rename_i s t g1 g2
        split at hz
        · cases hz
          refine nm_app (nm_app (nm_take h _) ?_) (nm_drop h _)
          split
          · exact fun _ h => nomatch h
          · exact fun x hx => by rw [List.mem_singleton.mp hx]; exact h s (List.mem_of_getElem? g1)
        · cases hz
      · cases hz
    · cases hz
  have h3 : ∀ k x z, prtL l k x = some z → Names F z := fun k x z hz => by
    unfold prtL at hz
    split at hz
    · split at hz
      · rename_i s t g1
        split at hz
        · cases hz
          exact nm_app (nm_app (nm_take h _) (nm_two (h s (List.mem_of_getElem? g1)) (h s (List.mem_of_getElem? g1)))) (nm_drop h _)
        · cases hz
      · cases hz
    · cases hz
  have h4 : ∀ k x z, putL F l k x = some z → Names F z := fun k x z hz => by
    unfold putL at hz
    split at hz
    · split at hz
      · rename_i n t
        split at hz
        · rename_i hs
          cases hz
          have hn : n ∈ F.names := by
            have hs : (F.names.contains n && timesD (.int t)) = true := hs
            rw [Bool.and_eq_true] at hs
            exact List.contains_iff_mem.mp hs.1
          exact nm_app (nm_app (nm_take h _) (nm_two hn hn)) (nm_drop h _)
        · cases hz
      · cases hz
    · cases hz
  unfold amvL at e
  split at e
  · refine cap (fun z hz => ?_) e
    split at hz
    · exact h1 _ z hz
    · split at hz
      · exact h2 _ z hz
      · cases hz
  · refine cap (fun z hz => ?_) e
    split at hz
    · exact h3 _ _ z hz
    · split at hz
      · exact h4 _ _ z hz
      · cases hz
  · cases e
/-- the steps behind all moves, or the number of the first that cannot be made -/
def mvsL (F : Fld) : Rw → Nat → List PyData → Except Nat Rw
  | l, _, [] => .ok l
  | l, i, d :: ds => match amvL F l d with
    | some l' => mvsL F l' (i + 1) ds
    | none => .error i
section
variable {P : Program} {w : World} {K : PySem.W.Frag} {mg : Str → Option Value} {base : Heap}
theorem c_BadMoves (T : Tx K mg) : MkE P w K mg base 1 "BadMoves" "place" := by
  refine mke0 T.e_BadMoves (ps := ["self", "place"]) rfl (fun _ _ _ _ _ _ us hl => match us, hl with | [_, _], _ => rfl) (fun _ _ _ _ _ _ _ _ => rfl) sc_BadMoves___init__ (fun C fI cdv A outer st H vs Q E hC hm hr h => ?_)
  obtain ⟨a, y, rfl, e, q⟩ := h
  exact ⟨_, pss_one (ps_osG (pv 0) (pv 1)), _, rfl, _, rfl, a, C, rfl, hC, T.n_BadMoves_place C hm, e, q⟩
/-- what moved tells, or refuses -/
def OutM (K : PySem.W.Frag) (mg : Str → Option Value) (H : Hp) (Q : VK) (E : XK) : Except Nat Rw → Prop
  | .ok l => ∀ H' r, Same H H' → Dp K H' (.ref r) (dSteps l) → Q (.ref r) H'
  | .error i => ∀ C H' dx, mg "BadMoves" = some (.ref C) → ExcC K C → Same H H' → H' dx = some (.xd [("place", .int (i : Nat))]) → E (.ref C) (some dx) H'
def spMoved (K : PySem.W.Frag) (mg : Str → Option Value) : Sp := fun vs H Q E => ∃ (a p ms : Addr) (F : Fld) (l : Rw) (ds : List PyData), vs = [.ref a, .ref p, .ref ms] ∧ Dp K H (.ref a) (dField F) ∧ F.Ok ∧ Dp K H (.ref p) (dSteps l) ∧ GoodScript F l ∧ Dp K H (.ref ms) (.tuple ds) ∧ (∀ d ∈ ds, SeqAt.shaped d = true) ∧ ds.length ≤ 5000 ∧ OutM K mg H Q E (mvsL F l 0 ds)
theorem c_moved (T : Tx K mg) : Cl P w K mg base (L2.CX P w) 6 "moved" (spMoved K mg) := by
  refine clX T.d_moved (ps := ["field", "deeds", "moves"]) (fun _ _ _ _ _ _ us hl => match us, hl with | [_, _, _], _ => rfl) sc_moved (fun vs H Q E h => ?_) (fun f cdv A outer st H vs Q E hr h => ?_)
  · obtain ⟨a, p, ms, F, l, ds, rfl, _⟩ := h
    rfl
  · obtain ⟨a, p, ms, F, l, ds, rfl, hF, ok, hL, gl, hM, sM, lM, q⟩ := h
    have nd := sc_moved.nd
    obtain ⟨tkm, h_MOST_MOVES⟩ := T.g_MOST_MOVES
    have tk : Takes (cxOf (L2.CX P w) P w K mg base ["field", "deeds", "moves", "steps", "place", "move"] "moved" (defScope s_moved) f cdv A outer st H E) fun cls d _ H => E cls d H := takes_of rfl rfl rfl rfl
    refine ⟨_, (pss_cons (ps_set (i := 3) nd rfl (.inl rfl) (pe_k (c_need_script T) hr (by decide) (by rfl) (pa_cons (pv 0) (pa_cons (pv 1) pa_nil))))
    (pss_cons (ps_if (PW.pt (pw_or (pt_not (pt_val (pe_isT "tuple" (by rfl) T.b_isinstance (by rfl) T.b_tuple (by decide +kernel) (pv 2)))) (pw_or1 (pt_cmpR op_gt (pe_lenS (by rfl) T.b_len (pv 2)) (pe_glob (v := .int 5000) (by rfl) h_MOST_MOVES ⟨_, rfl⟩) (nomark _))))) (pss_one (ps_rs (K := K) (mg := mg) rfl rfl rfl tk (c_BadMoves T) hr (by decide) (by rfl) pe_non)) pss_nil)
    (pss_cons (ps_for (passes_of rfl) rfl (pi_enumT (by rfl) T.b_enumerate (pa_cons (pv 2) pa_nil)) (pg_tup rfl (pgs_cons (pg_name (i := 4) nd rfl (.inl rfl)) (pgs_cons (pg_name (i := 5) nd rfl (.inl rfl)) pgs_nil)))
    (pss_cons (ps_set (i := 3) nd rfl (.inl rfl) (pe_k (c_after_move T) hr (by decide) (by rfl) (pa_cons (pv 0) (pa_cons (pv 3) (pa_cons (pv 5) pa_nil)))))
    (pss_one (ps_if (pt_cmpR op_isN (pv 3) pe_non (nomark _)) (pss_one (ps_rs (K := K) (mg := mg) rfl rfl rfl tk (c_BadMoves T) hr (by decide) (by rfl) (pv 4))) pss_nil))))
    (pss_one (ps_ret (pv 3)))))), ?_⟩
    obtain ⟨_, xs, e, hS, hV⟩ : ∃ o xs, V.ref ms = .ref o ∧ SqT K H o xs ∧ DpAll K H xs ds := by
      cases hM with
      | tup h1 h2 => exact ⟨_, _, rfl, h1, h2⟩
    cases e
    have lx := hV.len
    refine ⟨_, rfl, _, rfl, a, p, F, l, rfl, hF, ok, hL, gl, fun H1 s1 => ?_⟩
    have hS1 := (Tk.of s1).sqT hS
    have hV1 := DpAll.sm s1 _ hV
    refine ⟨_, rfl, _, _, _, _, _, rfl, .ty _, tyx_tup hS1, kit_ty (r := true) (by decide +kernel), _, rfl, iteF ?_⟩
    refine ⟨_, rfl, ms, xs, rfl, .inr hS1, _, _, rfl, rfl, _, rfl, ?_⟩
    rw [show decide ((5000 : Int) < (xs.length : Int)) = false from decide_eq_false (by omega)]
    refine iteF ?_
    refine ⟨_, rfl, ms, xs, rfl, hS1, for_it (walk_IeT (xs := xs)) (fun i σ H2 => ∃ (r : Addr) (l' : Rw) (y4 y5 : Option V), σ = [some (.ref a), some (.ref p), some (.ref ms), some (.ref r), y4, y5] ∧ Same H1 H2 ∧ Dp K H2 (.ref r) (dSteps l') ∧ Names F l' ∧ l'.length ≤ 400 ∧ mvsL F l' i (ds.drop i) = mvsL F l 0 ds)
      ⟨p, l, none, none, rfl, Same.refl _, tS hL s1, (fun s hs => (gl.2 s hs).1), (by have := gl.1; omega), rfl⟩ (fun i σ H2 _ ⟨_, _, _, _, _, s2, _⟩ => (Tk.of s2).sqT hS1) (fun i x σ H2 H3 hi ⟨r, l', y4, y5, eσ, s2, hr', nl', ll', hm⟩ hy => ?_) (fun σ H2 ⟨r, l', y4, y5, eσ, s2, hr', nl', ll', hm⟩ => ?_)⟩
    · obtain ⟨Tt, x1, x2, rfl, nT, rfl, f1, f2⟩ := hy
      subst eσ
      obtain ⟨d, g1, p1⟩ := hV1.get f2
      cases (show some (V.int (i : Nat)) = some x1 from f1)
      have hdr : ds.drop i = d :: ds.drop (i + 1) := drop_at g1
      rw [hdr] at hm
      have hm : (match amvL F l' d with
        | some z => mvsL F z (i + 1) (ds.drop (i + 1))
        | none => .error i) = mvsL F l 0 ds := hm
      have s3 : Same H1 (upd H2 Tt (.tup [.int (i : Nat), x2])) := same_new s2 nT
      have s23 : Same H2 (upd H2 Tt (.tup [.int (i : Nat), x2])) := same_upd nT
      refine ⟨Tt, _, rfl, SqT.of upd_same, rfl, _, _, rfl, _, _, rfl, rfl, ?_⟩
      have sH := s1.trans s3
      refine ⟨_, rfl, _, rfl, _, rfl, a, r, x2, F, d, l', rfl, tF hF sH, ok, tS hr' s23, nl', Dp.sm s3 _ p1, sM d (List.mem_of_getElem? g1), ll', ?_⟩
      cases hc : amvL F l' d with
      | none =>
        rw [hc] at hm
        have hm : mvsL F l 0 ds = .error i := hm.symm
        rw [hm] at q
        exact fun H4 s4 => ⟨_, rfl, rfl, _, rfl, iteT ⟨_, rfl, mk_at fun C H5 dx hC hT s5 ed => q C H5 dx hC hT (sH.trans (s4.trans s5)) ed⟩⟩
      | some l2 =>
        rw [hc] at hm
        obtain ⟨n2, b2⟩ := amv_names nl' hc
        exact fun H4 r4 s4 h4 => ⟨_, rfl, rfl, _, rfl, iteF ⟨r4, l2, _, _, rfl, s3.trans s4, h4, n2, b2, hm⟩⟩
    · subst eσ
      rw [lx, List.drop_length] at hm
      have hm : mvsL F l 0 ds = .ok l' := hm.symm
      rw [hm] at q
      exact ⟨_, rfl, q H2 r (s1.trans s2) hr'⟩
end
end XB
set_option Elab.async false
set_option linter.all false
set_option maxRecDepth 100000
set_option maxHeartbeats 4000000
namespace XB
open PySem PySem.Spec PyProof.Rows L2
theorem timesD_int (t : Int) : timesD (.int t) = (decide (t ≠ 0) && (decide (-(10 ^ 30) ≤ t) && decide (t ≤ 10 ^ 30))) := by
  show (decide (t ≠ 0) && decide ((if t < 0 then -t else t) ≤ 10 ^ 30)) = _
  congr 1
  rw [Bool.eq_iff_iff, Bool.and_eq_true, decide_eq_true_eq, decide_eq_true_eq, decide_eq_true_eq]
  split <;> omega
theorem stepD_not {ns : List Str} {d : PyData} (h : pairD d = false) : stepD ns d = false := by
  match d, h with
  | .none, _ => rfl
  | .bool _, _ => rfl
  | .int _, _ => rfl
  | .str _, _ => rfl
  | .list _, _ => rfl
  | .dict _, _ => rfl
  | .tuple [], _ => rfl
  | .tuple [x], _ => cases x <;> rfl
  | .tuple [_, _], h => exact absurd (show true = false from h) (by decide)
  | .tuple (x :: y :: _ :: _), _ => cases x <;> first | rfl | (cases y <;> rfl)
section
variable {P : Program} {w : World} {K : PySem.W.Frag} {mg : Str → Option Value} {base : Heap}
def spLStep (K : PySem.W.Frag) : Sp := fun vs H Q _ => ∃ (a : Addr) (v : V) (F : Fld) (d : PyData), vs = [.ref a, v] ∧ Dp K H (.ref a) (dField F) ∧ F.Ok ∧ Dp K H v d ∧ Q (.bl (stepD F.names d)) H
theorem c__law_is_step (T : Tx K mg) : Cl P w K mg base CX0 1 "_law_is_step" (spLStep K) := by
  refine cl0 T.d__law_is_step (ps := ["field", "step"]) (fun _ _ _ _ _ _ us hl => match us, hl with | [_, _], _ => rfl) sc__law_is_step (fun vs H Q E h => ?_) (fun f cdv A outer st H vs Q E hr h => ?_)
  · obtain ⟨a, v, F, d, rfl, _⟩ := h
    rfl
  · obtain ⟨a, v, F, d, rfl, hF, ok, hd, q⟩ := h
    have nd := sc__law_is_step.nd
    refine ⟨_, (pss_cons (ps_if (PW.pt (pw_or (pt_not (pt_val (pe_isT "tuple" (by rfl) T.b_isinstance (by rfl) T.b_tuple (by decide +kernel) (pv 1)))) (pw_or (pt_cmpR op_ne (pe_lenS (by rfl) T.b_len (pv 1)) pe_int (nomark _)) (pw_or (pt_not (pt_val (pe_isT "str" (by rfl) T.b_isinstance (by rfl) T.b_str (by decide +kernel) (pe_ix (ixk_tup (K := K) rfl) (pv 1) pe_int (fun _ _ => rfl))))) (pw_or1 (pt_cmpR (opk_notIn_seq (K := K) rfl) (pe_ix (ixk_tup (K := K) rfl) (pv 1) pe_int (fun _ _ => rfl)) (pe_ix (ixk_tup (K := K) rfl) (pv 0) pe_int (fun _ _ => rfl)) (by rfl))))))) (pss_one (ps_ret pe_bl)) pss_nil)
    (pss_cons (ps_if (PW.pt (pw_or (pt_not (pt_val (pe_isT "int" (by rfl) T.b_isinstance (by rfl) T.b_int (by decide +kernel) (pe_ix (ixk_tup (K := K) rfl) (pv 1) pe_int (fun _ _ => rfl))))) (pw_or (pt_val (pe_isT "bool" (by rfl) T.b_isinstance (by rfl) T.b_bool (by decide +kernel) (pe_ix (ixk_tup (K := K) rfl) (pv 1) pe_int (fun _ _ => rfl)))) (pw_or1 (pt_cmpR op_eq (pe_ix (ixk_tup (K := K) rfl) (pv 1) pe_int (fun _ _ => rfl)) pe_int (nomark _)))))) (pss_one (ps_ret pe_bl)) pss_nil)
    (pss_one (ps_ret (pe_chain op_le op_le (pe_op op_sub pe_int (pe_op op_pow pe_int pe_int)) (pe_ix (ixk_tup (K := K) rfl) (pv 1) pe_int (fun _ _ => rfl)) (pe_op op_pow pe_int pe_int)))))), ?_⟩
    obtain ⟨_, nn, pp, ps, e, hA, hNn, hP, hDp⟩ := hF.field
    cases e
    have C30 : CPow 10 30 := ⟨by decide, by decide, by decide⟩
    refine ⟨_, rfl, v, .ty "tuple", _, _, _, rfl, .ty _, tyx_data hd, kit_data (.inl rfl) hd, _, rfl, ?_⟩
    cases hp : pairD d with
    | false =>
      have q0 : Q (.bl false) H := by rw [stepD_not hp] at q; exact q
      clear q
      cases d with
      | tuple ds =>
        cases hd with
        | tup hS hV =>
        have hl := hV.len
        refine iteF ⟨_, rfl, _, _, rfl, .inr hS, rfl, _, rfl, ?_⟩
        rw [hl]
        have e : decide (V.int (ds.length : Int) = V.int 2) = false := decide_eq_false fun z => by
          injection z with z
          match ds, hp, z with
          | [_, _], h, _ => cases h
          | [], _, z => cases z
          | [_], _, z => cases z
          | _ :: _ :: _ :: r, _, z => simp only [List.length_cons] at z; omega
        rw [e]
        exact iteT q0
      | _ => exact iteT q0
    | true =>
      obtain ⟨x, y, rfl⟩ : ∃ x y, d = .tuple [x, y] := by
        match d, hp with
        | .tuple [x, y], _ => exact ⟨x, y, rfl⟩
      cases hd with
      | tup hS hV =>
      have hl := hV.len
      cases hV with
      | cons hx hV =>
      cases hV with
      | cons hy hV =>
      cases hV
      refine iteF ⟨_, rfl, _, _, rfl, .inr hS, rfl, _, rfl, ?_⟩
      refine iteF ⟨_, rfl, ix0 hS ⟨_, .ty "str", _, _, _, rfl, .ty _, tyx_data hx, kit_data (.inr (.inr (.inl rfl))) hx, _, rfl, ?_⟩⟩
      cases x with
      | str n =>
        cases hx
        refine iteF ⟨_, rfl, ix0 hS ⟨_, rfl, ix0 hA ⟨nn, _, rfl, .inr hNn, rfl, flat_strs _, _, rfl, ?_⟩⟩⟩
        rw [if_pos rfl, inV_strs]
        cases hn : F.names.contains n with
        | false =>
          have e : stepD F.names (.tuple [.str n, y]) = false := by
            cases y with
            | int t =>
              show (F.names.contains n && timesD (.int t)) = false
              rw [hn]
              rfl
            | _ => rfl
          rw [e] at q
          exact iteT q
        | true =>
          refine iteF ⟨_, rfl, ix1 hS ⟨_, .ty "int", _, _, _, rfl, .ty _, tyx_data hy, kit_data (.inr (.inr (.inr (.inl rfl)))) hy, _, rfl, ?_⟩⟩
          cases y with
          | int t =>
            have hy' := hy
            cases hy
            refine iteF ⟨_, rfl, ix1 hS ⟨_, .ty "bool", _, _, _, rfl, .ty _, tyx_data hy', kit_data (.inr (.inr (.inr (.inr rfl)))) hy', _, rfl, iteF ?_⟩⟩
            have e : stepD F.names (.tuple [.str n, .int t]) = (decide (t ≠ 0) && (decide (-(10 ^ 30) ≤ t) && decide (t ≤ 10 ^ 30))) := by
              rw [← timesD_int]
              show (F.names.contains n && timesD (.int t)) = _
              rw [hn, Bool.true_and]
            rw [e] at q
            refine ⟨_, rfl, ix1 hS ⟨rfl, _, rfl, ?_⟩⟩
            rw [dec_int]
            by_cases h0 : t = 0
            · subst h0
              exact iteT q
            · rw [show (t == 0) = false by simp [h0]]
              rw [decide_eq_true h0, Bool.true_and] at q
              refine iteF ⟨_, _, rfl, rfl, C30, _, _, rfl, rfl, _, rfl, ix1 hS ⟨_, _, rfl, rfl, _, rfl, ?_⟩⟩
              have p30 : Int.toNat 30 = 30 := rfl
              by_cases hlo : (0 - 10 ^ Int.toNat 30 : Int) ≤ t
              · rw [decide_eq_true hlo]
                have e2 : decide (-(10 ^ 30) ≤ t) = true := decide_eq_true (by rw [p30] at hlo; omega)
                rw [e2, Bool.true_and] at q
                refine ⟨_, _, rfl, rfl, C30, _, _, rfl, rfl, ?_⟩
                exact q
              · rw [decide_eq_false hlo]
                have e2 : decide (-(10 ^ 30) ≤ t) = false := decide_eq_false (by rw [p30] at hlo; omega)
                rw [e2, Bool.false_and] at q
                exact q
          | bool b => 
            have hy' := hy
            cases hy
            exact iteF ⟨_, rfl, ix1 hS ⟨_, .ty "bool", _, _, _, rfl, .ty _, tyx_data hy', kit_data (.inr (.inr (.inr (.inr rfl)))) hy', _, rfl, iteT q⟩⟩
          | _ => exact iteT q
      | _ => exact iteT q
end
end XB
set_option Elab.async false
set_option linter.all false
set_option maxRecDepth 100000
set_option maxHeartbeats 4000000
namespace XB
open PySem PySem.Spec PyProof.Rows L2
/-- steps in a list, or None -/
def OutLL (K : PySem.W.Frag) (H : Hp) (Q : VK) : Option Rw → Prop
  | none => ∀ H', Same H H' → Q .non H'
  | some l => ∀ H' r, Same H H' → Row1 K H' r l → H r = none → Q (.ref r) H'
theorem ix2 {K : PySem.W.Frag} {σ : L2.St} {H : Hp} {b : Addr} {x y z : V} {xs : List V} {Q : VK} (h : SqT K H b (x :: y :: z :: xs)) (q : Q z H) : tC (.int 2) σ H (fun z H2 => rIxT K (.ref b) z H2 Q) := ⟨b, _, 2, z, rfl, rfl, h, at_of (j := 2) rfl rfl, q⟩
theorem in_two {w x y : Str} : inV (.str w) [.str x, .str y] = (decide (w = x) || decide (w = y)) := by
  have := inV_strs w [x, y]
  rw [show ([x, y] : List Str).map V.str = [.str x, .str y] from rfl] at this
  rw [this]
  by_cases h1 : w = x <;> by_cases h2 : w = y <;> simp [h1, h2]
theorem isW_str {w x : Str} : isW (.str w) x = true ↔ w = x := by
  show (w == x) = true ↔ _
  simp
theorem cut_toI {xs : List V} {k : Int} (h : ¬ k < 0) : cutV xs none (some k) = xs.take k.toNat := by
  have e : k = (k.toNat : Int) := by omega
  rw [e, cut_init]
  congr 1
theorem cut_fromI {xs : List V} {k : Int} (h : ¬ k < 0) : cutV xs (some k) none = xs.drop k.toNat := by
  have e : k = (k.toNat : Int) := by omega
  rw [e, cut_from]
  congr 1
theorem row1S {K : PySem.W.Frag} {H H' : Hp} {p : Addr} {l : Rw} (h : Row1 K H p l) (s : Same H H') : Row1 K H' p l := by
  obtain ⟨xs, e, h⟩ := h
  exact ⟨xs, s _ _ e, DpAll.tk (Tk.of s) _ (flat_all_steps l) h⟩
theorem rTo {K : PySem.W.Frag} {H : Hp} {p : Addr} {l : Rw} {k : Int} {Q : VK} (h : Row1 K H p l) (hk : ¬ k < 0) (q : ∀ H' r, Same H H' → Row1 K H' r (l.take k.toNat) → Q (.ref r) H') : rSlL K (.ref p) none (some k) H Q := by
  obtain ⟨xs, e, h⟩ := h
  refine slL e fun H' r s _ e' => q H' r s ⟨_, e', ?_⟩
  rw [cut_toI hk, List.map_take]
  exact (DpAll.tk (Tk.of s) _ (flat_all_steps l) h).take _
theorem rFrom {K : PySem.W.Frag} {H : Hp} {p : Addr} {l : Rw} {k : Int} {Q : VK} (h : Row1 K H p l) (hk : ¬ k < 0) (q : ∀ H' r, Same H H' → Row1 K H' r (l.drop k.toNat) → Q (.ref r) H') : rSlL K (.ref p) (some k) none H Q := by
  obtain ⟨xs, e, h⟩ := h
  refine slL e fun H' r s _ e' => q H' r s ⟨_, e', ?_⟩
  rw [cut_fromI hk, List.map_drop]
  exact (DpAll.tk (Tk.of s) _ (flat_all_steps l) h).drop _
theorem rCt {K : PySem.W.Frag} {H : Hp} {a b : Addr} {l m : Rw} {Q : VK} (h1 : Row1 K H a l) (h2 : Row1 K H b m) (hl : l.length + m.length ≤ 500) (q : ∀ H' p, Same H H' → H p = none → Row1 K H' p (l ++ m) → Q (.ref p) H') : rCat (.ref a) (.ref b) H Q := by
  obtain ⟨xs, e1, h1⟩ := h1
  obtain ⟨ys, e2, h2⟩ := h2
  have l1 := h1.len
  have l2 := h2.len
  rw [List.length_map] at l1 l2
  refine catL e1 e2 (Nat.le_of_lt (small1000 (by omega))) fun H' p s n e => q H' p s n ⟨_, e, ?_⟩
  rw [List.map_append]
  exact (DpAll.tk (Tk.of s) _ (flat_all_steps l) h1).app (DpAll.tk (Tk.of s) _ (flat_all_steps m) h2)
theorem capL_out {K : PySem.W.Frag} {H : Hp} {Q : VK} {l : Rw} (q : OutLL K H Q (capL (some l))) (h : l.length ≤ 400) : OutLL K H Q (some l) := by
  have q : OutLL K H Q (if l.length ≤ 400 then some l else none) := q
  rw [if_pos h] at q
  exact q
theorem capL_no {K : PySem.W.Frag} {H : Hp} {Q : VK} {l : Rw} (q : OutLL K H Q (capL (some l))) (h : ¬ l.length ≤ 400) : OutLL K H Q none := by
  have q : OutLL K H Q (if l.length ≤ 400 then some l else none) := q
  rw [if_neg h] at q
  exact q
theorem amv2 {F : Fld} {l : Rw} {w : Str} {k : Int} : amvL F l (.tuple [.str w, .int k]) = capL (if w = "change" then chgL F l k else if w = "join" then joiL l k else none) := by
  show capL (if isW (.str w) "change" = true then chgL F l k else if isW (.str w) "join" = true then joiL l k else none) = _
  by_cases h1 : w = "change"
  · rw [if_pos h1, if_pos (isW_str.mpr h1)]
  · rw [if_neg h1, if_neg fun z => h1 (isW_str.mp z)]
    by_cases h2 : w = "join"
    · rw [if_pos h2, if_pos (isW_str.mpr h2)]
    · rw [if_neg h2, if_neg fun z => h2 (isW_str.mp z)]
theorem amv3 {F : Fld} {l : Rw} {w : Str} {k : Int} {x : PyData} : amvL F l (.tuple [.str w, .int k, x]) = capL (if w = "part" then prtL l k x else if w = "put" then putL F l k x else none) := by
  show capL (if isW (.str w) "part" = true then prtL l k x else if isW (.str w) "put" = true then putL F l k x else none) = _
  by_cases h1 : w = "part"
  · rw [if_pos h1, if_pos (isW_str.mpr h1)]
  · rw [if_neg h1, if_neg fun z => h1 (isW_str.mp z)]
    by_cases h2 : w = "put"
    · rw [if_pos h2, if_pos (isW_str.mpr h2)]
    · rw [if_neg h2, if_neg fun z => h2 (isW_str.mp z)]
section
variable {P : Program} {w : World} {K : PySem.W.Frag} {mg : Str → Option Value} {base : Heap}
def spLMoved (K : PySem.W.Frag) : Sp := fun vs H Q _ => ∃ (a p : Addr) (v : V) (F : Fld) (d : PyData) (l : Rw), vs = [.ref a, .ref p, v] ∧ Dp K H (.ref a) (dField F) ∧ F.Ok ∧ Row1 K H p l ∧ Names F l ∧ Dp K H v d ∧ SeqAt.shaped d = true ∧ l.length ≤ 400 ∧ OutLL K H Q (amvL F l d)
theorem c__law_moved (T : Tx K mg) : Cl P w K mg base CX0 2 "_law_moved" (spLMoved K) := by
  refine cl0 T.d__law_moved (ps := ["field", "steps", "move"]) (fun _ _ _ _ _ _ us hl => match us, hl with | [_, _, _], _ => rfl) sc__law_moved (fun vs H Q E h => ?_) (fun f cdv A outer st H vs Q E hr h => ?_)
  · obtain ⟨a, p, v, F, d, l, rfl, _⟩ := h
    rfl
  · obtain ⟨a, p, v, F, d, l, rfl, hF, ok, ⟨xs, eL, hL⟩, nl, hd, sd, ll, q⟩ := h
    have nd := sc__law_moved.nd
    refine ⟨_, (pss_cons (ps_if (PW.pt (pw_or (pt_not (pt_val (pe_isT "tuple" (by rfl) T.b_isinstance (by rfl) T.b_tuple (by decide +kernel) (pv 2)))) (pw_or (pt_cmpR (opk_notIn_seq (K := K) rfl) (pe_lenS (by rfl) T.b_len (pv 2)) (pe_tup (pa_cons pe_int (pa_cons pe_int pa_nil))) (by rfl)) (pw_or1 (pt_not (pt_val (pe_isT "str" (by rfl) T.b_isinstance (by rfl) T.b_str (by decide +kernel) (pe_ix (ixk_tup (K := K) rfl) (pv 2) pe_int (fun _ _ => rfl))))))))) (pss_one (ps_ret pe_non)) pss_nil)
    (pss_cons (ps_if (PW.pt (pw_or (pt_not (pt_val (pe_isT "int" (by rfl) T.b_isinstance (by rfl) T.b_int (by decide +kernel) (pe_ix (ixk_tup (K := K) rfl) (pv 2) pe_int (fun _ _ => rfl))))) (pw_or (pt_val (pe_isT "bool" (by rfl) T.b_isinstance (by rfl) T.b_bool (by decide +kernel) (pe_ix (ixk_tup (K := K) rfl) (pv 2) pe_int (fun _ _ => rfl)))) (pw_or1 (pt_cmpR op_lt (pe_ix (ixk_tup (K := K) rfl) (pv 2) pe_int (fun _ _ => rfl)) pe_int (nomark _)))))) (pss_one (ps_ret pe_non)) pss_nil)
    (pss_cons (ps_par3 (i := 3) (j := 4) (l := 5) rfl nd rfl rfl rfl (by decide) (by decide) (by decide) rfl rfl rfl (pa_cons (pe_ix (ixk_tup (K := K) rfl) (pv 2) pe_int (fun _ _ => rfl)) (pa_cons (pe_ix (ixk_tup (K := K) rfl) (pv 2) pe_int (fun _ _ => rfl)) (pa_cons (pe_lenS (by rfl) T.b_len (pv 1)) pa_nil))) rfl)
    (pss_cons (ps_if (PW.pt (pw_and (pt_cmpR (opk_in_seq (K := K) rfl) (pv 3) (pe_tup (pa_cons pe_str (pa_cons pe_str pa_nil))) (by rfl)) (pw_and (pt_cmpR op_eq (pe_lenS (by rfl) T.b_len (pv 2)) pe_int (nomark _)) (pw_and1 (pt_cmpR op_lt (pe_op op_add (pv 4) pe_int) (pv 5) (nomark _)))))) (pss_cons (ps_par (i := 6) (j := 7) rfl nd rfl rfl (by decide) rfl rfl (pa_cons (pe_ix (ixk_list (K := K) rfl) (pv 1) (pv 4) (fun _ _ => rfl)) (pa_cons (pe_ix (ixk_list (K := K) rfl) (pv 1) (pe_op op_add (pv 4) pe_int) (fun _ _ => rfl)) pa_nil)) rfl)
    (pss_cons (ps_if (pt_cmpR op_eq (pv 3) pe_str (nomark _)) (pss_one (ps_ret (pe_ifExp (pt_val (pe_k (c__law_apart T) hr (by decide) (by rfl) (pa_cons (pv 0) (pa_cons (pe_ix (ixk_tup (K := K) rfl) (pv 6) pe_int (fun _ _ => rfl)) (pa_cons (pe_ix (ixk_tup (K := K) rfl) (pv 7) pe_int (fun _ _ => rfl)) pa_nil))))) (pe_op op_cat (pe_op op_cat (pe_slice sl_list (pv 1) po_none (po_some (pv 4))) (pe_lst (pa_cons (pv 7) (pa_cons (pv 6) pa_nil)))) (pe_slice sl_list (pv 1) (po_some (pe_op op_add (pv 4) pe_int)) po_none)) pe_non))) pss_nil)
    (pss_cons (ps_set (i := 8) nd rfl (.inl rfl) (pe_op op_add (pe_ix (ixk_tup (K := K) rfl) (pv 6) pe_int (fun _ _ => rfl)) (pe_ix (ixk_tup (K := K) rfl) (pv 7) pe_int (fun _ _ => rfl))))
    (pss_cons (ps_if (pt_cmpR op_ne (pe_ix (ixk_tup (K := K) rfl) (pv 6) pe_int (fun _ _ => rfl)) (pe_ix (ixk_tup (K := K) rfl) (pv 7) pe_int (fun _ _ => rfl)) (nomark _)) (pss_one (ps_ret pe_non)) pss_nil)
    (pss_one (ps_ret (pe_op op_cat (pe_op op_cat (pe_slice sl_list (pv 1) po_none (po_some (pv 4))) (pe_ifExp (pt_cmpR op_ne (pv 8) pe_int (nomark _)) (pe_lst (pa_cons (pe_tup (pa_cons (pe_ix (ixk_tup (K := K) rfl) (pv 6) pe_int (fun _ _ => rfl)) (pa_cons (pv 8) pa_nil))) pa_nil)) (pe_lst pa_nil))) (pe_slice sl_list (pv 1) (po_some (pe_op op_add (pv 4) pe_int)) po_none)))))))) pss_nil)
    (pss_cons (ps_if (PW.pt (pw_and (pt_cmpR op_eq (pv 3) pe_str (nomark _)) (pw_and (pt_cmpR op_eq (pe_lenS (by rfl) T.b_len (pv 2)) pe_int (nomark _)) (pw_and (pt_cmpR op_lt (pv 4) (pv 5) (nomark _)) (pw_and1 (pt_cmpR op_lt (pv 5) pe_int (nomark _))))))) (pss_cons (ps_asg (pe_ix (ixk_list (K := K) rfl) (pv 1) (pv 4) (fun _ _ => rfl)) (pg_tup rfl (pgs_cons (pg_name (i := 9) nd rfl (.inl rfl)) (pgs_cons (pg_name (i := 8) nd rfl (.inl rfl)) pgs_nil))))
    (pss_cons (ps_if (PW.pt (pw_or (pt_not (pt_val (pe_k (c__law_is_step T) hr (by decide) (by rfl) (pa_cons (pv 0) (pa_cons (pe_tup (pa_cons (pv 9) (pa_cons (pe_ix (ixk_tup (K := K) rfl) (pv 2) pe_int (fun _ _ => rfl)) pa_nil))) pa_nil))))) (pw_or1 (pt_cmpR op_eq (pe_ix (ixk_tup (K := K) rfl) (pv 2) pe_int (fun _ _ => rfl)) (pv 8) (nomark _))))) (pss_one (ps_ret pe_non)) pss_nil)
    (pss_one (ps_ret (pe_op op_cat (pe_op op_cat (pe_slice sl_list (pv 1) po_none (po_some (pv 4))) (pe_lst (pa_cons (pe_tup (pa_cons (pv 9) (pa_cons (pe_ix (ixk_tup (K := K) rfl) (pv 2) pe_int (fun _ _ => rfl)) pa_nil))) (pa_cons (pe_tup (pa_cons (pv 9) (pa_cons (pe_op op_sub (pv 8) (pe_ix (ixk_tup (K := K) rfl) (pv 2) pe_int (fun _ _ => rfl))) pa_nil))) pa_nil)))) (pe_slice sl_list (pv 1) (po_some (pe_op op_add (pv 4) pe_int)) po_none)))))) pss_nil)
    (pss_cons (ps_if (PW.pt (pw_and (pt_cmpR op_eq (pv 3) pe_str (nomark _)) (pw_and (pt_cmpR op_eq (pe_lenS (by rfl) T.b_len (pv 2)) pe_int (nomark _)) (pw_and (pt_cmpR op_le (pv 4) (pv 5) (nomark _)) (pw_and (pt_cmpR op_lt (pv 5) pe_int (nomark _)) (pw_and1 (pt_val (pe_k (c__law_is_step T) hr (by decide) (by rfl) (pa_cons (pv 0) (pa_cons (pe_ix (ixk_tup (K := K) rfl) (pv 2) pe_int (fun _ _ => rfl)) pa_nil)))))))))) (pss_one (ps_ret (pe_op op_cat (pe_op op_cat (pe_slice sl_list (pv 1) po_none (po_some (pv 4))) (pe_lst (pa_cons (pe_ix (ixk_tup (K := K) rfl) (pv 2) pe_int (fun _ _ => rfl)) (pa_cons (pe_tup (pa_cons (pe_ix (ixk_tup (K := K) rfl) (pe_ix (ixk_tup (K := K) rfl) (pv 2) pe_int (fun _ _ => rfl)) pe_int (fun _ _ => rfl)) (pa_cons (pe_op op_sub pe_int (pe_ix (ixk_tup (K := K) rfl) (pe_ix (ixk_tup (K := K) rfl) (pv 2) pe_int (fun _ _ => rfl)) pe_int (fun _ _ => rfl))) pa_nil))) pa_nil)))) (pe_slice sl_list (pv 1) (po_some (pv 4)) po_none)))) pss_nil)
    (pss_one (ps_ret pe_non)))))))), ?_⟩
    refine ⟨_, rfl, v, .ty "tuple", _, _, _, rfl, .ty _, tyx_data hd, kit_data (.inl rfl) hd, _, rfl, ?_⟩
    have lx := hL.len
    rw [List.length_map] at lx
    cases d with
    | tuple ds =>
      cases hd with
      | tup hS hV =>
      rename_i o os
      have hl := hV.len
      refine iteF ⟨_, rfl, _, os, rfl, .inr hS, two_sz, fun t nt => upd_gen nt fun H1 s1 e1 => ⟨t, _, rfl, .inr (SqT.of e1), rfl, rfl, _, rfl, ?_⟩⟩
      have hS1 := (Tk.of s1).sqT hS
      have hV1 := DpAll.sm s1 _ hV
      have eL1 := s1 _ _ eL
      have hL1 := DpAll.tk (Tk.of s1) _ (flat_all_steps l) hL
      match ds, hV, hV1, hl, sd, q with
      | [], _, _, hl, _, q =>
        rw [hl]
        exact iteT (q H1 s1)
      | [_], _, _, hl, _, q =>
        rw [hl]
        exact iteT (by cases ‹PyData› <;> exact q H1 s1)
      | [w, k], hV, hV1, hl, sd, q =>
        rw [hl]
        cases hV1 with
        | cons hw hV1 =>
        cases hV1 with
        | cons hk hV1 =>
        cases hV1
        refine iteF ⟨_, rfl, ix0 hS1 ⟨_, .ty "str", _, _, _, rfl, .ty _, tyx_data hw, kit_data (.inr (.inr (.inl rfl))) hw, _, rfl, ?_⟩⟩
        cases w with
        | str w =>
          cases hw
          refine iteF ⟨_, rfl, ix1 hS1 ⟨_, .ty "int", _, _, _, rfl, .ty _, tyx_data hk, kit_data (.inr (.inr (.inr (.inl rfl)))) hk, _, rfl, ?_⟩⟩
          cases k with
          | int k =>
            have hk' := hk
            cases hk
            refine iteF ⟨_, rfl, ix1 hS1 ⟨_, .ty "bool", _, _, _, rfl, .ty _, tyx_data hk', kit_data (.inr (.inr (.inr (.inr rfl)))) hk', _, rfl, iteF ?_⟩⟩
            refine ⟨_, rfl, ix1 hS1 ⟨_, _, rfl, rfl, _, rfl, ?_⟩⟩
            by_cases k0 : k < 0
            · rw [decide_eq_true k0]
              have q : OutLL K H Q none := by
                rw [amv2] at q
                have e1 : chgL F l k = none := if_neg fun z => by omega
                have e2 : joiL l k = none := if_neg fun z => by omega
                rw [e1, e2] at q
                split at q
                · exact q
                · split at q <;> exact q
              exact iteT (q H1 s1)
            · rw [decide_eq_false k0]
              refine iteF ⟨_, rfl, ix0 hS1 ⟨_, rfl, ix1 hS1 ⟨_, rfl, p, xs, rfl, .inl (SqL.of eL1), ⟨_, _, _, rfl, ?_⟩⟩⟩⟩
              refine ⟨_, rfl, two_sz, fun t2 nt2 => upd_gen nt2 fun H2 s2 e2 => ⟨t2, _, rfl, .inr (SqT.of e2), rfl, rfl, _, rfl, ?_⟩⟩
              have s12 := s1.trans s2
              have hS2 := (Tk.of s2).sqT hS1
              have eL2 := s2 _ _ eL1
              have hL2 := DpAll.tk (Tk.of s2) _ (flat_all_steps l) hL1
              rw [in_two]
              rw [amv2] at q
              by_cases hc : w = "change"
              · subst hc
                rw [if_pos rfl] at q
                refine iteT ⟨_, rfl, o, _, rfl, .inr hS2, rfl, _, rfl, ?_⟩
                rw [show (V.int (([V.str "change", V.int k].length : Nat) : Int)) = V.int 2 from rfl, decide_eq_true rfl]
                refine iteT ⟨_, rfl, _, _, rfl, rfl, _, rfl, _, _, rfl, rfl, _, rfl, ?_⟩
                by_cases k1 : k + 1 < (xs.length : Int)
                · rw [decide_eq_true k1]
                  unfold chgL at q
                  rw [if_pos ⟨by omega, by omega⟩] at q
                  have g1 : l[k.toNat]? = some l[k.toNat] := List.getElem?_eq_getElem (by omega)
                  have g2 : l[k.toNat + 1]? = some l[k.toNat + 1] := List.getElem?_eq_getElem (by omega)
                  have m1 := nl _ (List.mem_of_getElem? g1)
                  have m2 := nl _ (List.mem_of_getElem? g2)
                  rw [g1, g2] at q
                  generalize l[k.toNat] = s at g1 m1 q
                  generalize l[k.toNat + 1] = t at g2 m2 q
                  obtain ⟨c1, hc1, cs1⟩ := hL2.step g1
                  obtain ⟨c2, hc2, cs2⟩ := hL2.step g2
                  have q : OutLL K H Q (capL (if apart F s.1 t.1 then some (l.take k.toNat ++ [t, s] ++ l.drop (k.toNat + 2)) else none)) := q
                  refine iteT ⟨_, rfl, _, rfl, _, _, _, _, rfl, rfl, SqL.of eL2, at_of (j := k.toNat) (by omega) hc1, ?_⟩
                  refine ⟨_, rfl, _, rfl, _, _, rfl, rfl, _, _, _, _, rfl, rfl, SqL.of eL2, at_of (j := k.toNat + 1) (by omega) hc2, _, _, rfl, ?_⟩
                  refine ⟨_, rfl, rfl, _, rfl, iteT ?_⟩
                  refine ⟨_, rfl, _, rfl, ix0 cs1 ⟨_, rfl, ix0 cs2 ⟨a, F, s.1, t.1, rfl, tF hF s12, ok, m1, m2, fun H3 s3 => ⟨_, rfl, ?_⟩⟩⟩⟩
                  have s13 := s12.trans s3
                  cases hap : apart F s.1 t.1 with
                  | false =>
                    rw [hap, if_neg Bool.false_ne_true] at q
                    exact iteF (q H3 s13)
                  | true =>
                    rw [hap, if_pos rfl] at q
                    refine iteT ?_
                    have q := capL_out q (by simp only [List.length_append, List.length_take, List.length_drop, List.length_cons, List.length_nil]; omega)
                    have R2 : Row1 K H2 p l := ⟨xs, eL2, hL2⟩
                    refine ⟨_, rfl, noPart ⟨_, rfl, _, rfl, rTo (row1S R2 s3) k0 fun H4 p4 s4 h4 => ?_⟩⟩
                    refine ⟨_, rfl, _, rfl, two_sz, fun p5 n5 => upd_gen n5 fun H5 s5 e5 => ?_⟩
                    have s25 := s3.trans (s4.trans s5)
                    have h5 : Row1 K H5 p5 [t, s] := ⟨_, e5, .cons (Dp.of_step ((Tk.of s25).sqT cs2)) (.cons (Dp.of_step ((Tk.of s25).sqT cs1)) .nil)⟩
                    refine rCt (row1S h4 s5) h5 (by rw [List.length_take]; show _ + 2 ≤ _; omega) fun H6 p6 s6 n6 h6 => ?_
                    refine ⟨_, rfl, _, rfl, _, _, rfl, rfl, _, rfl, noPart (rFrom (row1S R2 (s25.trans s6)) (by omega) fun H7 p7 s7 h7 => ?_)⟩
                    refine rCt (row1S h6 s7) h7 (by rw [List.length_append, List.length_take, List.length_drop]; show _ + 2 + _ ≤ _; omega) fun H8 p8 s8 n8 h8 => ?_
                    have s07 := s12.trans (s25.trans (s6.trans s7))
                    rw [show (k + 2).toNat = k.toNat + 2 by omega] at h8
                    exact q H8 p8 (s07.trans s8) h8 (fresh_of s07 n8)
                · rw [decide_eq_false k1]
                  unfold chgL at q
                  rw [if_neg fun z => k1 (by omega)] at q
                  exact iteF ⟨_, rfl, rfl, _, rfl, iteF ⟨_, rfl, rfl, _, rfl, iteF (q H2 s12)⟩⟩
              · rw [if_neg hc] at q
                by_cases hj : w = "join"
                · subst hj
                  rw [if_pos rfl] at q
                  refine iteT ⟨_, rfl, o, _, rfl, .inr hS2, rfl, _, rfl, ?_⟩
                  rw [show (V.int (([V.str "join", V.int k].length : Nat) : Int)) = V.int 2 from rfl, decide_eq_true rfl]
                  refine iteT ⟨_, rfl, _, _, rfl, rfl, _, rfl, _, _, rfl, rfl, _, rfl, ?_⟩
                  by_cases k1 : k + 1 < (xs.length : Int)
                  · rw [decide_eq_true k1]
                    unfold joiL at q
                    rw [if_pos ⟨by omega, by omega⟩] at q
                    have g1 : l[k.toNat]? = some l[k.toNat] := List.getElem?_eq_getElem (by omega)
                    have g2 : l[k.toNat + 1]? = some l[k.toNat + 1] := List.getElem?_eq_getElem (by omega)
                    rw [g1, g2] at q
                    generalize l[k.toNat] = s at g1 q
                    generalize l[k.toNat + 1] = t at g2 q
                    obtain ⟨c1, hc1, cs1⟩ := hL2.step g1
                    obtain ⟨c2, hc2, cs2⟩ := hL2.step g2
                    have q : OutLL K H Q (capL (if s.1 = t.1 then some (l.take k.toNat ++ (if s.2 + t.2 = 0 then [] else [(s.1, s.2 + t.2)]) ++ l.drop (k.toNat + 2)) else none)) := q
                    refine iteT ⟨_, rfl, _, rfl, _, _, _, _, rfl, rfl, SqL.of eL2, at_of (j := k.toNat) (by omega) hc1, ?_⟩
                    refine ⟨_, rfl, _, rfl, _, _, rfl, rfl, _, _, _, _, rfl, rfl, SqL.of eL2, at_of (j := k.toNat + 1) (by omega) hc2, _, _, rfl, ?_⟩
                    refine ⟨_, rfl, rfl, _, rfl, iteF ?_⟩
                    refine ⟨_, rfl, ix1 cs1 ⟨_, rfl, ix1 cs2 ⟨_, _, rfl, rfl, ?_⟩⟩⟩
                    refine ⟨_, rfl, ix0 cs1 ⟨_, rfl, ix0 cs2 ⟨rfl, _, rfl, ?_⟩⟩⟩
                    have R2 : Row1 K H2 p l := ⟨xs, eL2, hL2⟩
                    by_cases hn : s.1 = t.1
                    · rw [if_pos hn] at q
                      rw [decide_eq_true (show V.str s.1 = V.str t.1 by rw [hn])]
                      refine iteF ⟨_, rfl, noPart ⟨_, rfl, _, rfl, rTo R2 k0 fun H4 p4 s4 h4 => ?_⟩⟩
                      refine by_q (fun v H' => ∃ b, v = .ref b ∧ Same H4 H' ∧ Row1 K H' b (if s.2 + t.2 = 0 then [] else [(s.1, s.2 + t.2)])) (fun Qx hQ => ?_) (fun v H5 ⟨b, ev, s5, hb⟩ => ?_)
                      · refine ⟨_, rfl, rfl, _, rfl, ?_⟩
                        rw [dec_int]
                        by_cases hz : s.2 + t.2 = 0
                        · rw [if_pos hz] at hQ
                          rw [hz]
                          exact iteF ⟨Nat.zero_le _, fun p1 n1 => upd_gen n1 fun H1 s1 e1 => hQ _ _ ⟨p1, rfl, s1, _, e1, .nil⟩⟩
                        · rw [if_neg hz] at hQ
                          rw [show (!(s.2 + t.2 == 0)) = true by simp [hz]]
                          exact iteT ⟨_, rfl, ix0 ((Tk.of s4).sqT cs1) ⟨_, rfl, two_sz, fun p1 n1 => upd_gen n1 fun H1 s1 e1 => ⟨one_sz, fun p2 n2 => upd_gen n2 fun H2 s2 e2 => hQ _ _ ⟨p2, rfl, s1.trans s2, _, e2, .cons (Dp.of_step (s := (s.1, s.2 + t.2)) ((Tk.of s2).sqT (SqT.of e1))) .nil⟩⟩⟩⟩
                      · subst ev
                        have lb : (if s.2 + t.2 = 0 then [] else [(s.1, s.2 + t.2)] : Rw).length ≤ 1 := by split <;> simp
                        generalize (if s.2 + t.2 = 0 then [] else [(s.1, s.2 + t.2)] : Rw) = B at hb lb q
                        have q := capL_out q (by simp only [List.length_append, List.length_take, List.length_drop]; omega)
                        refine rCt (row1S h4 s5) hb (by rw [List.length_take]; omega) fun H6 p6 s6 n6 h6 => ?_
                        refine ⟨_, rfl, _, rfl, _, _, rfl, rfl, _, rfl, noPart (rFrom (row1S R2 (s4.trans (s5.trans s6))) (by omega) fun H7 p7 s7 h7 => ?_)⟩
                        refine rCt (row1S h6 s7) h7 (by rw [List.length_append, List.length_take, List.length_drop]; omega) fun H8 p8 s8 n8 h8 => ?_
                        have s07 := s12.trans (s4.trans (s5.trans (s6.trans s7)))
                        rw [show (k + 2).toNat = k.toNat + 2 by omega] at h8
                        exact q H8 p8 (s07.trans s8) h8 (fresh_of s07 n8)
                    · rw [if_neg hn] at q
                      rw [decide_eq_false fun z => hn (by injection z)]
                      exact iteT (q H2 s12)
                  · rw [decide_eq_false k1]
                    unfold joiL at q
                    rw [if_neg fun z => k1 (by omega)] at q
                    exact iteF ⟨_, rfl, rfl, _, rfl, iteF ⟨_, rfl, rfl, _, rfl, iteF (q H2 s12)⟩⟩
                · rw [if_neg hj] at q
                  rw [decide_eq_false hc, decide_eq_false hj]
                  have ne3 : decide (V.int (([V.str w, V.int k].length : Nat) : Int) = V.int 3) = false := decide_eq_false fun z => by injection z with z; exact absurd z (show ¬ ((2 : Nat) : Int) = 3 by decide)
                  refine iteF ⟨_, rfl, rfl, _, rfl, ite2 (fun _ => ⟨_, rfl, o, _, rfl, .inr hS2, rfl, _, rfl, ?_⟩) (fun _ => ⟨_, rfl, rfl, _, rfl, ite2 (fun _ => ⟨_, rfl, o, _, rfl, .inr hS2, rfl, _, rfl, ?_⟩) (fun _ => q H2 s12)⟩)⟩
                  · rw [ne3]
                    refine iteF ⟨_, rfl, rfl, _, rfl, ite2 (fun _ => ⟨_, rfl, o, _, rfl, .inr hS2, rfl, _, rfl, ?_⟩) (fun _ => q H2 s12)⟩
                    rw [ne3]
                    exact iteF (q H2 s12)
                  · rw [ne3]
                    exact iteF (q H2 s12)
          | bool b =>
            have hk' := hk
            cases hk
            exact iteF ⟨_, rfl, ix1 hS1 ⟨_, .ty "bool", _, _, _, rfl, .ty _, tyx_data hk', kit_data (.inr (.inr (.inr (.inr rfl)))) hk', _, rfl, iteT (q H1 s1)⟩⟩
          | _ => exact iteT (q H1 s1)
        | _ => exact iteT (by cases k <;> exact q H1 s1)
      | [w, k, x], hV, hV1, hl, sd, q =>
        rw [hl]
        have sx := shaped_mem sd (show x ∈ [w, k, x] by simp)
        cases hV1 with
        | cons hw hV1 =>
        cases hV1 with
        | cons hk hV1 =>
        cases hV1 with
        | cons hx hV1 =>
        cases hV1
        refine iteF ⟨_, rfl, ix0 hS1 ⟨_, .ty "str", _, _, _, rfl, .ty _, tyx_data hw, kit_data (.inr (.inr (.inl rfl))) hw, _, rfl, ?_⟩⟩
        cases w with
        | str w =>
          cases hw
          refine iteF ⟨_, rfl, ix1 hS1 ⟨_, .ty "int", _, _, _, rfl, .ty _, tyx_data hk, kit_data (.inr (.inr (.inr (.inl rfl)))) hk, _, rfl, ?_⟩⟩
          cases k with
          | int k =>
            have hk' := hk
            cases hk
            refine iteF ⟨_, rfl, ix1 hS1 ⟨_, .ty "bool", _, _, _, rfl, .ty _, tyx_data hk', kit_data (.inr (.inr (.inr (.inr rfl)))) hk', _, rfl, iteF ?_⟩⟩
            refine ⟨_, rfl, ix1 hS1 ⟨_, _, rfl, rfl, _, rfl, ?_⟩⟩
            by_cases k0 : k < 0
            · rw [decide_eq_true k0]
              have q : OutLL K H Q none := by
                rw [amv3] at q
                have e1 : prtL l k x = none := if_neg fun z => by omega
                have e2 : putL F l k x = none := if_neg fun z => by omega
                rw [e1, e2] at q
                split at q
                · exact q
                · split at q <;> exact q
              exact iteT (q H1 s1)
            · rw [decide_eq_false k0]
              refine iteF ⟨_, rfl, ix0 hS1 ⟨_, rfl, ix1 hS1 ⟨_, rfl, p, xs, rfl, .inl (SqL.of eL1), ⟨_, _, _, rfl, ?_⟩⟩⟩⟩
              refine ⟨_, rfl, two_sz, fun t2 nt2 => upd_gen nt2 fun H2 s2 e2 => ⟨t2, _, rfl, .inr (SqT.of e2), rfl, rfl, _, rfl, ?_⟩⟩
              have s12 := s1.trans s2
              have hS2 := (Tk.of s2).sqT hS1
              have eL2 := s2 _ _ eL1
              have hL2 := DpAll.tk (Tk.of s2) _ (flat_all_steps l) hL1
              have hx2 := Dp.sm s2 _ hx
              have R2 : Row1 K H2 p l := ⟨xs, eL2, hL2⟩
              rw [in_two]
              rw [amv3] at q
              have ne2 : ∀ v : V, decide (V.int (([V.str w, V.int k, v].length : Nat) : Int) = V.int 2) = false := fun _ => decide_eq_false fun z => by injection z with z; exact absurd z (show ¬ ((3 : Nat) : Int) = 2 by decide)
              have eq3 : ∀ v : V, decide (V.int (([V.str w, V.int k, v].length : Nat) : Int) = V.int 3) = true := fun _ => decide_eq_true rfl
              by_cases hc : w = "part"
              · subst hc
                rw [if_pos rfl] at q
                refine iteF ⟨_, rfl, rfl, _, rfl, iteT ⟨_, rfl, o, _, rfl, .inr hS2, rfl, _, rfl, ?_⟩⟩
                rw [eq3]
                refine iteT ⟨_, rfl, _, rfl, _, _, rfl, rfl, _, rfl, ?_⟩
                unfold prtL at q
                by_cases k1 : k < (xs.length : Int)
                · rw [decide_eq_true k1]
                  rw [if_pos ⟨by omega, by omega⟩] at q
                  have g1 : l[k.toNat]? = some l[k.toNat] := List.getElem?_eq_getElem (by omega)
                  have m1 := nl _ (List.mem_of_getElem? g1)
                  rw [g1] at q
                  generalize l[k.toNat] = s at g1 m1 q
                  obtain ⟨c1, hc1, cs1⟩ := hL2.step g1
                  refine iteT ⟨_, rfl, _, _, rfl, rfl, _, rfl, ?_⟩
                  by_cases m4 : (xs.length : Int) < 400
                  · rw [decide_eq_true m4]
                    refine iteT ⟨_, rfl, _, rfl, _, _, _, _, rfl, rfl, SqL.of eL2, at_of (j := k.toNat) (by omega) hc1, c1, _, rfl, cs1, rfl, _, _, rfl, _, _, rfl, rfl, ?_⟩
                    refine ⟨_, rfl, _, rfl, _, rfl, ix2 hS2 ⟨two_sz, fun p3 n3 => upd_gen n3 fun H3 s3 e3 => ⟨a, .ref p3, F, .tuple [.str s.1, x], rfl, tF hF (s12.trans s3), ok, .tup (SqT.of e3) (.cons (.str _) (.cons (Dp.sm s3 _ hx2) .nil)), _, rfl, ?_⟩⟩⟩
                    have no : stepD F.names (.tuple [.str s.1, x]) = false → OutLL K H Q none := fun e => by
                      cases x with
                      | int t =>
                        have e : (F.names.contains s.1 && timesD (.int t)) = false := e
                        rw [List.contains_iff_mem.mpr m1, Bool.true_and] at e
                        have q : OutLL K H Q (capL (if timesD (.int t) = true ∧ t ≠ s.2 then some (l.take k.toNat ++ [(s.1, t), (s.1, s.2 - t)] ++ l.drop (k.toNat + 1)) else none)) := q
                        rw [if_neg fun z => by rw [e] at z; exact absurd z.1 Bool.false_ne_true] at q
                        exact q
                      | _ => exact q
                    cases hs : stepD F.names (.tuple [.str s.1, x]) with
                    | false => exact iteT (no hs H3 (s12.trans s3))
                    | true =>
                      refine iteF ?_
                      cases x with
                      | int t =>
                        cases hx2
                        have hs : (F.names.contains s.1 && timesD (.int t)) = true := hs
                        rw [List.contains_iff_mem.mpr m1, Bool.true_and] at hs
                        have q : OutLL K H Q (capL (if timesD (.int t) = true ∧ t ≠ s.2 then some (l.take k.toNat ++ [(s.1, t), (s.1, s.2 - t)] ++ l.drop (k.toNat + 1)) else none)) := q
                        have hS3 := (Tk.of s3).sqT hS2
                        refine ⟨_, rfl, ix2 hS3 ⟨_, rfl, rfl, _, rfl, ?_⟩⟩
                        by_cases he : t = s.2
                        · rw [if_neg fun z => z.2 he] at q
                          rw [he, decide_eq_true rfl]
                          exact iteT (q H3 (s12.trans s3))
                        · rw [if_pos ⟨hs, he⟩] at q
                          rw [decide_eq_false fun z => he (by injection z)]
                          have q := capL_out q (by simp only [List.length_append, List.length_take, List.length_drop, List.length_cons, List.length_nil]; omega)
                          refine iteF ⟨_, rfl, noPart ⟨_, rfl, _, rfl, rTo (row1S R2 s3) k0 fun H4 p4 s4 h4 => ?_⟩⟩
                          have hS4 := (Tk.of s4).sqT hS3
                          refine ⟨_, rfl, _, rfl, ix2 hS4 ⟨two_sz, fun p5 n5 => upd_gen n5 fun H5 s5 e5 => ⟨_, rfl, _, rfl, _, rfl, ix2 ((Tk.of s5).sqT hS4) ⟨_, _, rfl, rfl, two_sz, fun p6 n6 => upd_gen n6 fun H6 s6 e6 => ⟨two_sz, fun p7 n7 => upd_gen n7 fun H7 s7 e7 => ?_⟩⟩⟩⟩⟩
                          have s47 := s5.trans (s6.trans s7)
                          have s27 := s3.trans (s4.trans s47)
                          have h7 : Row1 K H7 p7 [(s.1, t), (s.1, s.2 - t)] := ⟨_, e7, .cons (Dp.of_step (s := (s.1, t)) ((Tk.of (s6.trans s7)).sqT (SqT.of e5))) (.cons (Dp.of_step (s := (s.1, s.2 - t)) ((Tk.of s7).sqT (SqT.of e6))) .nil)⟩
                          refine rCt (row1S h4 s47) h7 (by rw [List.length_take]; show _ + 2 ≤ _; omega) fun H8 p8 s8 n8 h8 => ?_
                          refine ⟨_, rfl, _, rfl, _, _, rfl, rfl, _, rfl, noPart (rFrom (row1S R2 (s27.trans s8)) (by omega) fun H9 p9 s9 h9 => ?_)⟩
                          refine rCt (row1S h8 s9) h9 (by rw [List.length_append, List.length_take, List.length_drop]; show _ + 2 + _ ≤ _; omega) fun Hx px sx nx hx => ?_
                          have s09 := s12.trans (s27.trans (s8.trans s9))
                          rw [show (k + 1).toNat = k.toNat + 1 by omega] at hx
                          exact q Hx px (s09.trans sx) hx (fresh_of s09 nx)
                      | _ => cases hs
                  · rw [decide_eq_false m4]
                    have q : OutLL K H Q none := by
                      cases x with
                      | int t =>
                        have q : OutLL K H Q (capL (if timesD (.int t) = true ∧ t ≠ s.2 then some (l.take k.toNat ++ [(s.1, t), (s.1, s.2 - t)] ++ l.drop (k.toNat + 1)) else none)) := q
                        split at q
                        · exact capL_no q (by simp only [List.length_append, List.length_take, List.length_drop, List.length_cons, List.length_nil]; omega)
                        · exact q
                      | _ => exact q
                    exact iteF ⟨_, rfl, rfl, _, rfl, iteF (q H2 s12)⟩
                · rw [decide_eq_false k1]
                  rw [if_neg fun z => k1 (by omega)] at q
                  exact iteF ⟨_, rfl, rfl, _, rfl, iteF (q H2 s12)⟩
              · rw [if_neg hc] at q
                have fin : ∀ (H3 : Hp), Same H2 H3 → OutLL K H Q none → Q .non H3 := fun H3 s3 q => q H3 (s12.trans s3)
                by_cases hp : w = "put"
                · subst hp
                  rw [if_pos rfl] at q
                  refine iteF ⟨_, rfl, rfl, _, rfl, iteF ⟨_, rfl, rfl, _, rfl, iteT ⟨_, rfl, o, _, rfl, .inr hS2, rfl, _, rfl, ?_⟩⟩⟩
                  rw [eq3]
                  refine iteT ⟨_, rfl, _, rfl, _, _, rfl, rfl, _, rfl, ?_⟩
                  unfold putL at q
                  by_cases k1 : k ≤ (xs.length : Int)
                  · rw [decide_eq_true k1]
                    rw [if_pos ⟨by omega, by omega⟩] at q
                    refine iteT ⟨_, rfl, _, _, rfl, rfl, _, rfl, ?_⟩
                    by_cases m4 : (xs.length : Int) < 399
                    · rw [decide_eq_true m4]
                      refine iteT ⟨_, rfl, _, rfl, ix2 hS2 ⟨a, _, F, x, rfl, tF hF s12, ok, hx2, _, rfl, ?_⟩⟩
                      by_cases hs : stepD F.names x = true
                      · obtain ⟨n, t, rfl⟩ : ∃ n t, x = .tuple [.str n, .int t] := by
                          match x, hs with
                          | .tuple [.str n, .int t], _ => exact ⟨n, t, rfl⟩
                        rw [hs]
                        have q : OutLL K H Q (capL (if stepD F.names (.tuple [.str n, .int t]) = true then some (l.take k.toNat ++ [(n, t), (n, -t)] ++ l.drop k.toNat) else none)) := q
                        rw [if_pos hs] at q
                        have q := capL_out q (by simp only [List.length_append, List.length_take, List.length_drop, List.length_cons, List.length_nil]; omega)
                        cases hx2 with
                        | tup hX hXV =>
                        cases hXV with
                        | cons hxn hXV =>
                        cases hXV with
                        | cons hxt hXV =>
                        cases hXV
                        cases hxn
                        cases hxt
                        refine iteT ⟨_, rfl, noPart ⟨_, rfl, _, rfl, rTo R2 k0 fun H4 p4 s4 h4 => ?_⟩⟩
                        have hS4 := (Tk.of s4).sqT hS2
                        have hX4 := (Tk.of s4).sqT hX
                        refine ⟨_, rfl, ix2 hS4 ⟨_, rfl, ix2 hS4 (ix0 hX4 ⟨_, rfl, ix2 hS4 (ix1 hX4 ⟨_, _, rfl, rfl, two_sz, fun p6 n6 => upd_gen n6 fun H6 s6 e6 => ⟨two_sz, fun p7 n7 => upd_gen n7 fun H7 s7 e7 => ?_⟩⟩)⟩)⟩⟩
                        have s47 := s6.trans s7
                        have s27 := s4.trans s47
                        have h7 : Row1 K H7 p7 [(n, t), (n, -t)] := ⟨_, e7, .cons (Dp.of_step (s := (n, t)) ((Tk.of s47).sqT hX4)) (.cons (Dp.of_step (s := (n, -t)) ((Tk.of s7).sqT (SqT.of (by rw [e6]; show some (HO.tup [V.str n, V.int (0 - t)]) = _; rw [Int.zero_sub])))) .nil)⟩
                        refine rCt (row1S h4 s47) h7 (by rw [List.length_take]; show _ + 2 ≤ _; omega) fun H8 p8 s8 n8 h8 => ?_
                        refine ⟨_, rfl, _, rfl, _, rfl, noPart (rFrom (row1S R2 (s27.trans s8)) k0 fun H9 p9 s9 h9 => ?_)⟩
                        refine rCt (row1S h8 s9) h9 (by rw [List.length_append, List.length_take, List.length_drop]; show _ + 2 + _ ≤ _; omega) fun Hx px sx nx hx => ?_
                        have s09 := s12.trans (s27.trans (s8.trans s9))
                        exact q Hx px (s09.trans sx) hx (fresh_of s09 nx)
                      · rw [Bool.eq_false_iff.mpr hs]
                        refine iteF (fin H2 (Same.refl _) ?_)
                        split at q
                        · rw [if_neg hs] at q
                          exact q
                        · exact q
                    · rw [decide_eq_false m4]
                      refine iteF (fin H2 (Same.refl _) ?_)
                      split at q
                      · split at q
                        · exact capL_no q (by simp only [List.length_append, List.length_take, List.length_drop, List.length_cons, List.length_nil]; omega)
                        · exact q
                      · exact q
                  · rw [decide_eq_false k1]
                    rw [if_neg fun z => k1 (by omega)] at q
                    exact iteF (q H2 s12)
                · rw [if_neg hp] at q
                  have f1 : decide (V.str w = V.str "part") = false := decide_eq_false fun z => hc (by injection z)
                  have f2 : decide (V.str w = V.str "put") = false := decide_eq_false fun z => hp (by injection z)
                  refine ite2 (fun _ => ⟨_, rfl, o, _, rfl, .inr hS2, rfl, _, rfl, ?_⟩) (fun _ => ⟨_, rfl, rfl, _, rfl, ?_⟩)
                  · rw [ne2]
                    refine iteF ⟨_, rfl, rfl, _, rfl, ?_⟩
                    rw [f1]
                    refine iteF ⟨_, rfl, rfl, _, rfl, ?_⟩
                    rw [f2]
                    exact iteF (fin H2 (Same.refl _) q)
                  · rw [f1]
                    refine iteF ⟨_, rfl, rfl, _, rfl, ?_⟩
                    rw [f2]
                    exact iteF (fin H2 (Same.refl _) q)
          | bool b =>
            have hk' := hk
            cases hk
            exact iteF ⟨_, rfl, ix1 hS1 ⟨_, .ty "bool", _, _, _, rfl, .ty _, tyx_data hk', kit_data (.inr (.inr (.inr (.inr rfl)))) hk', _, rfl, iteT (q H1 s1)⟩⟩
          | _ => exact iteT (q H1 s1)
        | _ => exact iteT (by cases k <;> exact q H1 s1)
      | w :: k :: x :: y :: r, _, _, hl, _, q =>
        rw [hl]
        have e : inV (.int (((w :: k :: x :: y :: r).length : Nat) : Int)) [.int 2, .int 3] = false := by
          have h2 : (((w :: k :: x :: y :: r).length : Nat) : Int) ≠ 2 := by simp only [List.length_cons]; omega
          have h3 : (((w :: k :: x :: y :: r).length : Nat) : Int) ≠ 3 := by simp only [List.length_cons]; omega
          generalize (((w :: k :: x :: y :: r).length : Nat) : Int) = z at h2 h3
          show (eqV (.int 2) (.int z) || (eqV (.int 3) (.int z) || false)) = false
          have e2 : eqV (.int 2) (.int z) = (2 == z) := rfl
          have e3 : eqV (.int 3) (.int z) = (3 == z) := rfl
          rw [e2, e3]
          simp [h2.symm, h3.symm]
        rw [e]
        refine iteT ?_
        have q : OutLL K H Q none := by
          cases k <;> first | exact q | (cases x <;> exact q)
        exact q H1 s1
    | _ => exact iteT (q H (Same.refl _))
end
end XB
set_option Elab.async false
set_option linter.all false
set_option maxRecDepth 100000
set_option maxHeartbeats 4000000
namespace XB
open PySem PySem.Spec PyProof.Rows L2
theorem sz_dec {d : PyData} {n : Nat} (h : (d.showable && !d.hasDict && decide (d.depth ≤ 20) && d.leavesShort 60 && decide (d.bulk ≤ n)) = true) : Sz d n := by
  simp only [Bool.and_eq_true, decide_eq_true_eq, Bool.not_eq_true'] at h
  exact ⟨h.1.1.1.1, h.1.1.1.2, h.1.1.2, h.1.2, h.2⟩
theorem sh_sz {d : PyData} {n : Nat} (h : PyData.canLay0 d = true) (z : Sz d n) : SeqAt.shaped d = true := by
  have := z.dp
  show (PyData.canLay0 d && decide (PyData.depth d ≤ 64)) = true
  rw [h, Bool.true_and]
  exact decide_eq_true (by omega)
theorem lay2 {x y : PyData} (h : PyData.canLay0 x = true) (g : PyData.canLay0 y = true) : PyData.canLay0 (.tuple [x, y]) = true := by
  rw [PyData.canLay0, PyData.canLayAll0, PyData.canLayAll0, PyData.canLayAll0, h, g]
  rfl
theorem lay3 {x y z : PyData} (h : PyData.canLay0 x = true) (g : PyData.canLay0 y = true) (k : PyData.canLay0 z = true) : PyData.canLay0 (.tuple [x, y, z]) = true := by
  rw [PyData.canLay0, PyData.canLayAll0, PyData.canLayAll0, PyData.canLayAll0, PyData.canLayAll0, h, g, k]
  rfl
theorem layI {k : Int} : PyData.canLay0 (.int k) = true := by rw [PyData.canLay0]
theorem sz2 {x y : PyData} {a b : Nat} (h : Sz x a) (g : Sz y b) (d1 : x.depth ≤ 19) (d2 : y.depth ≤ 19) : Sz (.tuple [x, y]) (a + b + 2) := (SzA.cons h d1 (SzA.cons g d2 SzA.nil)).tup.mono (by omega)
theorem sz3 {x y z : PyData} {a b c : Nat} (h : Sz x a) (g : Sz y b) (k : Sz z c) (d1 : x.depth ≤ 19) (d2 : y.depth ≤ 19) (d3 : z.depth ≤ 19) : Sz (.tuple [x, y, z]) (a + b + c + 3) := (SzA.cons h d1 (SzA.cons g d2 (SzA.cons k d3 SzA.nil))).tup.mono (by omega)
def PL : List Int := [1, -1, 2, -2, 10 ^ 30, 0]
def QL : List Int := [1, -1, 3, 10 ^ 30, 0]
def D9 (x : Str) : List PyData := [.none, .int 5, .tuple [], .tuple [.str "change"], .tuple [.str "turn", .int 0], .tuple [.str "join", .bool true], .tuple [.str "put", .int 0, .str x], .tuple [.str "part", .int 0, .str "1"], .tuple [.str "change", .int (-1)]]
def D4 : List PyData := [.tuple [.str "put", .int 0, .tuple [.str "zzz", .int 1]], .list [.str "join", .int 0], .tuple [.str "join", .int 0, .int 0], .tuple [.str "part", .int 0, .int (10 ^ 30 + 1)]]
theorem odd_ok {x : Str} (g : GoodName x) {d : PyData} (h : d ∈ D9 x ++ D4) : PyData.canLay0 d = true ∧ Sz d 90 := by
  simp only [D9, D4, List.cons_append, List.nil_append, List.mem_cons, List.not_mem_nil, or_false] at h
  have z : Sz (.tuple [.str "put", .int 0, .str x]) (6 + 0 + 6 + 3) := sz3 (x := .str "put") (y := .int 0) (a := 6) (b := 0) (sz_dec (by decide +kernel)) (sz_dec (by decide +kernel)) (sz_str g) (by simp [PyData.depth]) (by simp [PyData.depth]) (by simp [PyData.depth])
  rcases h with h | h | h | h | h | h | h | h | h | h | h | h | h <;> subst h
  case inr.inr.inr.inr.inr.inr.inl => exact ⟨lay3 (by decide +kernel) layI (strOk_of g), z.mono (by omega)⟩
  all_goals exact ⟨by decide +kernel, sz_dec (by decide +kernel)⟩
/-- a drawn move as it lies: in tuples, but for one new list -/
def dJ : PyData := .list [.str "join", .int 0]
def MvD (K : PySem.W.Frag) (H H' : Hp) (v : V) (d : PyData) : Prop := (flatD d = true ∧ Dp K H' v d) ∨ (∃ b, v = .ref b ∧ d = dJ ∧ H b = none ∧ H' b = some (.lst [.str "join", .int 0]))
theorem MvD.dp {K : PySem.W.Frag} {H H' : Hp} {v : V} {d : PyData} (h : MvD K H H' v d) : Dp K H' v d := by
  rcases h with h | ⟨b, rfl, rfl, _, e⟩
  · exact h.2
  · exact .lst (SqL.of e) (.cons (.str _) (.cons (.int _) .nil))
theorem odd_flat {x : Str} {b : Nat} (hb : b ≠ 10) {d : PyData} (h : (D9 x ++ D4)[b]? = some d) : flatD d = true := by
  have hl := (List.getElem?_eq_some_iff.mp h).1
  have hl : b < 13 := hl
  rcases (show b = 0 ∨ b = 1 ∨ b = 2 ∨ b = 3 ∨ b = 4 ∨ b = 5 ∨ b = 6 ∨ b = 7 ∨ b = 8 ∨ b = 9 ∨ b = 11 ∨ b = 12 by omega) with e | e | e | e | e | e | e | e | e | e | e | e <;> subst e <;> cases h <;> rfl
section
variable {P : Program} {w : World} {K : PySem.W.Frag} {mg : Str → Option Value} {base : Heap}
/-- a drawn move, whatever it is -/
def spLMv (K : PySem.W.Frag) : Sp := fun vs H Q _ => ∃ (m c g f p : Addr) (s : Int) (F : Fld) (xs : List V), vs = [.ref m, .ref f, .ref p] ∧ Dr H m c g s ∧ Dp K H (.ref f) (dField F) ∧ F.Ok ∧ H p = some (.lst xs) ∧ xs.length ≤ 500 ∧ s < 1000000000 ∧
  ∀ H' v d s', Dr H' m c g s' → s' ≤ s + 4 → Kp m g H H' → MvD K H H' v d → SeqAt.shaped d = true → Sz d 90 → Q v H'
theorem c__law_move (T : Tx K mg) : Cl P w K mg base CX0 3 "_law_move" (spLMv K) := by
  refine cl0 T.d__law_move (ps := ["m", "field", "steps"]) (fun _ _ _ _ _ _ us hl => match us, hl with | [_, _, _], _ => rfl) sc__law_move (fun vs H Q E h => ?_) (fun fa cdv A outer st H vs Q E hr h => ?_)
  · obtain ⟨m, c, g, f, p, s, F, xs, rfl, _⟩ := h
    rfl
  · obtain ⟨m, c, g, f, p, s, F, xs, rfl, R, hF, ok, eL, lL, hs9, q⟩ := h
    have nd := sc__law_move.nd
    refine ⟨_, (pss_cons (ps_par (i := 3) (j := 4) rfl nd rfl rfl (by decide) rfl rfl (pa_cons (pe_k (c_draw T) hr (by decide) (by rfl) (pa_cons (pv 0) (pa_cons (pe_op op_add (pe_lenS (by rfl) T.b_len (pv 2)) pe_int) pa_nil))) (pa_cons (pe_k (c_draw T) hr (by decide) (by rfl) (pa_cons (pv 0) (pa_cons pe_int pa_nil))) pa_nil)) rfl)
    (pss_cons (ps_set (i := 5) nd rfl (.inl rfl) (pe_ix (ixk_tup (K := K) rfl) (pe_ix (ixk_tup (K := K) rfl) (pv 1) pe_int (fun _ _ => rfl)) (pe_k (c_draw T) hr (by decide) (by rfl) (pa_cons (pv 0) (pa_cons (pe_lenS (by rfl) T.b_len (pe_ix (ixk_tup (K := K) rfl) (pv 1) pe_int (fun _ _ => rfl))) pa_nil))) (fun _ _ => rfl)))
    (pss_cons (ps_if (pt_cmpR op_lt (pv 4) pe_int (nomark _)) (pss_one (ps_ret (pe_tup (pa_cons pe_str (pa_cons (pv 3) pa_nil))))) pss_nil)
    (pss_cons (ps_if (pt_cmpR op_lt (pv 4) pe_int (nomark _)) (pss_one (ps_ret (pe_tup (pa_cons pe_str (pa_cons (pv 3) pa_nil))))) pss_nil)
    (pss_cons (ps_if (pt_cmpR op_lt (pv 4) pe_int (nomark _)) (pss_one (ps_ret (pe_tup (pa_cons pe_str (pa_cons (pv 3) (pa_cons (pe_ix (ixk_list (K := K) rfl) (pe_lst (pa_cons pe_int (pa_cons (pe_un un_neg pe_int) (pa_cons pe_int (pa_cons (pe_un un_neg pe_int) (pa_cons (pe_op op_pow pe_int pe_int) (pa_cons pe_int pa_nil))))))) (pe_k (c_draw T) hr (by decide) (by rfl) (pa_cons (pv 0) (pa_cons pe_int pa_nil))) (fun _ _ => rfl)) pa_nil)))))) pss_nil)
    (pss_cons (ps_if (pt_cmpR op_lt (pv 4) pe_int (nomark _)) (pss_one (ps_ret (pe_tup (pa_cons pe_str (pa_cons (pv 3) (pa_cons (pe_tup (pa_cons (pv 5) (pa_cons (pe_ix (ixk_list (K := K) rfl) (pe_lst (pa_cons pe_int (pa_cons (pe_un un_neg pe_int) (pa_cons pe_int (pa_cons (pe_op op_pow pe_int pe_int) (pa_cons pe_int pa_nil)))))) (pe_k (c_draw T) hr (by decide) (by rfl) (pa_cons (pv 0) (pa_cons pe_int pa_nil))) (fun _ _ => rfl)) pa_nil))) pa_nil)))))) pss_nil)
    (pss_cons (ps_set (i := 6) nd rfl (.inl rfl) (pe_lst (pa_cons pe_non (pa_cons pe_int (pa_cons (pe_tup pa_nil) (pa_cons (pe_tup (pa_cons pe_str pa_nil)) (pa_cons (pe_tup (pa_cons pe_str (pa_cons pe_int pa_nil))) (pa_cons (pe_tup (pa_cons pe_str (pa_cons pe_bl pa_nil))) (pa_cons (pe_tup (pa_cons pe_str (pa_cons pe_int (pa_cons (pv 5) pa_nil)))) (pa_cons (pe_tup (pa_cons pe_str (pa_cons pe_int (pa_cons pe_str pa_nil)))) (pa_cons (pe_tup (pa_cons pe_str (pa_cons (pe_un un_neg pe_int) pa_nil))) pa_nil)))))))))))
    (pss_one (ps_ret (pe_ix (ixk_list (K := K) rfl) (pe_op op_cat (pv 6) (pe_lst (pa_cons (pe_tup (pa_cons pe_str (pa_cons pe_int (pa_cons (pe_tup (pa_cons pe_str (pa_cons pe_int pa_nil))) pa_nil)))) (pa_cons (pe_lst (pa_cons pe_str (pa_cons pe_int pa_nil))) (pa_cons (pe_tup (pa_cons pe_str (pa_cons pe_int (pa_cons pe_int pa_nil)))) (pa_cons (pe_tup (pa_cons pe_str (pa_cons pe_int (pa_cons (pe_op op_add (pe_op op_pow pe_int pe_int) pe_int) pa_nil)))) pa_nil)))))) (pe_k (c_draw T) hr (by decide) (by rfl) (pa_cons (pv 0) (pa_cons pe_int pa_nil))) (fun _ _ => rfl))))))))))), ?_⟩
    have C30 : CPow 10 30 := ⟨by decide, by decide, by decide⟩
    have f0 := ok.n0
    have f6 := ok.n6
    refine ⟨_, rfl, _, rfl, p, xs, rfl, .inl (SqL.of eL), _, _, rfl, rfl, m, c, g, s, _, rfl, R, by omega, by omega, by omega, fun r1 H1 r10 r11 R1 k1 => ⟨_, rfl, m, c, g, s + 1, 12, rfl, R1, by omega, by omega, by omega, fun r2 H2 r20 r21 R2 k2 => ⟨_, _, rfl, ?_⟩⟩⟩
    have k12 := k1.trans k2
    have t2 := (R.tk k1).trans (R1.tk k2)
    have hF2 := Dp.tk t2 _ (flat_field F) hF
    obtain ⟨_, n, pp, ps, e, hA, hN, hP, hD⟩ := hF2.field
    cases e
    have hlN : (F.names.map V.str).length = F.names.length := List.length_map ..
    refine ⟨_, rfl, _, _, _, _, rfl, rfl, hA, rfl, _, rfl, _, rfl, _, _, _, _, rfl, rfl, hA, rfl, n, _, rfl, .inr hN, m, c, g, s + 1 + 1, _, rfl, R2, by rw [hlN]; omega, by rw [hlN]; omega, by omega, fun r3 H3 r30 r31 R3 k3 => ?_⟩
    rw [hlN] at r31
    obtain ⟨a, ha⟩ : ∃ a : Nat, r3 = (a : Int) := ⟨r3.toNat, by omega⟩
    have hx : F.names[a]? = some F.names[a] := List.getElem?_eq_getElem (by omega)
    have hxm := List.mem_of_getElem? hx
    generalize F.names[a] = x at hx hxm
    have gx := ok.sgn _ hxm
    refine ⟨_, _, _, .str x, rfl, rfl, (R2.tk k3).sqT hN, at_of ha (by rw [List.getElem?_map, hx]; rfl), ?_⟩
    have k13 := k12.trans k3
    have zk : Sz (.int r1) 0 := sz_int (by omega)
    have zz : ∀ w : Str, Sz (.str w) 6 → Sz (.tuple [.str w, .int r1]) (6 + 0 + 2) := fun w h => sz2 h zk (by simp [PyData.depth]) (by simp [PyData.depth])
    refine ⟨_, rfl, _, _, rfl, rfl, _, rfl, ite2 (fun _ => ?_) (fun _ => ?_)⟩
    · exact ⟨_, rfl, two_sz, fun p1 n1 => upd_gen n1 fun H4 s4 e4 => q H4 (.ref p1) (.tuple [.str "change", .int r1]) _ (R3.same s4) (by omega) (k13.trans (Kp.of s4)) (.inl ⟨rfl, .tup (SqT.of e4) (.cons (.str _) (.cons (.int _) .nil))⟩) (sh_sz (lay2 (by decide +kernel) layI) (zz _ (sz_dec (by decide +kernel)))) ((zz _ (sz_dec (by decide +kernel))).mono (by omega))⟩
    refine ⟨_, rfl, _, _, rfl, rfl, _, rfl, ite2 (fun _ => ?_) (fun _ => ?_)⟩
    · exact ⟨_, rfl, two_sz, fun p1 n1 => upd_gen n1 fun H4 s4 e4 => q H4 (.ref p1) (.tuple [.str "join", .int r1]) _ (R3.same s4) (by omega) (k13.trans (Kp.of s4)) (.inl ⟨rfl, .tup (SqT.of e4) (.cons (.str _) (.cons (.int _) .nil))⟩) (sh_sz (lay2 (by decide +kernel) layI) (zz _ (sz_dec (by decide +kernel)))) ((zz _ (sz_dec (by decide +kernel))).mono (by omega))⟩
    refine ⟨_, rfl, _, _, rfl, rfl, _, rfl, ite2 (fun _ => ?_) (fun _ => ?_)⟩
    · refine ⟨_, rfl, _, rfl, _, rfl, _, _, rfl, rfl, C30, (show 6 ≤ sizeLine by decide), fun p1 n1 => upd_gen n1 fun H4 s4 e4 => ⟨_, rfl, m, c, g, s + 1 + 1 + 1, 6, rfl, R3.same s4, by omega, by omega, by omega, fun r4 H5 r40 r41 R5 k5 => ?_⟩⟩
      have e5 : H5 p1 = some (.lst (PL.map V.int)) := k5 _ _ (R3.nm n1).1 (R3.nm n1).2.2 e4
      obtain ⟨b, hb⟩ : ∃ b : Nat, r4 = (b : Int) := ⟨r4.toNat, by omega⟩
      have hbl : b < PL.length := by
        show b < 6
        omega
      have hz : PL[b]? = some PL[b] := List.getElem?_eq_getElem hbl
      have hzg : PL[b].natAbs < 10 ^ 50 := (show ∀ z ∈ PL, z.natAbs < 10 ^ 50 by decide +kernel) _ (List.mem_of_getElem? hz)
      generalize PL[b] = z at hz hzg
      have zd : Sz (.tuple [.str "part", .int r1, .int z]) (6 + 0 + 0 + 3) := sz3 (sz_dec (by decide +kernel)) zk (sz_int hzg) (by simp [PyData.depth]) (by simp [PyData.depth]) (by simp [PyData.depth])
      exact ⟨_, _, _, .int z, rfl, rfl, SqL.of e5, at_of hb (by rw [List.getElem?_map, hz]; rfl), three_sz, fun p2 n2 => upd_gen n2 fun H6 s6 e6 => q H6 (.ref p2) _ _ (R5.same s6) (by omega) (((k13.trans (Kp.of s4)).trans k5).trans (Kp.of s6)) (.inl ⟨rfl, .tup (SqT.of e6) (.cons (.str _) (.cons (.int _) (.cons (.int _) .nil)))⟩) (sh_sz (lay3 (by decide +kernel) layI layI) zd) (zd.mono (by omega))⟩
    refine ⟨_, rfl, _, _, rfl, rfl, _, rfl, ite2 (fun _ => ?_) (fun _ => ?_)⟩
    · refine ⟨_, rfl, _, rfl, _, rfl, _, _, rfl, rfl, C30, (show 5 ≤ sizeLine by decide), fun p1 n1 => upd_gen n1 fun H4 s4 e4 => ⟨_, rfl, m, c, g, s + 1 + 1 + 1, 5, rfl, R3.same s4, by omega, by omega, by omega, fun r4 H5 r40 r41 R5 k5 => ?_⟩⟩
      have e5 : H5 p1 = some (.lst (QL.map V.int)) := k5 _ _ (R3.nm n1).1 (R3.nm n1).2.2 e4
      obtain ⟨b, hb⟩ : ∃ b : Nat, r4 = (b : Int) := ⟨r4.toNat, by omega⟩
      have hbl : b < QL.length := by
        show b < 5
        omega
      have hz : QL[b]? = some QL[b] := List.getElem?_eq_getElem hbl
      have hzg : QL[b].natAbs < 10 ^ 50 := (show ∀ z ∈ QL, z.natAbs < 10 ^ 50 by decide +kernel) _ (List.mem_of_getElem? hz)
      generalize QL[b] = z at hz hzg
      have zd : Sz (.tuple [.str "put", .int r1, .tuple [.str x, .int z]]) (6 + 0 + (6 + 0 + 2) + 3) := sz3 (sz_dec (by decide +kernel)) zk (sz2 (sz_str gx) (sz_int hzg) (by simp [PyData.depth]) (by simp [PyData.depth])) (by simp [PyData.depth]) (by simp [PyData.depth]) (by simp [PyData.depth, PyData.depthAll])
      exact ⟨_, _, _, .int z, rfl, rfl, SqL.of e5, at_of hb (by rw [List.getElem?_map, hz]; rfl), two_sz, fun p2 n2 => upd_gen n2 fun H6 s6 e6 => ⟨three_sz, fun p3 n3 => upd_gen n3 fun H7 s7 e7 => q H7 (.ref p3) _ _ (R5.same (s6.trans s7)) (by omega) (((k13.trans (Kp.of s4)).trans k5).trans (Kp.of (s6.trans s7))) (.inl ⟨rfl, .tup (SqT.of e7) (.cons (.str _) (.cons (.int _) (.cons (.tup ((Tk.of s7).sqT (SqT.of e6)) (.cons (.str _) (.cons (.int _) .nil))) .nil)))⟩) (sh_sz (lay3 (by decide +kernel) layI (lay2 (strOk_of gx) layI)) zd) (zd.mono (by omega))⟩⟩
    refine ⟨Nat.zero_le _, fun a1 n1 => upd_gen n1 fun J1 s1 e1 => ⟨one_sz, fun a2 n2 => upd_gen n2 fun J2 s2 e2 => ⟨two_sz, fun a3 n3 => upd_gen n3 fun J3 s3 e3 => ⟨two_sz, fun a4 n4 => upd_gen n4 fun J4 s4 e4 => ⟨_, rfl, three_sz, fun a5 n5 => upd_gen n5 fun J5 s5 e5 => ⟨three_sz, fun a6 n6 => upd_gen n6 fun J6 s6 e6 => ⟨_, rfl, two_sz, fun a7 n7 => upd_gen n7 fun J7 s7 e7 => ⟨(show 9 ≤ sizeLine by decide), fun a8 n8 => upd_gen n8 fun J8 s8 e8 => ?_⟩⟩⟩⟩⟩⟩⟩⟩
    refine ⟨_, rfl, two_sz, fun b1 m1 => upd_gen m1 fun L1 t1 f1 => ⟨three_sz, fun b2 m2 => upd_gen m2 fun L2' t2 f2 => ⟨two_sz, fun b3 m3 => upd_gen m3 fun L3 t3 f3 => ⟨three_sz, fun b4 m4 => upd_gen m4 fun L4 t4 f4 => ⟨_, _, rfl, rfl, C30, _, _, rfl, rfl, three_sz, fun b5 m5 => upd_gen m5 fun L5 t5 f5 => ⟨(show 4 ≤ sizeLine by decide), fun b6 m6 => upd_gen m6 fun L6 t6 f6 => ?_⟩⟩⟩⟩⟩⟩
    have sB : Same H3 L2' := s1.trans (s2.trans (s3.trans (s4.trans (s5.trans (s6.trans (s7.trans (s8.trans (t1.trans t2))))))))
    have sA : Same H3 L6 := sB.trans (t3.trans (t4.trans (t5.trans t6)))
    have s8L : Same J8 L6 := by repeat (first | assumption | exact Same.refl _ | (apply same_t; assumption))
    refine catL (s8L _ _ e8) f6 (show 9 + 4 ≤ sizeLine by decide) fun L7 b7 t7 m7 f7 => ?_
    have sJ : Same H3 L7 := sA.trans t7
    refine ⟨_, rfl, m, c, g, s + 1 + 1 + 1, 13, rfl, R3.same sJ, by omega, by omega, by omega, fun r4 H5 r40 r41 R5 k5 => ?_⟩
    have tk5 := (R3.same sJ).tk k5
    have f8 : H5 b7 = some (.lst _) := k5 _ _ ((R3.nm (fresh_of sA m7)).1) ((R3.nm (fresh_of sA m7)).2.2) f7
    have g3 : H5 b3 = some (.lst _) := k5 _ _ ((R3.nm (fresh_of sB m3)).1) ((R3.nm (fresh_of sB m3)).2.2) ((show Same L3 L7 by repeat (first | assumption | exact Same.refl _ | (apply same_t; assumption))) _ _ f3)
    have kt : ∀ {J : Hp} {o : Addr} {ys : List V}, Same J L7 → J o = some (.tup ys) → SqT K H5 o ys := fun sx ex => tk5.sqT ((Tk.of sx).sqT (SqT.of ex))
    have hV : DpAll K H5 ([.non, .int 5, .ref a1, .ref a2, .ref a3, .ref a4, .ref a5, .ref a6, .ref a7] ++ [.ref b2, .ref b3, .ref b4, .ref b5]) (D9 x ++ D4) :=
      .cons .non (.cons (.int _) (.cons (.tup (kt (by repeat (first | assumption | exact Same.refl _ | (apply same_t; assumption))) e1) .nil)
      (.cons (.tup (kt (by repeat (first | assumption | exact Same.refl _ | (apply same_t; assumption))) e2) (.cons (.str _) .nil))
      (.cons (.tup (kt (by repeat (first | assumption | exact Same.refl _ | (apply same_t; assumption))) e3) (.cons (.str _) (.cons (.int _) .nil)))
      (.cons (.tup (kt (by repeat (first | assumption | exact Same.refl _ | (apply same_t; assumption))) e4) (.cons (.str _) (.cons (.bl _) .nil)))
      (.cons (.tup (kt (by repeat (first | assumption | exact Same.refl _ | (apply same_t; assumption))) e5) (.cons (.str _) (.cons (.int _) (.cons (.str _) .nil))))
      (.cons (.tup (kt (by repeat (first | assumption | exact Same.refl _ | (apply same_t; assumption))) e6) (.cons (.str _) (.cons (.int _) (.cons (.str _) .nil))))
      (.cons (.tup (kt (by repeat (first | assumption | exact Same.refl _ | (apply same_t; assumption))) e7) (.cons (.str _) (.cons (.int _) .nil)))
      (.cons (.tup (kt (by repeat (first | assumption | exact Same.refl _ | (apply same_t; assumption))) f2) (.cons (.str _) (.cons (.int _) (.cons (.tup (kt (by repeat (first | assumption | exact Same.refl _ | (apply same_t; assumption))) f1) (.cons (.str _) (.cons (.int _) .nil))) .nil))))
      (.cons (.lst (SqL.of g3) (.cons (.str _) (.cons (.int _) .nil)))
      (.cons (.tup (kt (by repeat (first | assumption | exact Same.refl _ | (apply same_t; assumption))) f4) (.cons (.str _) (.cons (.int _) (.cons (.int _) .nil))))
      (.cons (.tup (kt (by repeat (first | assumption | exact Same.refl _ | (apply same_t; assumption))) f5) (.cons (.str _) (.cons (.int _) (.cons (.int _) .nil))))
      .nil))))))))))))
    obtain ⟨b, hb⟩ : ∃ b : Nat, r4 = (b : Int) := ⟨r4.toNat, by omega⟩
    obtain ⟨v, hv⟩ : ∃ v, ([.non, .int 5, .ref a1, .ref a2, .ref a3, .ref a4, .ref a5, .ref a6, .ref a7] ++ [.ref b2, .ref b3, .ref b4, .ref b5] : List V)[b]? = some v := ⟨_, List.getElem?_eq_getElem (show b < 13 by omega)⟩
    obtain ⟨d, hd1, hd2⟩ := hV.get hv
    obtain ⟨o1, o2⟩ := odd_ok gx (List.mem_of_getElem? hd1)
    have hm : MvD K H H5 v d := by
      by_cases hb10 : b = 10
      · subst hb10
        cases hd1
        cases hv
        refine .inr ⟨b3, rfl, rfl, ?_, g3⟩
        cases q0 : H b3 with
        | none => rfl
        | some o =>
          have n3 := fresh_of sB m3
          by_cases em : b3 = m
          · obtain ⟨_, _, e, _⟩ := R3.ex
            rw [em, e] at n3
            cases n3
          · by_cases eg : b3 = g
            · obtain ⟨_, _, _, _, e, _⟩ := R3.ex
              rw [eg, e] at n3
              cases n3
            · rw [k13 _ _ em eg q0] at n3
              cases n3
      · exact .inl ⟨odd_flat hb10 hd1, hd2⟩
    exact ⟨_, _, _, v, rfl, rfl, SqL.of f8, at_of hb hv, q H5 v d _ R5 (by omega) ((k13.trans (Kp.of sJ)).trans k5) hm (sh_sz o1 o2) o2⟩
end
end XB
set_option Elab.async false
set_option linter.all false
set_option maxRecDepth 100000
set_option maxHeartbeats 4000000
namespace XB
open PySem PySem.Spec PyProof.Rows L2
theorem nf_e {F : Fld} : XM.NF (OF F) [] := trivial
/-- a move keeps the least pile -/
theorem amv_same {F : Fld} (ok : F.Ok) {l l' : Rw} {d : PyData} (z : XM.NZ l) (e : amvL F l d = some l') : XM.NZ l' ∧ XM.act (OF F) l' [] = XM.act (OF F) l [] ∧ l'.length ≤ l.length + 2 := by
  have zt : ∀ k, XM.NZ (l.take k) := fun k s hs => z s (List.mem_of_mem_take hs)
  have zd : ∀ k, XM.NZ (l.drop k) := fun k s hs => z s (List.mem_of_mem_drop hs)
  have zz : ∀ {s t : Str × Int}, s.2 ≠ 0 → t.2 ≠ 0 → XM.NZ [s, t] := fun hs ht x hx => by
    rcases List.mem_cons.mp hx with e | hx
    · rw [e]; exact hs
    · rw [List.mem_singleton.mp hx]; exact ht
  have sp1 : ∀ {k : Nat} {s : Str × Int}, l[k]? = some s → l = l.take k ++ s :: l.drop (k + 1) := fun {k s} g => by
    rw [← drop_at g, List.take_append_drop]
  have sp2 : ∀ {k : Nat} {s t : Str × Int}, l[k]? = some s → l[k + 1]? = some t → l = l.take k ++ s :: t :: l.drop (k + 2) := fun {k s t} g1 g2 => by
    rw [show k + 2 = k + 1 + 1 from rfl, ← drop_at g2]
    exact sp1 g1
  have cap : ∀ {r : Option Rw}, (∀ x, r = some x → XM.NZ x ∧ XM.act (OF F) x [] = XM.act (OF F) l [] ∧ x.length ≤ l.length + 2) → capL r = some l' → XM.NZ l' ∧ XM.act (OF F) l' [] = XM.act (OF F) l [] ∧ l'.length ≤ l.length + 2 := fun {r} hr hc => by
    cases r with
    | none => cases hc
    | some x =>
      have hc : (if x.length ≤ 400 then some x else none) = some l' := hc
      by_cases q : x.length ≤ 400
      · rw [if_pos q] at hc
        cases hc
        exact hr _ rfl
      · rw [if_neg q] at hc
        cases hc
  have h1 : ∀ k x, chgL F l k = some x → XM.NZ x ∧ XM.act (OF F) x [] = XM.act (OF F) l [] ∧ x.length ≤ l.length + 2 := fun k x hx => by
    unfold chgL at hx
    split at hx
    · split at hx
      · rename_i s t g1 g2
        split at hx
        · rename_i ha
          cases hx
          have zs := z s (List.mem_of_getElem? g1)
          have zt2 := z t (List.mem_of_getElem? g2)
          refine ⟨(zt _).app (zz zt2 zs) |>.app (zd _), ?_, by simp only [List.length_append, List.length_take, List.length_drop, List.length_cons, List.length_nil]; omega⟩
          rw [List.append_assoc]
          show XM.act (OF F) (l.take k.toNat ++ t :: s :: l.drop (k.toNat + 2)) [] = _
          rw [XM.act_swap (XM.apart_symm (O := OF F) (by rw [tc_eq ok, ha]; rfl)) (zt _) nf_e, ← sp2 g1 g2]
        · cases hx
      · cases hx
    · cases hx
  have h2 : ∀ k x, joiL l k = some x → XM.NZ x ∧ XM.act (OF F) x [] = XM.act (OF F) l [] ∧ x.length ≤ l.length + 2 := fun k x hx => by
    unfold joiL at hx
    split at hx
    · split at hx
      · rename_i s t g1 g2
        split at hx
        · rename_i hn
          cases hx
          have zs := z s (List.mem_of_getElem? g1)
          have zt2 := z t (List.mem_of_getElem? g2)
          refine ⟨((zt _).app fun x hx => ?_).app (zd _), ?_, by split <;> simp only [List.length_append, List.length_take, List.length_drop, List.length_cons, List.length_nil] <;> omega⟩
          · split at hx
            · cases hx
            · rename_i h0
              rw [List.mem_singleton.mp hx]
              exact h0
          · have m := XM.act_meet (O := OF F) (a := s.1) (s := s.2) (t := t.2) (u := l.take k.toNat) (m := []) (v := l.drop (k.toNat + 2)) (r := []) (fun _ h => (nomatch h)) zs zt2 (zt _) (fun _ h => (nomatch h)) nf_e
            have e1 : l = l.take k.toNat ++ (s.1, s.2) :: ([] ++ (s.1, t.2) :: l.drop (k.toNat + 2)) := by
              have := sp2 g1 g2
              rw [hn]
              rw [show ((t.1, s.2) : Str × Int) = s by rw [← hn]]
              exact this
            rw [← e1] at m
            rw [m, List.append_assoc]
            rfl
        · cases hx
      · cases hx
    · cases hx
  have h3 : ∀ k y x, prtL l k y = some x → XM.NZ x ∧ XM.act (OF F) x [] = XM.act (OF F) l [] ∧ x.length ≤ l.length + 2 := fun k y x hx => by
    unfold prtL at hx
    split at hx
    · split at hx
      · rename_i s t g1
        split at hx
        · rename_i ht
          cases hx
          have zs := z s (List.mem_of_getElem? g1)
          have ht0 : t ≠ 0 := by
            have := ht.1
            rw [timesD_int, Bool.and_eq_true] at this
            exact of_decide_eq_true this.1
          have h0 : s.2 - t ≠ 0 := fun q => ht.2 (by omega)
          refine ⟨(zt _).app (zz ht0 h0) |>.app (zd _), ?_, by simp only [List.length_append, List.length_take, List.length_drop, List.length_cons, List.length_nil]; omega⟩
          have m := XM.act_meet (O := OF F) (a := s.1) (s := t) (t := s.2 - t) (u := l.take k.toNat) (m := []) (v := l.drop (k.toNat + 1)) (r := []) (fun _ h => (nomatch h)) ht0 h0 (zt _) (fun _ h => (nomatch h)) nf_e
          rw [if_neg (by omega), show t + (s.2 - t) = s.2 by omega] at m
          rw [List.append_assoc]
          refine Eq.trans m ?_
          exact congrArg (fun q => XM.act (OF F) q []) (sp1 g1).symm
        · cases hx
      · cases hx
    · cases hx
  have h4 : ∀ k y x, putL F l k y = some x → XM.NZ x ∧ XM.act (OF F) x [] = XM.act (OF F) l [] ∧ x.length ≤ l.length + 2 := fun k y x hx => by
    unfold putL at hx
    split at hx
    · split at hx
      · rename_i n t
        split at hx
        · rename_i hs
          cases hx
          have ht0 : t ≠ 0 := by
            have hs : (F.names.contains n && timesD (.int t)) = true := hs
            rw [Bool.and_eq_true, timesD_int, Bool.and_eq_true] at hs
            exact of_decide_eq_true hs.2.1
          have h0 : -t ≠ 0 := by omega
          refine ⟨(zt _).app (zz ht0 h0) |>.app (zd _), ?_, by simp only [List.length_append, List.length_take, List.length_drop, List.length_cons, List.length_nil]; omega⟩
          have m := XM.act_meet (O := OF F) (a := n) (s := t) (t := -t) (u := l.take k.toNat) (m := []) (v := l.drop k.toNat) (r := []) (fun _ h => (nomatch h)) ht0 h0 (zt _) (fun _ h => (nomatch h)) nf_e
          rw [if_pos (by omega)] at m
          rw [List.append_assoc]
          refine Eq.trans m ?_
          exact congrArg (fun q => XM.act (OF F) q []) (List.take_append_drop _ _)
        · cases hx
      · cases hx
    · cases hx
  unfold amvL at e
  split at e
  · refine cap (fun x hx => ?_) e
    split at hx
    · exact h1 _ _ hx
    · split at hx
      · exact h2 _ _ hx
      · cases hx
  · refine cap (fun x hx => ?_) e
    split at hx
    · exact h3 _ _ _ hx
    · split at hx
      · exact h4 _ _ _ hx
      · cases hx
  · cases e
end XB
set_option Elab.async false
set_option linter.all false
set_option maxRecDepth 100000
set_option maxHeartbeats 4000000
/-! 'except x as n', the exception kept, where nothing is known of the def's own names but how many there are -/
namespace XB
open PySem PySem.Spec PyProof.Rows L2
/-- what the clause 'except x as n' wishes, the exception being kept -/
def wKeepN (n : Nat) (K : PySem.W.Frag) (c : Value) (i : Nat) (ts : Addr → Value → Option Addr → TS) (Wout : WX) (D : Ends) : WX := fun cls d σ H => σ.length = n →
  ∃ b, PySem.W.exmOne K cls c = some b ∧ (b = true → ∀ a, H a = none → ts a cls d { nx := fun σ' H' => D.nx (σ'.set i none) (upd H' a (exg a cls d)), rt := fun v H' => D.rt v (upd H' a (exg a cls d)), bk := fun σ' H' => D.bk (σ'.set i none) (upd H' a (exg a cls d)), ct := fun σ' H' => D.ct (σ'.set i none) (upd H' a (exg a cls d)) } (σ.set i (some (.ref a))) H) ∧
    (b = false → Wout cls d σ H)
section
variable {X : Cx} {x n : Str} {c : Value} {i : Nat} {body suite : List Stmt} {b₀ : Stmt} {np pos pos' : Pos} {tb : WX → TS} {ts : Addr → Value → Option Addr → TS} {Wout : WX}
theorem ps_keepN (hx : X.ex = []) (hs : X.stack = X.env :: X.outer) (hf : X.env.frame = some X.env.locals) (hN : X.N.Nodup) (hi : X.N[i]? = some n) (hln : X.env.kindOf n = some .local) (hc : L2.Names X x c) (tk : Takes X Wout)
    (hb : ∀ (W : WX) (pn : List (Addr × Obj)) (xe : Value → Shared → Prop), Takes (X.tr pn xe) W → PassesOwn (model X.prog X.w) X.A X.env xe → PSs (X.tr pn xe) body (tb W))
    (hsu : ∀ (a : Addr) (oe : Obj) (cls : Value) (d : Option Addr) (pn : List (Addr × Obj)), Zc cls d oe → (∃ vs, oe.data = .fields vs) → PSs (X.suite a ((a, oe) :: pn)) (b₀ :: suite) (ts a cls d)) :
    PS X (.Try body [.ExceptHandler (some (.Name x np)) (some n) (b₀ :: suite) pos'] [] [] pos) (fun D σ H => tb (wKeepN X.N.length X.K c i ts Wout D) D σ H) := by
  constructor
  intro pins s σ H D I h
  have kk := I.ok
  have frm : X.A.frames = some (X.env :: X.outer) := by rw [kk.frames, hs]
  have lo : Loc X.env.scope n := .inl hln
  refine wpAny_Try_except (wpAny_mono ((hb (wKeepN X.N.length X.K c i ts Wout D) (X.pn ++ pins) (fun e s₁ => wpAny (model X.prog X.w) X.A (noteFrame e X.env) (fun _ s₂ => wpAny (model X.prog X.w) X.A (setFlight e none) (fun _ s₃ => wpAny (model X.prog X.w) X.A (handleBy e X.env [.ExceptHandler (some (.Name x np)) (some n) (b₀ :: suite) pos']) (SP X pins D) X.xe s₃) X.xe s₂) X.xe s₁) ?_ PassesOwn.looking).run [] s σ H D (I.toTry _) h) ?_ (fun _ _ he => he))
  · rintro u s' ⟨a, B, sI, pins', σ', H', cls, d, rfl, J', nb, up, sky, na, os, ag, hlen⟩
    obtain ⟨b, hb1, hyes, hno⟩ := hlen J'.len
    have J : Inv X pins σ' H' sI := J'.ofTry kk
    rw [hs] at sky
    show wpAny (model X.prog X.w) X.A (noteFrame (.ref a) X.env) _ _ _
    refine Sky.land Zc.steady frm hf sky fun h3 fl3 up3 => ?_
    have J3 : Inv X pins σ' H' { s' with heap := h3 } := J.landed nb fl3.1 (up.trans up3) os ag
    obtain ⟨oe3, vs3, he3, hz3, hd3⟩ := fl3.there
    have nfr : a ∉ frs (X.env :: X.outer) := fun hm => by
      obtain ⟨_, o', e', hnf⟩ := fl3.2.2.1.mem hm
      rw [he3] at e'
      cases e'
      exact hnf _ hd3
    have nL : a ≠ X.env.locals := fun z => nfr (List.mem_filterMap.mpr ⟨X.env, List.mem_cons_self, by rw [hf, z]⟩)
    have nF : a ∉ X.fs := fun hm => by
      obtain ⟨e, he, q⟩ := List.mem_filterMap.mp hm
      exact nfr (List.mem_filterMap.mpr ⟨e, List.mem_cons_of_mem _ he, q⟩)
    have Ba : B.get? a = none := fl3.2.1
    have gone : sI.heap.get? a = none := by
      cases q : sI.heap.get? a with
      | none => rfl
      | some o =>
        have z := nb a o q (by rw [hs]; exact nfr)
        rw [Ba] at z
        cases z
    have g0 : X.s_0.heap.get? a = none := by
      cases q : X.s_0.heap.get? a with
      | none => rfl
      | some o =>
        obtain ⟨o', z⟩ := J.base.there a o q (by rw [hx]; simp)
        rw [gone] at z
        cases z
    have gc : ∀ x c, X.env.cells.lookup x = some c → c ≠ a := fun x c e z => by
      obtain ⟨v, o, ho, _⟩ := J.cell x c e
      rw [z, gone] at ho
      cases ho
    have gp : ∀ p ∈ X.pn ++ pins, p.1 ≠ a := fun p hp z => by
      have w := (J.pin p hp).1
      rw [z, gone] at w
      cases w
    have S3 := J3.suite he3 hd3 na nL nF
    refine wpAny_handleBy_cons (codeAny_handlers_test ?_) (by intro q; cases q)
    have LT : PySem.W.Looks (model X.prog X.w) h3 (typeOf (.ref a)) cls := fun A Q E s k q => wpAny_typeOf_ref (k _ _ he3) (by rw [hz3.1]; exact q)
    have LM := PySem.W.exm_one (M := model X.prog X.w) J3.kIn LT hb1
    have tst : ∀ {Q : Value → Shared → Prop} {E : Value → Shared → Prop}, Q c { s' with heap := h3 } → wpAny (model X.prog X.w) (X.A.mark (some (.ref a))) (eval (.Name x np) X.env) Q E { s' with heap := h3 } := fun {Q E} q => by
      obtain ⟨hg, hdbg, hm | ⟨hm, hv, hnn⟩⟩ := hc
      · exact ld_glob (X := X.suite a ((a, oe3) :: (X.pn ++ pins))) S3 hg hm q hdbg
      · exact ld_blt (X := X.suite a ((a, oe3) :: (X.pn ++ pins))) S3 hg hm hv q hnn hdbg
    refine tst (LM.here ?_)
    cases b with
    | true =>
      refine codeAny_handlers_suite_as (HandSPX.lands_againZ fl3 fun h4 fl4 up4 => ?_)
      have J4 : Inv X pins σ' H' { s' with heap := h4 } := J.landed nb fl4.1 ((up.trans up3).trans up4) os ag
      obtain ⟨oe4, vs4, he4, hz4, hd4⟩ := fl4.there
      have S4 := J4.suite he4 hd4 na nL nF
      refine store_ok (X := X.suite a ((a, oe4) :: (X.pn ++ pins))) (v := .ref a) S4 hN hi lo rfl (fun s5 S5 => ?_) (.inr hln)
      refine wpAny_mono ((hsu a oe4 cls d (X.pn ++ pins) hz4 ⟨_, hd4⟩).run [] s5 _ H' _ S5 (hyes rfl a na)) ?_ (fun _ _ z => False.elim z)
      have fin : ∀ {s6 : Shared} {σ6 : L2.St} {H6 : Hp} {Q : Shared → Prop}, Inv (X.suite a ((a, oe4) :: (X.pn ++ pins))) [] σ6 H6 s6 → (∀ s7, Inv X pins (σ6.set i none) (upd H6 a (exg a cls d)) s7 → Q s7) →
          wpAny (model X.prog X.w) X.A (do bindName X.env n .none; unbindBehindTheSuite X.env n pos') (fun _ s7 => Q s7) X.xe s6 := fun {s6 σ6 H6 Q} S6 hq => by
        obtain ⟨w1, w2, _⟩ := S6.pin (a, oe4) (List.mem_append_left _ List.mem_cons_self)
        exact gone_ok (adopt (S6.unsuite kk) w2 g0 nL gc gp (exg_ok w1 hz4.1 hz4.2 hd4)) hN hi hln hq
      intro f s6 hsp
      cases f with
      | next =>
        obtain ⟨σ6, H6, S6, q6⟩ := hsp
        exact fin S6 fun s7 J7 => ⟨_, _, J7, q6⟩
      | brk =>
        obtain ⟨σ6, H6, S6, q6⟩ := hsp
        exact fin S6 fun s7 J7 => ⟨_, _, J7, q6⟩
      | cont =>
        obtain ⟨σ6, H6, S6, q6⟩ := hsp
        exact fin S6 fun s7 J7 => ⟨_, _, J7, q6⟩
      | ret u =>
        obtain ⟨v6, σ6, H6, S6, r6, q6⟩ := hsp
        exact fin S6 fun s7 J7 => ⟨_, _, _, J7, r6, q6⟩
    | false =>
      show wpAny _ X.A (handleBy (.ref a) X.env []) _ _ _
      refine wpAny_handleBy_nil ?_
      obtain ⟨k1, k2, k3, oe, vs, Tb, oT, tss, he, hz, hd, h1, hr⟩ := id fl3
      unfold PySem.passOn
      refine wpAny_bind (wpAny_field he hd h1 ?_)
      rw [if_neg (show ¬ ((Value.ref Tb == Value.none) = true) from by simp)]
      have last : wpAny (model X.prog X.w) X.A (setFlight (.ref a) X.env.frame) (fun _ s4 => wpAny (model X.prog X.w) X.A (throw (.ref a) : Sem Flow) (SP X pins D) X.xe s4) X.xe { s' with heap := h3 } := by
        rw [hf]
        refine HandSPX.setFlight_upZ fl3 fun h4 hh4 up4 => wpAny_throw (tk _ _ ⟨a, B, sI, pins, σ', H', cls, d, rfl, J, nb, (up.trans up3).trans up4, .inr (.inr ?_), na, os, ag, hno rfl⟩)
        rw [hs]
        exact hh4
      first
        | exact wpAny_bind (wpAny_pure (wpAny_bind last))
        | exact wpAny_bind last
  · intro f s1 hsp
    cases f with
    | next =>
      obtain ⟨σ', H', J', q⟩ := hsp
      exact wpAny_execs_nil ⟨σ', H', J'.ofTry kk, q⟩
    | brk =>
      obtain ⟨σ', H', J', q⟩ := hsp
      exact ⟨σ', H', J'.ofTry kk, q⟩
    | cont =>
      obtain ⟨σ', H', J', q⟩ := hsp
      exact ⟨σ', H', J'.ofTry kk, q⟩
    | ret u =>
      obtain ⟨v, σ', H', J', r, q⟩ := hsp
      exact ⟨v, σ', H', J'.ofTry kk, r, q⟩
end
end XB
set_option Elab.async false
set_option linter.all false
set_option maxRecDepth 100000
set_option maxHeartbeats 4000000
/-! repr of data with empty dicts in it -/
namespace XB
open PySem PySem.Spec PyProof.Rows L2
inductive De (H : Hp) : V → PyData → Prop
  | non : De H .non .none
  | bl (b : Bool) : De H (.bl b) (.bool b)
  | int (i : Int) : De H (.int i) (.int i)
  | str (x : Str) : De H (.str x) (.str x)
  | emp {a : Addr} : H a = some (.dK []) → De H (.ref a) (.dict [])
section
variable {X : Cx} {pins : List (Addr × Obj)} {σ : L2.St} {H : Hp} {s : Shared}
theorem De.reads (I : Inv X pins σ H s) {v : V} {d : PyData} {u : Value} (h : De H v d) (r : RelV v u) : ∃ as, Reads s.heap u d as ∧ sysModules ∉ as := by
  cases h with
  | non =>
    cases r
    exact ⟨_, .none, by simp⟩
  | bl b =>
    cases r
    exact ⟨_, .bool b, by simp⟩
  | int i =>
    obtain ⟨t, rfl⟩ := r
    exact ⟨_, .int i t, by simp⟩
  | str x =>
    obtain ⟨t, rfl⟩ := r
    exact ⟨_, .str x t, by simp⟩
  | @emp a e =>
    obtain rfl : u = Value.ref a := r
    obtain ⟨_, hd, vs, rel, dd⟩ := dk_of I.hok e
    have hv : vs = [] := by
      have := Paired.length rel
      exact List.length_eq_zero_iff.mp this.symm
    subst hv
    obtain ⟨o, es, ep, h1, h2, h3, h4⟩ := dd
    have hes : es.toList = [] := List.length_eq_zero_iff.mp (h4.2.1.length)
    refine ⟨a :: [] ++ [], Reads.dict (kvs := []) h1 h2.1 h3 ?_ ?_, ?_⟩
    · rw [hes]
      exact .nil
    · rw [hes]
      exact .nil
    · intro z
      have z : sysModules = a := by simpa using z
      rw [z] at hd
      simp at hd
theorem De.readsAll (I : Inv X pins σ H s) : ∀ {vs : List V} {ds : List PyData} {us : List Value}, Paired (De H) vs ds → Vals vs us → ∃ as, ReadsAll s.heap us ds as ∧ sysModules ∉ as
  | _, _, _, .nil, .nil => ⟨_, .nil, by simp⟩
  | _, _, _, .cons h t, .cons r rr => by
    obtain ⟨as, q1, n1⟩ := De.reads I h r
    obtain ⟨bs, q2, n2⟩ := De.readsAll I t rr
    refine ⟨_, .cons q1 q2, fun z => ?_⟩
    rcases List.mem_append.mp z with z | z
    · exact n1 z
    · exact n2 z
/-- such data, or a tuple of such -/
inductive De2 (K : PySem.W.Frag) (H : Hp) : V → PyData → Prop
  | one {v : V} {d : PyData} : De H v d → De2 K H v d
  | tup {a : Addr} {xs : List V} {ds : List PyData} : SqT K H a xs → Paired (De H) xs ds → De2 K H (.ref a) (.tuple ds)
theorem De2.reads (I : Inv X pins σ H s) {v : V} {d : PyData} {u : Value} (h : De2 X.K H v d) (r : RelV v u) : ∃ as, Reads s.heap u d as ∧ sysModules ∉ as := by
  cases h with
  | one h => exact h.reads I r
  | tup hs ha =>
    cases r
    obtain ⟨its, rv, ⟨o, ho, hc, n, hd⟩, _⟩ := I.tuple hs
    obtain ⟨as, hr, na⟩ := De.readsAll I ha rv
    exact ⟨_, Reads.tuple ho hc hd hr, na⟩
end
section
variable {X : Cx}
theorem call_reprE {K : PySem.W.Frag} (hk : X.K = K) (hgu : X.A.guards = some []) (hu : X.A.units + 70 < cLine) : CallR X (.builtin "repr") (fun xs H Q => ∃ x d, xs = [x] ∧ De2 K H x d ∧ d.showable = true ∧ d.depth ≤ 64 ∧ d.shown.length ≤ sizeLine ∧ Q (.str d.shown) H) := by
  subst hk
  intro pins s σ H xs us Q I r h
  obtain ⟨x, d, rfl, hd, hs, hdp, hz, q⟩ := h
  obtain ⟨u, rfl, rx⟩ := r.one
  obtain ⟨as, hr, na⟩ := hd.reads I rx
  cases hr with
  | none => exact PySem.P.repr_of_none ⟨.str _, H, I.tok _, ⟨_, rfl⟩, q⟩
  | bool b => exact PySem.P.repr_of_bool ⟨.str _, H, I.tok _, ⟨_, rfl⟩, q⟩
  | int i t => exact PySem.P.repr_of_int (of_decide_eq_true hs) ⟨.str _, H, I.tok _, ⟨_, rfl⟩, q⟩
  | str z t => exact PySem.P.repr_of_str ⟨.str _, H, I.tok _, ⟨_, rfl⟩, q⟩ hz
  | list h1 h2 h3 h4 => exact repr_of_reads' (Reads.list h1 h2 h3 h4) hs (fun _ => na) hgu (by omega) (fun _ _ e => e) (fun h' u tk k => ⟨.str _, H, I.kept k, ⟨_, rfl⟩, q⟩) hz
  | tuple h1 h2 h3 h4 => exact repr_of_reads' (Reads.tuple h1 h2 h3 h4) hs (fun _ => na) hgu (by omega) (fun _ _ e => e) (fun h' u tk k => ⟨.str _, H, I.kept k, ⟨_, rfl⟩, q⟩) hz
  | dict h1 h2 h3 h4 h5 => exact repr_of_reads' (Reads.dict h1 h2 h3 h4 h5) hs (fun _ => na) hgu (by omega) (fun _ _ e => e) (fun h' u tk k => ⟨.str _, H, I.kept k, ⟨_, rfl⟩, q⟩) hz
end
end XB
namespace XB
open PySem PySem.Spec PyProof.Rows L2
section
variable {X : Cx}
/-- data without dicts, or with empty ones beside flat things -/
def Dx (K : PySem.W.Frag) (H : Hp) (x : V) (d : PyData) : Prop := (Dp K H x d ∧ d.hasDict = false) ∨ De2 K H x d
theorem call_reprX {K : PySem.W.Frag} (hk : X.K = K) (hgu : X.A.guards = some []) (hu : X.A.units + 70 < cLine) : CallR X (.builtin "repr") (fun xs H Q => ∃ x d, xs = [x] ∧ Dx K H x d ∧ d.showable = true ∧ d.depth ≤ 64 ∧ d.shown.length ≤ sizeLine ∧ Q (.str d.shown) H) := by
  subst hk
  intro pins s σ H xs us Q I r h
  obtain ⟨x, d, rfl, hd, hs, hdp, hz, q⟩ := h
  rcases hd with ⟨hd, nd⟩ | hd
  · exact call_reprD hgu hu pins s σ H [x] us Q I r ⟨x, d, rfl, hd, hs, nd, hdp, hz, q⟩
  · exact call_reprE rfl hgu hu pins s σ H [x] us Q I r ⟨x, d, rfl, hd, hs, hdp, hz, q⟩
end
end XB
namespace XB
open PySem PySem.Spec PyProof.Rows L2
theorem sqT_same {K : PySem.W.Frag} {H H' : Hp} {a : Addr} {xs : List V} (s : Same H H') (h : SqT K H a xs) : SqT K H' a xs := by
  rcases h with h | h
  · rcases h with h | ⟨o, h⟩
    · exact .inl (.inl (s _ _ h))
    · exact .inl (.inr ⟨o, s _ _ h⟩)
  · exact .inr h
mutual
theorem dp_same {K : PySem.W.Frag} {H H' : Hp} (s : Same H H') : ∀ (d : PyData) {v : V}, Dp K H v d → Dp K H' v d
  | .none, _, h => by cases h; exact .non
  | .bool b, _, h => by cases h; exact .bl b
  | .int i, _, h => by cases h; exact .int i
  | .str x, _, h => by cases h; exact .str x
  | .tuple ds, _, h => by
    cases h with
    | tup hs ha => exact .tup (sqT_same s hs) (dpAll_same s ds ha)
  | .list ds, _, h => by
    cases h with
    | lst hs ha => exact .lst (s.seq hs) (dpAll_same s ds ha)
  | .dict _, _, h => by cases h
theorem dpAll_same {K : PySem.W.Frag} {H H' : Hp} (s : Same H H') : ∀ (ds : List PyData) {vs : List V}, DpAll K H vs ds → DpAll K H' vs ds
  | [], _, h => by cases h; exact .nil
  | d :: ds, _, h => by
    cases h with
    | cons h1 h2 => exact .cons (dp_same s d h1) (dpAll_same s ds h2)
end
theorem De.same {H H' : Hp} {v : V} {d : PyData} (h : De H v d) (s : Same H H') : De H' v d := by
  cases h with
  | non => exact .non
  | bl b => exact .bl b
  | int i => exact .int i
  | str x => exact .str x
  | emp e => exact .emp (s _ _ e)
end XB
set_option Elab.async false
set_option linter.all false
set_option maxRecDepth 100000
set_option maxHeartbeats 4000000
/-! lists that are told not to be the table of modules; repr of data with empty dicts in them -/
namespace XB
open PySem PySem.Spec PyProof.Rows L2
mutual
inductive Df (K : PySem.W.Frag) (H : Hp) : V → PyData → Prop
  | non : Df K H .non .none
  | bl (b : Bool) : Df K H (.bl b) (.bool b)
  | int (i : Int) : Df K H (.int i) (.int i)
  | str (x : Str) : Df K H (.str x) (.str x)
  | emp {a : Addr} : H a = some (.dK []) → Df K H (.ref a) (.dict [])
  | lst {a : Addr} {xs : List V} {ds : List PyData} : SqL K H a xs → a ≠ sysModules → DfAll K H xs ds → Df K H (.ref a) (.list ds)
  | tup {a : Addr} {xs : List V} {ds : List PyData} : SqT K H a xs → DfAll K H xs ds → Df K H (.ref a) (.tuple ds)
inductive DfAll (K : PySem.W.Frag) (H : Hp) : List V → List PyData → Prop
  | nil : DfAll K H [] []
  | cons {v : V} {vs : List V} {d : PyData} {ds : List PyData} : Df K H v d → DfAll K H vs ds → DfAll K H (v :: vs) (d :: ds)
end
mutual
theorem Df.same {K : PySem.W.Frag} {H H' : Hp} (s : Same H H') : ∀ (d : PyData) {v : V}, Df K H v d → Df K H' v d
  | .none, _, h => by cases h; exact .non
  | .bool b, _, h => by cases h; exact .bl b
  | .int i, _, h => by cases h; exact .int i
  | .str x, _, h => by cases h; exact .str x
  | .tuple ds, _, h => by
    cases h with
    | tup hs ha => exact .tup (sqT_same s hs) (DfAll.same s ds ha)
  | .list ds, _, h => by
    cases h with
    | lst hs hn ha => exact .lst (s.seq hs) hn (DfAll.same s ds ha)
  | .dict _, _, h => by
    cases h with
    | emp e => exact .emp (s _ _ e)
theorem DfAll.same {K : PySem.W.Frag} {H H' : Hp} (s : Same H H') : ∀ (ds : List PyData) {vs : List V}, DfAll K H vs ds → DfAll K H' vs ds
  | [], _, h => by cases h; exact .nil
  | d :: ds, _, h => by
    cases h with
    | cons h1 h2 => exact .cons (Df.same s d h1) (DfAll.same s ds h2)
end
section
variable {X : Cx} {pins : List (Addr × Obj)} {σ : L2.St} {H : Hp} {s : Shared}
mutual
theorem Df.reads (I : Inv X pins σ H s) : ∀ (d : PyData) {v : V} {u : Value}, Df X.K H v d → RelV v u → ∃ as, Reads s.heap u d as ∧ sysModules ∉ as
  | .none, _, _, h, r => by
    cases h
    cases r
    exact ⟨_, .none, by simp⟩
  | .bool b, _, _, h, r => by
    cases h
    cases r
    exact ⟨_, .bool b, by simp⟩
  | .int i, _, _, h, r => by
    cases h
    obtain ⟨t, rfl⟩ := r
    exact ⟨_, .int i t, by simp⟩
  | .str x, _, _, h, r => by
    cases h
    obtain ⟨t, rfl⟩ := r
    exact ⟨_, .str x t, by simp⟩
  | .list ds, _, _, h, r => by
    cases h with
    | lst hs hn ha =>
      cases r
      obtain ⟨its, rv, ⟨o, n, ho, hc, _, hd⟩, _⟩ := I.list hs
      obtain ⟨as, hr, na⟩ := DfAll.reads I ds ha rv
      refine ⟨_, Reads.list ho hc hd hr, fun z => ?_⟩
      rcases List.mem_cons.mp z with z | z
      · exact hn z.symm
      · exact na z
  | .tuple ds, _, _, h, r => by
    cases h with
    | tup hs ha =>
      cases r
      obtain ⟨its, rv, ⟨o, ho, hc, n, hd⟩, _⟩ := I.tuple hs
      obtain ⟨as, hr, na⟩ := DfAll.reads I ds ha rv
      exact ⟨_, Reads.tuple ho hc hd hr, na⟩
  | .dict kvs, _, _, h, r => by
    cases h with
    | emp e => exact De.reads I (.emp e) r
theorem DfAll.reads (I : Inv X pins σ H s) : ∀ (ds : List PyData) {vs : List V} {us : List Value}, DfAll X.K H vs ds → Vals vs us → ∃ as, ReadsAll s.heap us ds as ∧ sysModules ∉ as
  | [], _, _, h, r => by
    cases h
    cases r
    exact ⟨_, .nil, by simp⟩
  | d :: ds, _, _, h, r => by
    cases h with
    | cons h1 h2 =>
      cases r with
      | cons r1 r2 =>
        obtain ⟨as, q1, n1⟩ := Df.reads I d h1 r1
        obtain ⟨bs, q2, n2⟩ := DfAll.reads I ds h2 r2
        refine ⟨_, .cons q1 q2, fun z => ?_⟩
        rcases List.mem_append.mp z with z | z
        · exact n1 z
        · exact n2 z
end
end
section
variable {X : Cx}
theorem call_reprF {K : PySem.W.Frag} (hk : X.K = K) (hgu : X.A.guards = some []) (hu : X.A.units + 70 < cLine) : CallR X (.builtin "repr") (fun xs H Q => ∃ x d, xs = [x] ∧ Df K H x d ∧ d.showable = true ∧ d.depth ≤ 64 ∧ d.shown.length ≤ sizeLine ∧ Q (.str d.shown) H) := by
  subst hk
  intro pins s σ H xs us Q I r h
  obtain ⟨x, d, rfl, hd, hs, hdp, hz, q⟩ := h
  obtain ⟨u, rfl, rx⟩ := r.one
  obtain ⟨as, hr, na⟩ := hd.reads I d rx
  cases hr with
  | none => exact PySem.P.repr_of_none ⟨.str _, H, I.tok _, ⟨_, rfl⟩, q⟩
  | bool b => exact PySem.P.repr_of_bool ⟨.str _, H, I.tok _, ⟨_, rfl⟩, q⟩
  | int i t => exact PySem.P.repr_of_int (of_decide_eq_true hs) ⟨.str _, H, I.tok _, ⟨_, rfl⟩, q⟩
  | str z t => exact PySem.P.repr_of_str ⟨.str _, H, I.tok _, ⟨_, rfl⟩, q⟩ hz
  | list h1 h2 h3 h4 => exact repr_of_reads' (Reads.list h1 h2 h3 h4) hs (fun _ => na) hgu (by omega) (fun _ _ e => e) (fun h' u tk k => ⟨.str _, H, I.kept k, ⟨_, rfl⟩, q⟩) hz
  | tuple h1 h2 h3 h4 => exact repr_of_reads' (Reads.tuple h1 h2 h3 h4) hs (fun _ => na) hgu (by omega) (fun _ _ e => e) (fun h' u tk k => ⟨.str _, H, I.kept k, ⟨_, rfl⟩, q⟩) hz
  | dict h1 h2 h3 h4 h5 => exact repr_of_reads' (Reads.dict h1 h2 h3 h4 h5) hs (fun _ => na) hgu (by omega) (fun _ _ e => e) (fun h' u tk k => ⟨.str _, H, I.kept k, ⟨_, rfl⟩, q⟩) hz
/-- a list, laid; not the table of modules -/
def tLstB (t : TA) : TE := fun σ H Q => t σ H fun xs H1 => xs.length ≤ sizeLine ∧ ∀ p, H1 p = none → p ≠ sysModules → Q (.ref p) (upd H1 p (.lst xs))
theorem pe_lstB {es : List Expr} {t : TA} {pos : Pos} (h : PA X es t) : PE X (.List es pos) (tLstB t) := by
  constructor
  intro pins s σ H Q I hq
  refine wpAny_List_spliced (thn (h.run pos pins s σ H _ I hq) ?_)
  rintro us s1 ⟨xs, H1, I1, r, z, q⟩
  have hs := Nat.ne_of_gt I1.big
  exact ⟨by rw [← r.length]; exact z, .ref s1.heap.objs.size, _, I1.laid (t' := s1.toks) (fun b u e => Heap.get?_push_of_some _ e) (Nat.le_refl _) (o := .lst xs) ⟨z, us, 0, r, Heap.get?_push_size _ rfl⟩, rfl, q _ (I1.hok.fresh (Nat.le_refl _)) hs⟩
def rCatB : R2 := fun x y H Q => ∃ l b xs zs, x = .ref l ∧ y = .ref b ∧ H l = some (.lst xs) ∧ H b = some (.lst zs) ∧ xs.length + zs.length ≤ sizeLine ∧ ∀ p, H p = none → p ≠ sysModules → Q (.ref p) (upd H p (.lst (xs ++ zs)))
theorem op_catB : OpR X (binaryOp .Add) rCatB := by
  intro pins s σ H x y v u Q I rx ry h
  obtain ⟨l, b, xs, zs, rfl, rfl, hL, hB, hz, q⟩ := h
  cases rx
  cases ry
  obtain ⟨z1, i1, n1, r1, g1, e1⟩ := I.lstM hL
  obtain ⟨z2, i2, n2, r2, g2, e2⟩ := I.lstM hB
  refine PySem.P.add_list e1 e2 ?_ (by simp only [List.size_toArray]; omega)
  rw [show i1.toArray ++ i2.toArray = (i1 ++ i2).toArray by simp]
  exact ⟨.ref _, _, I.lnew (t' := s.toks) (r1.append r2) (by rw [List.length_append]; omega), rfl, q _ I.fresh (Nat.ne_of_gt I.big)⟩
end
end XB
set_option Elab.async false
set_option linter.all false
set_option maxRecDepth 100000
set_option maxHeartbeats 8000000
namespace XB
open PySem PySem.Spec PyProof.Rows L2
/-- a refusal as it is raised: its word, and its one field -/
def RefC (K : PySem.W.Frag) (mg : Str → Option Value) (cls : Value) (d : Option Addr) (H : Hp) (word : Str) (y : V) : Prop :=
  ∃ (x f : Str) (C dx : Addr), ((x, f, word) : Str × Str × Str) ∈ ([("BadField", "part", "field"), ("BadScript", "place", "script"), ("BadMoves", "place", "moves")] : List (Str × Str × Str)) ∧ mg x = some (.ref C) ∧ ExcC K C ∧ cls = .ref C ∧ d = some dx ∧ H dx = some (.xd [(f, y)])
/-- what is made of what a call tells -/
def TTheard (K : PySem.W.Frag) (mg : Str → Option Value) : (XK → Hp → VK → Prop) → Hp → VK → Prop := fun tl H Q => ∃ E : XK,
  (∀ H0 (Qx : VK), Same H H0 → (∀ v H1, (∀ H' r, Same H1 H' → H1 r = none → H' r = some (.lst [v]) → Q (.ref r) H') → Qx v H1) → tl E H0 Qx) ∧
  ∀ cls d H1, E cls d H1 → ∃ word y, RefC K mg cls d H1 word y ∧ ∀ H' r, Same H1 H' → SqT K H' r [.str word, y] → Q (.ref r) H'
/-- what is known of the classes, by the number of the word -/
theorem ref_kits {K : PySem.W.Frag} {mg : Str → Option Value} (T : Tx K mg) {x f word : Str} (h : ((x, f, word) : Str × Str × Str) ∈ ([("BadField", "part", "field"), ("BadScript", "place", "script"), ("BadMoves", "place", "moves")] : List (Str × Str × Str))) :
    ∃ k : Nat, ((k = 0 ∧ f = "part" ∧ word = "field") ∨ (k = 1 ∧ f = "place" ∧ word = "script") ∨ (k = 2 ∧ f = "place" ∧ word = "moves")) ∧ NoF K mg x f ∧ Exm K mg x "PileError" true ∧
      Kit K mg x "BadField" (k == 0) ∧ Kit K mg x "BadScript" (k == 1) ∧ Kit K mg x "BadMoves" (k == 2) ∧ Kit K mg x "BadYard" (k == 3) ∧ Kit K mg x "BadSpot" (k == 4) ∧ Kit K mg x "BadPaper" (k == 5) ∧ KitB K mg x "ValueError" true := by
  simp only [List.mem_cons, List.not_mem_nil, or_false, Prod.mk.injEq] at h
  rcases h with ⟨rfl, rfl, rfl⟩ | ⟨rfl, rfl, rfl⟩ | ⟨rfl, rfl, rfl⟩
  · exact ⟨0, .inl ⟨rfl, rfl, rfl⟩, T.n_BadField_part, T.x_BadField_PileError, T.i_BadField_BadField, T.i_BadField_BadScript, T.i_BadField_BadMoves, T.i_BadField_BadYard, T.i_BadField_BadSpot, T.i_BadField_BadPaper, T.i_BadField_ValueError⟩
  · exact ⟨1, .inr (.inl ⟨rfl, rfl, rfl⟩), T.n_BadScript_place, T.x_BadScript_PileError, T.i_BadScript_BadField, T.i_BadScript_BadScript, T.i_BadScript_BadMoves, T.i_BadScript_BadYard, T.i_BadScript_BadSpot, T.i_BadScript_BadPaper, T.i_BadScript_ValueError⟩
  · exact ⟨2, .inr (.inr ⟨rfl, rfl, rfl⟩), T.n_BadMoves_place, T.x_BadMoves_PileError, T.i_BadMoves_BadField, T.i_BadMoves_BadScript, T.i_BadMoves_BadMoves, T.i_BadMoves_BadYard, T.i_BadMoves_BadSpot, T.i_BadMoves_BadPaper, T.i_BadMoves_ValueError⟩
def wordsH : List Str := ["field", "script", "moves", "yard", "spot", "paper"]
theorem nine {σ : L2.St} (h : σ.length = 9) : ∃ a b c d e f g i j, σ = [a, b, c, d, e, f, g, i, j] := by
  match σ, h with
  | [a, b, c, d, e, f, g, i, j], _ => exact ⟨a, b, c, d, e, f, g, i, j, rfl⟩
theorem heard_gives {X : Cx} (T : Tx X.K X.mg) {g : Addr} {cdg : Value} {q : Str} : LamX.GivesTo X ["call", "heard", "error", "e", "kinds_so", "words", "found", "one", "is_so"] "_law_heard" (defScope s__law_heard) g cdg (defBody s__law_heard) "call" q (TTheard X.K X.mg) := by
  obtain ⟨xP, xw, K, mg, xb, xA, xN, xs, xH, xenv, xo, xst, xex, xfn, xcalm, xpn, xxe⟩ := X
  have T : Tx K mg := T
  intro f c' s H Q tl act hc h
  refine id ?_
  · obtain ⟨E, h1, h2⟩ := h
    have nd := sc__law_heard.nd
    obtain ⟨cPE, h_PileError⟩ := T.c_PileError
    obtain ⟨c5, h_BadField⟩ := T.c_BadField
    obtain ⟨c6, h_BadScript⟩ := T.c_BadScript
    obtain ⟨c7, h_BadMoves⟩ := T.c_BadMoves
    obtain ⟨c8, h_BadYard⟩ := T.c_BadYard
    obtain ⟨c9, h_BadSpot⟩ := T.c_BadSpot
    obtain ⟨c10, h_BadPaper⟩ := T.c_BadPaper
    refine ⟨_, (pss_cons (ps_par (i := 1) (j := 2) rfl nd rfl rfl (by decide) rfl rfl (pa_cons (pe_lst pa_nil) (pa_cons pe_non pa_nil)) rfl)
    (pss_cons (ps_keepN (i := 3) (tb := fun W D σ H => ∃ Ech : XK, (∀ cls d σ' H', Ech cls d H' → W cls d σ' H') ∧ σ[0]? = some (some (V.ref f)) ∧ H c' = some (LamX.CodeO c' q) ∧ tl Ech H (fun v H1 => 1 ≤ sizeLine ∧ ∀ p, H1 p = none → D.nx (σ.set 1 (some (.ref p))) (upd H1 p (.lst [v])))) rfl rfl rfl nd rfl rfl ⟨by rfl, by decide, .inl h_PileError⟩ takes0 (fun W pn xe tk _ => by
        refine ⟨fun pins s2 σ2 H2 D2 I2 hh => ?_⟩
        obtain ⟨Ech, hW, k1, k2, k3⟩ := hh
        exact PSs.run (pss_one (ps_set (i := 1) nd rfl (.inl rfl) (pe_lst (pa_cons (act W pn xe Ech _ _ tk hW) pa_nil)))) pins s2 σ2 H2 D2 I2 ⟨k1, k2, k3⟩)
    (fun a oe cls d pn hz hf => by exact (pss_one (ps_set (i := 2) nd rfl (.inl rfl) (pv 3)))))
    (pss_cons (ps_if (pt_cmpR op_isN (pv 2) pe_non (nomark _)) (pss_one (ps_ret (pv 1))) pss_nil)
    (pss_cons (ps_set (i := 4) nd rfl (.inl rfl) (pe_lst (pa_cons (pe_callB (call_isX (K := K) rfl) (by rfl) T.b_isinstance (by decide +kernel) (pa_cons (pv 2) (pa_cons (pe_glob (v := .ref _) (by rfl) h_BadField rfl) pa_nil))) (pa_cons (pe_callB (call_isX (K := K) rfl) (by rfl) T.b_isinstance (by decide +kernel) (pa_cons (pv 2) (pa_cons (pe_glob (v := .ref _) (by rfl) h_BadScript rfl) pa_nil))) (pa_cons (pe_callB (call_isX (K := K) rfl) (by rfl) T.b_isinstance (by decide +kernel) (pa_cons (pv 2) (pa_cons (pe_glob (v := .ref _) (by rfl) h_BadMoves rfl) pa_nil))) pa_nil)))))
    (pss_cons (ps_set (i := 4) nd rfl (.inl rfl) (pe_op op_cat (pv 4) (pe_lst (pa_cons (pe_callB (call_isX (K := K) rfl) (by rfl) T.b_isinstance (by decide +kernel) (pa_cons (pv 2) (pa_cons (pe_glob (v := .ref _) (by rfl) h_BadYard rfl) pa_nil))) (pa_cons (pe_callB (call_isX (K := K) rfl) (by rfl) T.b_isinstance (by decide +kernel) (pa_cons (pv 2) (pa_cons (pe_glob (v := .ref _) (by rfl) h_BadSpot rfl) pa_nil))) (pa_cons (pe_callB (call_isX (K := K) rfl) (by rfl) T.b_isinstance (by decide +kernel) (pa_cons (pv 2) (pa_cons (pe_glob (v := .ref _) (by rfl) h_BadPaper rfl) pa_nil))) pa_nil))))))
    (pss_cons (ps_set (i := 5) nd rfl (.inl rfl) (pe_lst (pa_cons pe_str (pa_cons pe_str (pa_cons pe_str (pa_cons pe_str (pa_cons pe_str (pa_cons pe_str pa_nil))))))))
    (pss_cons (ps_setLc (i := 6) (own := [("one", 7), ("is_so", 8)]) (g := (gTup K 2 (gCons (gName 7) (gCons (gName 8) gNil)))) (tt := _) rfl nd rfl rfl (sw_true rfl rfl rfl (by decide +kernel)) (RZ.pi_zipA (by rfl) T.b_zip (pa_cons (pv 5) (pa_cons (pv 4) pa_nil))) (blkOk_by (own := [("one", 7), ("is_so", 8)]) (N := ["call", "heard", "error", "e", "kinds_so", "words", "found", "one", "is_so"]) (sc := defScope s__law_heard) (by decide +kernel)) (fun _ _ _ _ _ => (pg_tup rfl (pgs_cons (pg_name (i := 7) nd rfl (by first | exact Or.inl rfl | exact Or.inr rfl)) (pgs_cons (pg_name (i := 8) nd rfl (by first | exact Or.inl rfl | exact Or.inr rfl)) pgs_nil)))) (fun _ _ _ _ _ => pts_one (pt_val (pv 8))) (fun _ _ _ _ _ => (pv 7)))
    (pss_cons (ps_if (PW.pt (pw_or (pt_cmpR op_ne (pe_lenS (by rfl) T.b_len (pv 6)) pe_int (nomark _)) (pw_or1 (pt_not (pt_val (pe_callB (call_isX (K := K) rfl) (by rfl) T.b_isinstance (by decide +kernel) (pa_cons (pv 2) (pa_cons (pe_bltn (v := .ty "ValueError") (by rfl) T.b_ValueError (by rfl) rfl) pa_nil)))))))) (pss_one (ps_ret pe_str)) pss_nil)
    (pss_cons (ps_if (pt_cmpR (opk_in_seq (K := K) rfl) (pe_ix (ixk_list (K := K) rfl) (pv 6) pe_int (fun _ _ => rfl)) (pe_tup (pa_cons pe_str (pa_cons pe_str pa_nil))) (by rfl)) (pss_one (ps_ret (pe_tup (pa_cons (pe_ix (ixk_list (K := K) rfl) (pv 6) pe_int (fun _ _ => rfl)) (pa_cons (pe_xo (K := K) rfl (pv 2)) pa_nil))))) pss_nil)
    (pss_cons (ps_if (pt_cmpR (opk_in_seq (K := K) rfl) (pe_ix (ixk_list (K := K) rfl) (pv 6) pe_int (fun _ _ => rfl)) (pe_tup (pa_cons pe_str (pa_cons pe_str pa_nil))) (by rfl)) (pss_one (ps_ret (pe_tup (pa_cons (pe_ix (ixk_list (K := K) rfl) (pv 6) pe_int (fun _ _ => rfl)) (pa_cons (pe_xo (K := K) rfl (pv 2)) pa_nil))))) pss_nil)
    (pss_one (ps_ret (pe_tup (pa_cons (pe_ix (ixk_list (K := K) rfl) (pv 6) pe_int (fun _ _ => rfl)) (pa_cons (pe_ifExp (pt_cmpR op_eq (pe_ix (ixk_list (K := K) rfl) (pv 6) pe_int (fun _ _ => rfl)) pe_str (nomark _)) (pe_xo (K := K) rfl (pv 2)) (pe_xo (K := K) rfl (pv 2))) pa_nil))))))))))))))), ?_⟩
    refine ⟨Nat.zero_le _, fun L nL => upd_gen nL fun H1 s1 e1 => ⟨_, _, rfl, ?_⟩⟩
    refine ⟨E, fun cls d σ' H2 hE hlen => ?_, rfl, s1 _ _ hc, ?_⟩
    · obtain ⟨word, y, ⟨x, fn, C, dx, hm, hC, hT, rfl, rfl, ed⟩, hq⟩ := h2 cls d H2 hE
      obtain ⟨k, hk, nf, xm, k0, k1, k2, k3, k4, k5, kV⟩ := ref_kits T hm
      refine ⟨true, xm C cPE hC h_PileError, fun _ a na => ?_, fun z => (nomatch z)⟩
      obtain ⟨x0, x1, x2, x3, x4, x5, x6, x7, x8, rfl⟩ := nine hlen
      refine ⟨_, rfl, ?_⟩
      have hEx : Ex1 K mg x (upd H2 a (exg a (.ref C) (some dx))) a [(fn, y)] := ⟨C, hC, hT, dx, .inr upd_same, .inr (by
        rw [upd_ne (ne_of_none ed na)]
        exact ed)⟩
      have sx : Same H2 (upd H2 a (exg a (.ref C) (some dx))) := same_upd na
      refine ⟨_, rfl, rfl, _, rfl, iteF ?_⟩
      refine ⟨_, rfl, is_at hEx k0 h_BadField ⟨_, rfl, is_at hEx k1 h_BadScript ⟨_, rfl, is_at hEx k2 h_BadMoves ⟨three_sz, fun p1 n1 => upd_gen n1 fun J1 j1 f1 => ?_⟩⟩⟩⟩
      have E1 := hEx.same j1
      refine ⟨_, rfl, _, rfl, is_at E1 k3 h_BadYard ⟨_, rfl, is_at E1 k4 h_BadSpot ⟨_, rfl, is_at E1 k5 h_BadPaper ⟨three_sz, fun p2 n2 => upd_gen n2 fun J2 j2 f2 => ?_⟩⟩⟩⟩
      refine catL (j2 _ _ f1) f2 (show 3 + 3 ≤ sizeLine by decide) fun J3 p3 j3 n3 f3 => ?_
      have E3 := (E1.same j2).same j3
      refine ⟨(show 6 ≤ sizeLine by decide), fun p4 n4 => upd_gen n4 fun J4 j4 f4 => ?_⟩
      have E4 := E3.same j4
      have f3' := j4 _ _ f3
      refine ⟨_, rfl, _, rfl, p4, p3, wordsH.map V.str, [k == 0, k == 1, k == 2, k == 3, k == 4, k == 5].map V.bl, rfl, .inl ⟨SqL.of f4, SqL.of f3', fun D nD => ?_⟩⟩
      refine lc_it (walk_zip (xs := wordsH.map V.str) (ys := [k == 0, k == 1, k == 2, k == 3, k == 4, k == 5].map V.bl) rfl) (fun i H' => H' D = some (.lst ((if k < i then [word] else []).map V.str)) ∧ Same J4 H') ⟨upd_same, same_upd nD⟩ (fun i H' _ ⟨_, s'⟩ => ⟨s'.seq (SqL.of f4), s'.seq (SqL.of f3')⟩) (fun i v H8 H9 hi ⟨eD, s'⟩ hy => ?_) (fun H8 ⟨eD, s'⟩ => ?_)
      · obtain ⟨Tt, v1, v2, rfl, nT, rfl, g1, g2⟩ := hy
        have hi : i < 6 := hi
        obtain ⟨w1, g3, rfl⟩ := str_at g1
        have g4 : v2 = V.bl (k == i) := by
          rcases (show i = 0 ∨ i = 1 ∨ i = 2 ∨ i = 3 ∨ i = 4 ∨ i = 5 by omega) with h | h | h | h | h | h <;> subst h <;> exact (Option.some.inj g2).symm
        subst g4
        have nDT : D ≠ Tt := ne_of_none eD nT
        refine ⟨Tt, _, rfl, SqT.of upd_same, rfl, _, _, rfl, _, _, rfl, rfl, rfl, _, rfl, _, rfl, ite2 (fun hb => ?_) (fun hb => ?_)⟩
        · have hb : k = i := by simpa using hb
          subst hb
          rw [if_neg (by omega)] at eD
          refine ⟨_, rfl, [], by rw [upd_ne nDT]; exact eD, by decide, ?_, same_put (same_new s' nT) nD⟩
          rw [upd_same, if_pos (by omega)]
          have : w1 = word := by
            rcases hk with ⟨h, _, h'⟩ | ⟨h, _, h'⟩ | ⟨h, _, h'⟩ <;> subst h <;> subst h' <;> exact (Option.some.inj g3).symm
          rw [this]
          rfl
        · have hb : k ≠ i := fun z => hb (by simp [z])
          refine ⟨?_, same_new s' nT⟩
          rw [upd_ne nDT, eD]
          by_cases q : k < i
          · rw [if_pos q, if_pos (by omega)]
          · rw [if_neg q, if_neg (by omega)]
      · rw [if_pos (by
          show k < 6
          rcases hk with ⟨h, _⟩ | ⟨h, _⟩ | ⟨h, _⟩ <;> omega)] at eD
        have eD : H8 D = some (.lst [.str word]) := eD
        have E8 := E4.same s'
        refine ⟨_, rfl, D, _, rfl, .inl (SqL.of eD), rfl, _, rfl, ?_⟩
        refine ite2 (fun h => absurd h (by simp)) (fun _ => ?_)
        refine ⟨_, rfl, is_atB E8 kV ⟨_, rfl, iteF ?_⟩⟩
        have s2J : Same H2 J4 := sx.trans (j1.trans (j2.trans (j3.trans j4)))
        have s28 := s2J.trans s'
        refine ⟨_, rfl, ix0L eD ⟨two_sz, fun p9 n9 => upd_gen n9 fun H9 s9 e9 => ⟨p9, _, rfl, .inr (SqT.of e9), rfl, rfl, _, rfl, ?_⟩⟩⟩
        rcases hk with ⟨rfl, rfl, rfl⟩ | ⟨rfl, rfl, rfl⟩ | ⟨rfl, rfl, rfl⟩
        · exact iteT ⟨_, rfl, ix0L (s9 _ _ eD) ⟨_, rfl, xo_at (E8.same s9) nf rfl ⟨two_sz, fun r nr => upd_gen nr fun H10 s10 e10 => hq H10 r (s28.trans (s9.trans s10)) (SqT.of e10)⟩⟩⟩
        · refine iteF ⟨_, rfl, ix0L (s9 _ _ eD) ⟨two_sz, fun p10 n10 => upd_gen n10 fun H10 s10 e10 => ⟨p10, _, rfl, .inr (SqT.of e10), rfl, rfl, _, rfl, ?_⟩⟩⟩
          have s910 := s9.trans s10
          exact iteT ⟨_, rfl, ix0L (s910 _ _ eD) ⟨_, rfl, xo_at (E8.same s910) nf rfl ⟨two_sz, fun r nr => upd_gen nr fun H11 s11 e11 => hq H11 r (s28.trans (s910.trans s11)) (SqT.of e11)⟩⟩⟩
        · refine iteF ⟨_, rfl, ix0L (s9 _ _ eD) ⟨two_sz, fun p10 n10 => upd_gen n10 fun H10 s10 e10 => ⟨p10, _, rfl, .inr (SqT.of e10), rfl, rfl, _, rfl, ?_⟩⟩⟩
          have s910 := s9.trans s10
          exact iteT ⟨_, rfl, ix0L (s910 _ _ eD) ⟨_, rfl, xo_at (E8.same s910) nf rfl ⟨two_sz, fun r nr => upd_gen nr fun H11 s11 e11 => hq H11 r (s28.trans (s910.trans s11)) (SqT.of e11)⟩⟩⟩
    · refine h1 H1 _ s1 fun v H2 hv => ⟨one_sz, fun p np => ?_⟩
      refine upd_gen np fun H3 s3 e3 => ?_
      exact ⟨_, rfl, rfl, _, rfl, iteT ⟨_, rfl, hv H3 p s3 np e3⟩⟩
end XB
set_option Elab.async false
set_option linter.all false
set_option maxRecDepth 100000
set_option maxHeartbeats 8000000
namespace XB
open PySem PySem.Spec PyProof.Rows L2
/-- the law's listener, called with a lambda -/
theorem pe_heard {X : Cx} {tab c : Addr} {k : Nat} {params : Arguments} {body : Expr} {scope : Scope} {t : XK → TE} {p lpos pos : Pos} (T : Tx X.K X.mg) (hg : Gl X "_law_heard") (TB : LamX.TabB X.base X.mg c tab) (hcode : X.env.code = .ref c) (hr : Room (k + 2) X.A) (L : LamX.LamS X.env.scope scope)
    (hdef : defaultsOf params X.env = ([], [])) (hbind : ∀ (q : Str) (cl : List (Str × Addr)) (pm cv ctv : Value), bindArgs (PySem.W.kla_fn "<lambda>" q params body scope cl pm cv ctv) ⟨[], []⟩ = pure [])
    (hbody : ∀ (A : Around) (outer : List Env) (s : Shared) (H : Hp) (E : XK) (f c' : Addr), Room k (A.deeper (LamX.lamEnv X scope s.heap.objs.size f c')) → PE (LamX.lamCx X A outer s H E scope f c') body (t E)) :
    PE X (.Call (.Name "_law_heard" p) [.Lambda params body scope lpos] [] pos) (LamX.tLam [(tab, X.env.qual ++ "<lambda>")] (TTheard X.K X.mg) t) := by
  obtain ⟨g, fd, F, hm⟩ := T.d__law_heard.ex
  obtain ⟨oc, od, kV, doc, pm, an, cdv, ct, osl, rfl, lk, hcd⟩ := F.ex
  have hb := F.binds (ps := ["call"]) fun _ _ _ _ _ _ us hl => match us, hl with | [_], _ => rfl
  exact LamX.pe_lamcall (a := "call") (Ng := ["call", "heard", "error", "e", "kinds_so", "words", "found", "one", "is_so"]) (sg := defScope s__law_heard) hg hm F.kp lk hcd hb sc__law_heard rfl (.inl (by decide +kernel)) (heard_gives T) TB hcode (List.mem_singleton.mpr rfl) (fun y hy _ => by rw [List.mem_singleton.mp hy]) hr L hdef hbind hbody
end XB
set_option Elab.async false
set_option linter.all false
set_option maxRecDepth 100000
set_option maxHeartbeats 4000000
/-! tuple * int, the empty tuple too -/
namespace XB
open PySem PySem.Spec PyProof.Rows L2
theorem tuple_mul0 (l : Addr) (n : Nat) (dd : Option Addr) (sl : Array (Option Value)) (x : Int) (u : Tok) (c0 : (decide (x < -(2 ^ 63)) || decide (x ≥ 2 ^ 63)) = false) :
    Meets (Builtin.«tuple.__mul__» ⟨[.ref l, .int x u], []⟩) (fun _ R s => s.heap.get? l = some { cls := .type "tuple", dict := dd, data := .seq #[] n, slots := sl } ∧ R (.ok (.ret (Value.ref l))) s) :=
  .of_wp fun prog w A R s h => by
    obtain ⟨hp, g, d, tk, os⟩ := s
    obtain ⟨hl, h⟩ := h
    have f1 := AutoSeq1.idx_int
    wp_walk using wpAny_loadPart' hl
    repeat (first
      | (refine wpAny_ite_false (decide_eq_false (by rw [c0]; exact Bool.false_ne_true)) ?_; wp_walk using wpAny_loadPart' hl))
    exact ⟨_, rfl, h⟩
def rMulT (K : PySem.W.Frag) : R2 := fun x y H Q => ∃ l k xs, x = .ref l ∧ y = .int k ∧ SqT K H l xs ∧ 2 ≤ k ∧ k ≤ 1000 ∧ xs.length ≤ 1000 ∧ ∀ H' p, Same H H' → SqT K H' p (List.replicate k.toNat xs).flatten → Q (.ref p) H'
theorem op_mulT {X : Cx} {K : PySem.W.Frag} (hk : X.K = K) : OpR X (binaryOp .Mult) (rMulT K) := by
  subst hk
  intro pins s σ H x y v u Q I rx ry h
  obtain ⟨l, k, xs, rfl, rfl, hT, h1, h2, hz, q⟩ := h
  by_cases hne : xs = []
  · subst hne
    have hT' := hT
    cases rx
    obtain ⟨t, rfl⟩ := ry
    obtain ⟨its, r, ⟨⟨cls, dd, data, sl⟩, ho, hc, n, hd⟩, hs⟩ := I.tuple hT
    simp only at hc hd
    subst hc hd
    have hn : its = [] := List.eq_nil_of_length_eq_zero r.length.symm
    subst hn
    have c0 : (decide (k < -(2 ^ 63)) || decide (k ≥ 2 ^ 63)) = false := by
      rw [decide_eq_false (by omega), decide_eq_false (by omega)] <;> rfl
    refine wpAny_binaryOp_repeat_ref (T := "tuple") (U := "int") (by decide) ⟨_, ho, rfl⟩ (fun s' => typeIs_int s' k t) noFill_tuple_mul F.fills_int_mul F.slot_int_rmul repeat_tuple F.slot_int_index.lookup
      (call_meets F.slot_int_rmul (typeIs_int s k t) F.entry_int_rmul (F.args_int_rmul_2 _ _) (int_rmul_tuple k t l [].toArray n dd sl)
        ⟨ho, rfl, ⟨_, ho, rfl⟩, call_meets F.slot_tuple_mul ⟨_, ho, rfl⟩ F.entry_tuple_mul (F.args_tuple_mul_2 _ _) (tuple_mul0 l n dd sl k t c0) ⟨ho, ?_⟩⟩)
    refine ⟨.ref l, H, I, rfl, q H l (Same.refl _) ?_⟩
    have e : (List.replicate k.toNat ([] : List V)).flatten = [] := by
      rw [List.flatten_replicate_nil]
    rw [e]
    exact hT'
  · exact op_repT pins s σ H _ _ v u Q I rx ry ⟨l, k, xs, rfl, rfl, hT, hne, h1, h2, hz, fun p hp => q _ p (same_upd hp) (SqT.of upd_same)⟩
end XB
set_option Elab.async false
set_option linter.all false
set_option maxRecDepth 100000
set_option maxHeartbeats 4000000
/-! the head of a law whose promise holds where no repr runs around -/
namespace XB
open PySem PySem.Spec PyProof.Rows L2
section
variable {P : Program} {w : World} {K : PySem.W.Frag} {mg mb : Str → Option Value} {k : Nat} {fa a : Addr} {fd : FuncData} {x : Str} {sp : Sp} {st : Shared} {vs : List Value} {ns : List Int}
def scriptO (vs : List Value) : Obj := { cls := .type "list", data := .seq vs.toArray }
theorem end_g (kin : K.In st.heap) (gl : st.heap.Ns mainGlobals mg) (bl : st.heap.Ns builtinsNs mb) (bb : ∀ y : Str, y ≠ "__name__" → mb y = bootBuiltins y) (nl : st.heap.NoLimit) (ge : st.gens = #[])
    (at_ : st.heap.get? a = some (scriptO vs)) (whl : IntsAre vs ns) (short : ns.length ≤ sizeLine) (room : Room k callerA)
    (prom : ∀ base : Heap, K.In base → base.Ns mainGlobals mg → FnG P w K mg base CX0 k fa fd [x] sp) (bnd : ∀ (s : Shared) (u : Value), BindsTo s fd ⟨[u], []⟩ [(x, u)])
    (holds : ∀ H : Hp, SqL K H a (ns.map V.int) → sp [.ref a] H (fun v _ => v = .bl true) fun _ _ _ => False) :
    codeAny (model P w) callerA (.call (.ref fa) ⟨[.ref a], []⟩) (fun r t => r = .ok (.ret (.bool true)) ∧ OldK st.heap t.heap ∧ t.os = st.os ∧ AllBare t.gens) st := by
  have hv := vals_ints whl
  obtain ⟨G, hG⟩ : ∃ G : Hp, ∀ b, G b = if b = a ∧ (K.lookup a).isNone = true then some (.frz (scriptO vs) (.lst (ns.map V.int))) else none := ⟨fun b => if b = a ∧ (K.lookup a).isNone = true then _ else none, fun _ => rfl⟩
  have only : ∀ b u, G b = some u → b = a ∧ K.lookup a = none ∧ u = .frz (scriptO vs) (.lst (ns.map V.int)) := fun b u q => by
    rw [hG] at q
    by_cases c : b = a ∧ (K.lookup a).isNone = true
    · rw [if_pos c] at q
      exact ⟨c.1, by simpa using c.2, (Option.some.inj q).symm⟩
    · rw [if_neg c] at q
      cases q
  have row : SqL K G a (ns.map V.int) := by
    cases q : K.lookup a with
    | none => exact .inl (.inr ⟨scriptO vs, by rw [hG, if_pos ⟨rfl, by rw [q]; rfl⟩]⟩)
    | some o =>
      have q2 := kin a o q
      rw [at_] at q2
      have q3 : o = scriptO vs := (Option.some.inj q2).symm
      subst q3
      exact .inr ⟨_, vs.toArray, _, q, rfl, rfl, rfl, by rw [List.size_toArray, whl.length]; exact short, by simpa using hv⟩
  have sound : HOk P w G st.heap := fun b u q => by
    obtain ⟨rfl, _, rfl⟩ := only b u q
    exact ⟨at_, by rw [List.length_map]; exact short, vs, 0, hv, at_⟩
  have stays : ∀ {b : Addr} {o : Obj}, st.heap.get? b = some o → (b = a → o ≠ scriptO vs ∨ ∃ u, K.lookup a = some u) → (hidT st.heap G).get? b = some o := fun {b o} q c => by
    refine hidT_get q ?_
    cases g : G b with
    | none => rfl
    | some u =>
      obtain ⟨e1, e2, _⟩ := only b u g
      rcases c e1 with z | ⟨u', z⟩
      · rw [e1, at_] at q
        exact absurd (Option.some.inj q).symm z
      · rw [e2] at z
        cases z
  have names : ∀ {b : Addr} {f : Str → Option Value}, st.heap.Ns b f → (hidT st.heap G).Ns b f := fun {b f} h => by
    obtain ⟨o, es, ep, q, d, r⟩ := h
    refine ⟨o, es, ep, stays q fun _ => .inl fun z => ?_, d, r⟩
    rw [z] at d
    have d : Data.seq vs.toArray _ = Data.dict es ep := d
    cases d
  have kin' : K.In (hidT st.heap G) := fun b o q => stays (kin b o q) fun e => .inr ⟨o, by rw [← e]; exact q⟩
  have md : Mod K mg (hidT st.heap G) := ⟨kin', names gl, ⟨mb, names bl, bb⟩, by obtain ⟨mc, n1, n2⟩ := nl; exact ⟨mc, names n1, n2⟩⟩
  have none_in : ∀ {b : Addr}, b ∉ ([] : List Addr) := fun {b} z => by cases z
  have e0 : Env0 P w K mg (hidT st.heap G) callerA [] st G := { frames := rfl, mod := md, bs := fun _ _ q => of_hidT q, bsz := Nat.le_of_eq (hidT_size _ _), funs := trivial, frf := fun b z => absurd (show b ∈ ([] : List Addr) from z) none_in, hok := sound, bare := .of_eq ge }
  have ran := (prom _ kin' (names gl)).goes (A := callerA) (outer := []) (Q := fun v _ => v = .bl true) (E := fun _ _ _ => False) (args := ⟨[.ref a], []⟩) (us := [.ref a]) (vs := [.ref a]) rfl room e0 (bnd st (.ref a)) (.cons (show Value.ref a = Value.ref a from rfl) .nil) (holds G row)
  refine codeAny_mono ran ?_
  intro r t q
  match r, q with
  | .ok (.ret u), q =>
    obtain ⟨v, G', e1, e2, un, ok', rv, ev⟩ := q
    have ev : v = .bl true := ev
    subst ev
    have eu : u = Value.bool true := rv
    rw [eu]
    refine ⟨rfl, OldK.of_keep fun b o hb => ?_, e1, e2⟩
    cases g : G b with
    | none => exact un.keep b o hb g (fun z => absurd (show b ∈ ([] : List Addr) from z) none_in) none_in
    | some y =>
      obtain ⟨_, _, rfl⟩ := only b y g
      have c1 := (sound b _ g).1
      have c2 := (ok' b _ (un.frzs b _ _ g)).1
      rw [hb] at c1
      rw [c2, ← c1]
  | .ok .next, q => exact False.elim q
  | .ok .brk, q => exact False.elim q
  | .ok .cont, q => exact False.elim q
  | .error _, q => exact False.elim q
theorem walk_g {l : PySem.W.OpenLaw} {n k : Nat} {q : Program} {loose : List Str} {XP : (Str → Option Value) → Heap → Prop} {YP : World → Heap → Prop} {d : DefRec} {K : Params → PySem.W.Frag} {sp : PySem.W.Frag → Sp} {x : Str}
    (most : l.most = some n) (fits : n ≤ sizeLine) (plain : d.params.defaults = []) (room : Room k callerA) (inn : ∀ (w : World) (h : Heap), YP w h → (K w.params).In h)
    (prom : ∀ (w : World) (mg : Str → Option Value) (fa : Addr) (h : Heap), (K w.params).In h → h.Ns mainGlobals mg → mg d.name = some (.ref fa) →
      ∃ fd : FuncData, (∀ (s : Shared) (u : Value), BindsTo s fd ⟨[u], []⟩ [(x, u)]) ∧ ∀ base : Heap, (K w.params).In base → base.Ns mainGlobals mg → FnG l.prog w (K w.params) mg base CX0 k fa fd [x] (sp (K w.params)))
    (holds : ∀ (K : PySem.W.Frag) (H : Hp) (a : Addr) (ns : List Int), ns.length ≤ n → SqL K H a (ns.map V.int) → sp K [.ref a] H (fun v _ => v = .bl true) fun _ _ _ => False) : PySem.W.WalkO q loose XP YP l.row.toRowW d [] (fun f vs => PySem.call f vs) := by
  refine Att.attach_call most plain fun w s0 st mg mb fa o pm cd doc a vs ns gg y ho hd hcd hmg hobj hints hlen hgen => ?_
  have kin := inn w _ y
  obtain ⟨fd, b, pr⟩ := prom w mg fa _ kin gg.T.g hmg
  exact end_g kin gg.T.g gg.T.b gg.T.builtins gg.T.nolimit hgen hobj hints (Nat.le_trans hlen fits) room pr b fun H s => holds _ H a ns hlen s
/-- the same, with what the head tells of the globals beside the written part -/
theorem walk_gX {TX : (Str → Option Value) → Prop} {l : PySem.W.OpenLaw} {n k : Nat} {q : Program} {loose : List Str} {XP : (Str → Option Value) → Heap → Prop} {YP : World → Heap → Prop} {d : DefRec} {K : Params → PySem.W.Frag} {sp : PySem.W.Frag → Sp} {x : Str}
    (most : l.most = some n) (fits : n ≤ sizeLine) (plain : d.params.defaults = []) (room : Room k callerA) (told : ∀ (mg : Str → Option Value) (h : Heap), XP mg h → TX mg) (inn : ∀ (w : World) (h : Heap), YP w h → (K w.params).In h)
    (prom : ∀ (w : World) (mg : Str → Option Value) (fa : Addr) (h : Heap), (K w.params).In h → h.Ns mainGlobals mg → mg d.name = some (.ref fa) → TX mg →
      ∃ fd : FuncData, (∀ (s : Shared) (u : Value), BindsTo s fd ⟨[u], []⟩ [(x, u)]) ∧ ∀ base : Heap, (K w.params).In base → base.Ns mainGlobals mg → FnG l.prog w (K w.params) mg base CX0 k fa fd [x] (sp (K w.params)))
    (holds : ∀ (K : PySem.W.Frag) (H : Hp) (a : Addr) (ns : List Int), ns.length ≤ n → SqL K H a (ns.map V.int) → sp K [.ref a] H (fun v _ => v = .bl true) fun _ _ _ => False) : PySem.W.WalkO q loose XP YP l.row.toRowW d [] (fun f vs => PySem.call f vs) := by
  refine Att.attach_call most plain fun w s0 st mg mb fa o pm cd doc a vs ns gg y ho hd hcd hmg hobj hints hlen hgen => ?_
  have kin := inn w _ y
  obtain ⟨fd, b, pr⟩ := prom w mg fa _ kin gg.T.g hmg (told _ _ gg.X)
  exact end_g kin gg.T.g gg.T.b gg.T.builtins gg.T.nolimit hgen hobj hints (Nat.le_trans hlen fits) room pr b fun H s => holds _ H a ns hlen s
end
end XB
set_option Elab.async false
set_option linter.all false
set_option maxRecDepth 100000
set_option maxHeartbeats 4000000
/-! the head of a law whose defs make lambdas: what their code objects keep of them is told, too -/
namespace XB
open PySem PySem.Spec PyProof.Rows L2
/-- the code objects of some defs of the module, each with its table -/
def tabsOf (K : PySem.W.Frag) (xs : List Str) : List (Addr × Addr) := xs.filterMap (PySem.W.tabIn K)
section
variable {P : Program} {w : World} {K : PySem.W.Frag} {mg mb : Str → Option Value} {k : Nat} {fa a : Addr} {fd : FuncData} {x : Str} {sp : Sp} {st : Shared} {vs : List Value} {ns : List Int}
theorem end_gT {ts : List (Addr × Addr)} (kin : K.In st.heap) (gl : st.heap.Ns mainGlobals mg) (bl : st.heap.Ns builtinsNs mb) (bb : ∀ y : Str, y ≠ "__name__" → mb y = bootBuiltins y) (nl : st.heap.NoLimit) (ge : st.gens = #[])
    (empty : ∀ t ∈ ts, st.heap.get? t.2 = some (PySem.W.tabObj #[])) (out : ∀ t ∈ ts, K.lookup t.2 = none) (heads : ∀ t ∈ ts, PySem.W.CodeHd st.heap t.1 t.2)
    (bm : ∃ (b : Addr) (o : Obj), mg "__builtins__" = some (.ref b) ∧ b ≠ builtinsNs ∧ st.heap.get? b = some o ∧ o.cls = .type "module" ∧ o.dict = some builtinsNs ∧ o.data = .plain)
    (at_ : st.heap.get? a = some (scriptO vs)) (whl : IntsAre vs ns) (short : ns.length ≤ sizeLine) (room : Room k callerA)
    (prom : ∀ base : Heap, K.In base → base.Ns mainGlobals mg → (∀ t ∈ ts, LamX.TabB base mg t.1 t.2) → FnG P w K mg base CX0 k fa fd [x] sp) (bnd : ∀ (s : Shared) (u : Value), BindsTo s fd ⟨[u], []⟩ [(x, u)])
    (holds : ∀ H : Hp, (∀ t ∈ ts, H t.2 = some (.tbl #[])) → SqL K H a (ns.map V.int) → sp [.ref a] H (fun v _ => v = .bl true) fun _ _ _ => False) :
    codeAny (model P w) callerA (.call (.ref fa) ⟨[.ref a], []⟩) (fun r t => r = .ok (.ret (.bool true)) ∧ OldK st.heap t.heap ∧ t.os = st.os ∧ AllBare t.gens) st := by
  have hv := vals_ints whl
  have notT : ∀ t ∈ ts, t.2 ≠ a := fun t ht z => by
    have q := empty t ht
    rw [z, at_] at q
    have q2 : (scriptO vs).data = (PySem.W.tabObj #[]).data := congrArg Obj.data (Option.some.inj q)
    have q3 : Data.seq vs.toArray _ = Data.fields #[] := q2
    cases q3
  obtain ⟨G, hG⟩ : ∃ G : Hp, ∀ b, G b = if b = a ∧ (K.lookup a).isNone = true then some (.frz (scriptO vs) (.lst (ns.map V.int))) else if (ts.any fun t => t.2 == b) = true then some (.tbl #[]) else none := ⟨fun b => if b = a ∧ (K.lookup a).isNone = true then _ else if (ts.any fun t => t.2 == b) = true then _ else none, fun _ => rfl⟩
  have only : ∀ b u, G b = some u → (b = a ∧ K.lookup a = none ∧ u = .frz (scriptO vs) (.lst (ns.map V.int))) ∨ ((∃ t ∈ ts, t.2 = b) ∧ u = .tbl #[]) := fun b u q => by
    rw [hG] at q
    by_cases c : b = a ∧ (K.lookup a).isNone = true
    · rw [if_pos c] at q
      exact .inl ⟨c.1, by simpa using c.2, (Option.some.inj q).symm⟩
    · rw [if_neg c] at q
      by_cases d : (ts.any fun t => t.2 == b) = true
      · rw [if_pos d] at q
        obtain ⟨t, ht, e⟩ := List.any_eq_true.mp d
        exact .inr ⟨⟨t, ht, eq_of_beq e⟩, (Option.some.inj q).symm⟩
      · rw [if_neg d] at q
        cases q
  have tbls : ∀ t ∈ ts, G t.2 = some (.tbl #[]) := fun t ht => by
    have here : (ts.any fun u => u.2 == t.2) = true := List.any_eq_true.mpr ⟨t, ht, beq_self_eq_true _⟩
    rw [hG, if_neg fun z => notT t ht z.1, if_pos here]
  have row : SqL K G a (ns.map V.int) := by
    cases q : K.lookup a with
    | none => exact .inl (.inr ⟨scriptO vs, by rw [hG, if_pos ⟨rfl, by rw [q]; rfl⟩]⟩)
    | some o =>
      have q2 := kin a o q
      rw [at_] at q2
      have q3 : o = scriptO vs := (Option.some.inj q2).symm
      subst q3
      exact .inr ⟨_, vs.toArray, _, q, rfl, rfl, rfl, by rw [List.size_toArray, whl.length]; exact short, by simpa using hv⟩
  have sound : HOk P w G st.heap := fun b u q => by
    rcases only b u q with ⟨rfl, _, rfl⟩ | ⟨⟨t, ht, rfl⟩, rfl⟩
    · exact ⟨at_, by rw [List.length_map]; exact short, vs, 0, hv, at_⟩
    · exact empty t ht
  have stays : ∀ {b : Addr} {o : Obj}, st.heap.get? b = some o → (b = a → o ≠ scriptO vs ∨ ∃ u, K.lookup a = some u) → ((∃ t ∈ ts, t.2 = b) → o ≠ PySem.W.tabObj #[]) → (hidT st.heap G).get? b = some o := fun {b o} q c d => by
    refine hidT_get q ?_
    cases g : G b with
    | none => rfl
    | some u =>
      rcases only b u g with ⟨e1, e2, _⟩ | ⟨⟨t, ht, e1⟩, _⟩
      · rcases c e1 with z | ⟨u', z⟩
        · rw [e1, at_] at q
          exact absurd (Option.some.inj q).symm z
        · rw [e2] at z
          cases z
      · have q2 := empty t ht
        rw [e1, q] at q2
        exact absurd (Option.some.inj q2) (d ⟨t, ht, e1⟩)
  have plain : ∀ {b : Addr} {o : Obj}, st.heap.get? b = some o → (∀ l n, o.data ≠ .seq l n) → o.data ≠ .fields #[] → (hidT st.heap G).get? b = some o := fun {b o} q c d => stays q (fun _ => .inl fun z => by subst z; exact c _ _ rfl) fun _ z => by subst z; exact d rfl
  have names : ∀ {b : Addr} {f : Str → Option Value}, st.heap.Ns b f → (hidT st.heap G).Ns b f := fun {b f} h => by
    obtain ⟨o, es, ep, q, d, r⟩ := h
    refine ⟨o, es, ep, plain q (fun l n z => ?_) (fun z => ?_), d, r⟩ <;> (rw [d] at z; cases z)
  have kin' : K.In (hidT st.heap G) := fun b o q => stays (kin b o q) (fun e => .inr ⟨o, by rw [← e]; exact q⟩) fun ⟨t, ht, e⟩ _ => by
    have n := out t ht
    rw [e, q] at n
    cases n
  have md : Mod K mg (hidT st.heap G) := ⟨kin', names gl, ⟨mb, names bl, bb⟩, by obtain ⟨mc, n1, n2⟩ := nl; exact ⟨mc, names n1, n2⟩⟩
  have heads' : ∀ t ∈ ts, LamX.TabB (hidT st.heap G) mg t.1 t.2 := fun t ht => by
    refine ⟨?_, ?_, fun z => ?_⟩
    · obtain ⟨co, cv, f1, f2, f3, f4, f5, f6, f7, g0, g1, g2, g3, g4, g5, g6, g7, g8, g9⟩ := heads t ht
      refine ⟨co, cv, f1, f2, f3, f4, f5, f6, f7, plain g0 (fun l n z => ?_) (fun z => ?_), g1, g2, g3, g4, g5, g6, g7, g8, g9⟩
      · rw [g2] at z
        cases z
      · rw [g2] at z
        cases z
        simp at g3
    · obtain ⟨b, o, b1, b2, b3, b4, b5, b6⟩ := bm
      refine ⟨b, o, b1, b2, fun z => ?_, fun z => ?_, plain b3 (fun l n z => ?_) (fun z => ?_), b4, b5, b6⟩
      · obtain ⟨o2, es, ep, q, d, _⟩ := gl
        rw [z, q] at b3
        cases b3
        rw [d] at b6
        cases b6
      · have q := empty t ht
        rw [← z, b3] at q
        cases q
        cases b6
      · rw [b6] at z
        cases z
      · rw [b6] at z
        cases z
    · obtain ⟨o2, es, ep, q, d, _⟩ := gl
      have q2 := empty t ht
      rw [← z, q] at q2
      cases q2
      cases d
  have none_in : ∀ {b : Addr}, b ∉ ([] : List Addr) := fun {b} z => by cases z
  have e0 : Env0 P w K mg (hidT st.heap G) callerA [] st G := { frames := rfl, mod := md, bs := fun _ _ q => of_hidT q, bsz := Nat.le_of_eq (hidT_size _ _), funs := trivial, frf := fun b z => absurd (show b ∈ ([] : List Addr) from z) none_in, hok := sound, bare := .of_eq ge }
  have ran := (prom _ kin' (names gl) heads').goes (A := callerA) (outer := []) (Q := fun v _ => v = .bl true) (E := fun _ _ _ => False) (args := ⟨[.ref a], []⟩) (us := [.ref a]) (vs := [.ref a]) rfl room e0 (bnd st (.ref a)) (.cons (show Value.ref a = Value.ref a from rfl) .nil) (holds G tbls row)
  refine codeAny_mono ran ?_
  intro r t q
  match r, q with
  | .ok (.ret u), q =>
    obtain ⟨v, G', e1, e2, un, ok', rv, ev⟩ := q
    have ev : v = .bl true := ev
    subst ev
    have eu : u = Value.bool true := rv
    rw [eu]
    have kept : ∀ b o, (∀ y ∈ ts, y.2 ≠ b) → st.heap.get? b = some o → t.heap.get? b = some o := fun b o nb hb => by
      cases g : G b with
      | none => exact un.keep b o hb g (fun z => absurd (show b ∈ ([] : List Addr) from z) none_in) none_in
      | some y =>
        rcases only b y g with ⟨_, _, rfl⟩ | ⟨⟨y2, hy, e⟩, _⟩
        · have c1 := (sound b _ g).1
          have c2 := (ok' b _ (un.frzs b _ _ g)).1
          rw [hb] at c1
          rw [c2, ← c1]
        · exact absurd e (nb y2 hy)
    have grew : ∀ y ∈ ts, ∃ more : Array Value, t.heap.get? y.2 = some (PySem.W.tabObj more) := fun y hy => by
      obtain ⟨more, z⟩ := un.tbls y.2 #[] (tbls y hy)
      exact ⟨_, ok' y.2 _ z⟩
    refine ⟨rfl, ⟨fun b o hb => ?_, fun b o hb => ?_⟩, e1, e2⟩
    · rcases Classical.em (∃ y ∈ ts, y.2 = b) with ⟨y, hy, rfl⟩ | h
      · obtain ⟨more, hm⟩ := grew y hy
        have q := empty y hy
        rw [q] at hb
        cases hb
        exact .inr (.inl ⟨((heads y hy).tab q).isCodeTable, rfl, #[], more, rfl, by rw [Array.empty_append]; exact hm⟩)
      · exact .inl (kept b o (fun y hy e => h ⟨y, hy, e⟩) hb)
    · rcases Classical.em (∃ y ∈ ts, y.2 = b) with ⟨y, hy, rfl⟩ | h
      · obtain ⟨more, hm⟩ := grew y hy
        exact ⟨_, hm⟩
      · exact ⟨o, kept b o (fun y hy e => h ⟨y, hy, e⟩) hb⟩
  | .ok .next, q => exact False.elim q
  | .ok .brk, q => exact False.elim q
  | .ok .cont, q => exact False.elim q
  | .error _, q => exact False.elim q
/-- the walk to the law, with the tables of the defs that make lambdas -/
theorem walk_gT {TX : (Str → Option Value) → Prop} {l : PySem.W.OpenLaw} {n k : Nat} {q : Program} {loose : List Str} {XP : (Str → Option Value) → Heap → Prop} {YP : World → Heap → Prop} {d : DefRec} {K : Params → PySem.W.Frag} {sp : PySem.W.Frag → Sp} {x : Str} {xs : List Str}
    (most : l.most = some n) (fits : n ≤ sizeLine) (plain : d.params.defaults = []) (room : Room k callerA) (told : ∀ (mg : Str → Option Value) (h : Heap), XP mg h → TX mg) (inn : ∀ (w : World) (h : Heap), YP w h → (K w.params).In h)
    (recs : ∀ y ∈ xs, ∃ e, (recsOf q).find? (fun e => e.name == y) = some e) (noT : ∀ w : World, PySem.W.noTabs (K w.params) = true)
    (prom : ∀ (w : World) (mg : Str → Option Value) (fa : Addr) (h : Heap), (K w.params).In h → h.Ns mainGlobals mg → mg d.name = some (.ref fa) → TX mg →
      ∃ fd : FuncData, (∀ (s : Shared) (u : Value), BindsTo s fd ⟨[u], []⟩ [(x, u)]) ∧ ∀ base : Heap, (K w.params).In base → base.Ns mainGlobals mg → (∀ t ∈ tabsOf (K w.params) xs, LamX.TabB base mg t.1 t.2) → FnG l.prog w (K w.params) mg base CX0 k fa fd [x] (sp (K w.params)))
    (holds : ∀ (K : PySem.W.Frag) (H : Hp) (a : Addr) (ns : List Int), ns.length ≤ n → (∀ t ∈ tabsOf K xs, H t.2 = some (.tbl #[])) → SqL K H a (ns.map V.int) → sp K [.ref a] H (fun v _ => v = .bl true) fun _ _ _ => False) : PySem.W.WalkO q loose XP YP l.row.toRowW d [] (fun f vs => PySem.call f vs) := by
  refine Att.attach_call most plain fun w s0 st mg mb fa o pm cd doc a vs ns gg y ho hd hcd hmg hobj hints hlen hgen => ?_
  have kin := inn w _ y
  obtain ⟨fd, b, pr⟩ := prom w mg fa _ kin gg.T.g hmg (told _ _ gg.X)
  have all : ∀ t ∈ tabsOf (K w.params) xs, PySem.W.CodeHd st.heap t.1 t.2 ∧ st.heap.get? t.2 = some (PySem.W.tabObj #[]) := fun t ht => by
    obtain ⟨y, hy, e⟩ := List.mem_filterMap.mp ht
    obtain ⟨r, hr⟩ := recs y hy
    exact PySem.W.tab_of gg.T kin hr e
  refine end_gT kin gg.T.g gg.T.b gg.T.builtins gg.T.nolimit hgen (fun t ht => (all t ht).2) (fun t ht => ?_) (fun t ht => (all t ht).1) gg.T.bmain hobj hints (Nat.le_trans hlen fits) room pr b fun H hT s => holds _ H a ns hlen hT s
  cases e : (K w.params).lookup t.2 with
  | none => rfl
  | some o =>
    have k1 := kin _ o e
    rw [(all t ht).2] at k1
    cases k1
    have k2 := List.all_eq_true.mp (noT w) _ (PySem.W.mem_of_lookupK e)
    cases k2
end
end XB
set_option Elab.async false
set_option linter.all false
set_option maxRecDepth 100000
set_option maxHeartbeats 4000000
/-! defs that make lambdas: their code objects are known; a tuple of one thing many times over -/
namespace XB
open PySem PySem.Spec PyProof.Rows L2
/-- the code object of a def that makes lambdas, and its table -/
structure CodeT (K : PySem.W.Frag) (mg : Str → Option Value) (base : Heap) (x : Str) (c tab : Addr) : Prop where
  code : ∀ (f : Addr) (o : Obj) (fd : FuncData), mg x = some (.ref f) → K.lookup f = some o → o.data = .func fd → fd.code = .ref c
  tb : LamX.TabB base mg c tab
section
variable {P : Program} {w : World} {K : PySem.W.Frag} {mg : Str → Option Value} {base : Heap}
theorem clC {x : Str} {st : Stmt} {N ps : List Str} {k : Nat} {sp : Sp} {c tab : Addr} (D : Dn K mg x st) (C : CodeT K mg base x c tab)
    (hb : ∀ (kV doc pm : Value) (an : Option Addr) (cdv ct : Value) (us : List Value), us.length = ps.length → bindArgs (PySem.W.fnOf x x (defArgs st) (defBody st) (defScope st) .none kV doc pm an cdv ct) ⟨us, []⟩ = pure (ps.zip us))
    (S : FnScope N ps (defScope st)) (len : ∀ vs H Q E, sp vs H Q E → vs.length = ps.length)
    (body : ∀ (f : Addr) (A : Around) (outer : List Env) (s : Shared) (H : Hp) (vs : List V) (Q : VK) (E : XK), Room k (A.deeper (envOfC x (defScope st) s.heap.objs.size f (.ref c))) → sp vs H Q E →
      ∃ t, PSs (cxOf CX0 P w K mg base N x (defScope st) f (.ref c) A outer s H E).nox (defBody st) t ∧ t { nx := fun _ H' => Q .non H', rt := Q } (start N vs) H) : Cl P w K mg base CX0 (k + 1) x sp := by
  obtain ⟨f, fd, F, hm⟩ := D.ex
  obtain ⟨oc, od, kV, doc, pm, an, cdv, ct, osl, rfl, lk, hcd⟩ := id F.ex
  obtain rfl : cdv = .ref c := C.code f _ _ hm lk rfl
  refine ⟨f, _, ps, fn_of lk hcd S len fun A outer s H vs Q E hr h => ?_, hm, F.kp, F.binds hb⟩
  obtain ⟨t, ht, q⟩ := body f A outer s H vs Q E hr h
  exact ⟨t, ht.nox, q⟩
theorem fgC {x : Str} {st : Stmt} {N ps : List Str} {k : Nat} {sp : Sp} {fl c tab : Addr} {fd : FuncData} (F : Fun K x x st fl fd) (hm : mg x = some (.ref fl)) (C : CodeT K mg base x c tab) (S : FnScope N ps (defScope st)) (len : ∀ vs H Q E, sp vs H Q E → vs.length = ps.length)
    (body : ∀ (f : Addr) (A : Around) (outer : List Env) (s : Shared) (H : Hp) (vs : List V) (Q : VK) (E : XK), (A.deeper (envOfC x (defScope st) s.heap.objs.size f (.ref c))).guards = some [] → Room k (A.deeper (envOfC x (defScope st) s.heap.objs.size f (.ref c))) → sp vs H Q E →
      ∃ t, PSs (cxOf CX0 P w K mg base N x (defScope st) f (.ref c) A outer s H E).nox (defBody st) t ∧ t { nx := fun _ H' => Q .non H', rt := Q } (start N vs) H) : FnG P w K mg base CX0 (k + 1) fl fd ps sp := by
  obtain ⟨oc, od, kV, doc, pm, an, cdv, ct, osl, rfl, lk, hcd⟩ := id F.ex
  obtain rfl : cdv = .ref c := C.code fl _ _ hm lk rfl
  refine fng_of lk hcd S len fun A outer s H vs Q E hg hr h => ?_
  obtain ⟨t, ht, q⟩ := body fl A outer s H vs Q E hg hr h
  exact ⟨t, ht.nox, q⟩
theorem codeT_mk {h : Heap} {x : Str} {c tab : Addr} (X : K.In h) (G : h.Ns mainGlobals mg) (ht : PySem.W.tabIn K x = some (c, tab)) (tb : LamX.TabB base mg c tab) : CodeT K mg base x c tab :=
  ⟨fun f o fd hm ho hd => PySem.W.law_code X G ht hm (X f o ho) hd, tb⟩
end
/-- a tuple of one thing, many times over -/
def rMulM (K : PySem.W.Frag) : R2 := fun x y H Q => ∃ l k z, x = .ref l ∧ y = .int k ∧ SqT K H l [z] ∧ 2 ≤ k ∧ k ≤ 100000 ∧ ∀ H' p, Same H H' → SqT K H' p (List.replicate k.toNat z) → Q (.ref p) H'
theorem rep_flat1 {α : Type} (z : α) : ∀ n : Nat, (List.replicate n [z]).flatten = List.replicate n z := fun n => by
  induction n with
  | zero => rfl
  | succ n ih => rw [List.replicate_succ, List.flatten_cons, ih, List.replicate_succ]; rfl
theorem op_mulM {X : Cx} {K : PySem.W.Frag} (hk : X.K = K) : OpR X (binaryOp .Mult) (rMulM K) := by
  subst hk
  intro pins s σ H x y v u Q I rx ry h
  obtain ⟨l, k, z, rfl, rfl, hT, k2, kM, q⟩ := h
  cases rx
  obtain ⟨tk, rfl⟩ := ry
  obtain ⟨its, rel, ⟨⟨oc, od, dat, slo⟩, hob, ecl, nn, eda⟩, hsz⟩ := I.tuple hT
  simp only at ecl eda
  subst ecl eda
  obtain ⟨a, rfl⟩ : ∃ a, its = [a] := by
    cases rel with
    | cons _ r2 => cases r2; exact ⟨_, rfl⟩
  have big : (decide (k < -(2 ^ 63)) || decide (k ≥ 2 ^ 63)) = false := by
    rw [Bool.or_eq_false_iff]
    exact ⟨decide_eq_false (by omega), decide_eq_false (by omega)⟩
  have one : (([a].toArray.isEmpty) || k == 1) = false := by
    rw [Bool.or_eq_false_iff]
    exact ⟨rfl, beq_eq_false_iff_ne.mpr (by omega)⟩
  have nil : (decide (k ≤ 0) || ([a].toArray.isEmpty)) = false := by
    rw [Bool.or_eq_false_iff]
    exact ⟨decide_eq_false (by omega), rfl⟩
  have sz1 : (([a].toArray.size : Nat) : Int) * k = k := by
    show (((1 : Nat) : Int)) * k = k
    omega
  have many : Builtin.Tuple.tupleTooMany ((([a].toArray.size : Nat) : Int) * k) = false := by
    rw [sz1]
    unfold Builtin.Tuple.tupleTooMany
    rw [sizeLine_eq]
    exact decide_eq_false (by omega)
  have laid : (List.replicate k.toNat a).length ≤ sizeLine := by
    rw [List.length_replicate, sizeLine_eq]
    omega
  have e0 : (List.foldl (fun b c => b ++ c) #[] (List.replicate k.toNat [a].toArray)) = (List.replicate k.toNat a).toArray := by
    rw [size_rep, rep_flat1]
  refine wpAny_binaryOp_repeat_ref (T := "tuple") (U := "int") (by decide) ⟨_, hob, rfl⟩ (fun s' => typeIs_int s' k tk) noFill_tuple_mul F.fills_int_mul F.slot_int_rmul repeat_tuple F.slot_int_index.lookup ?_
  refine call_meets F.slot_int_rmul (typeIs_int s k tk) F.entry_int_rmul (F.args_int_rmul_2 _ _) (int_rmul_tuple k tk l [a].toArray nn od slo) ⟨hob, rfl, ⟨_, hob, rfl⟩, ?_⟩
  refine call_meets F.slot_tuple_mul ⟨_, hob, rfl⟩ F.entry_tuple_mul (F.args_tuple_mul_2 _ _) (tuple_mulW l [a].toArray nn od slo k tk big one nil (by rw [sz1]; omega) many (by rw [e0, List.size_toArray]; exact laid)) ⟨hob, ?_⟩
  rw [e0]
  have rel1 : Vals (List.replicate k.toNat z) (List.replicate k.toNat a) := by
    have r := rel.rep k.toNat
    rw [rep_flat1, rep_flat1] at r
    exact r
  refine ⟨.ref s.heap.objs.size, _, I.laid (t' := s.toks) (o := .tup (List.replicate k.toNat z)) (fun b ob e => Heap.get?_push_of_some _ e) (Nat.le_refl _) ?_, rfl, q _ _ (same_upd (I.hok.fresh (Nat.le_refl _))) (SqT.of upd_same)⟩
  exact ⟨by rw [List.length_replicate, sizeLine_eq]; omega, _, rel1, IsTup.new _ _⟩
end XB
set_option Elab.async false
set_option linter.all false
namespace XB
open PySem PySem.Spec PyProof.Rows L2
/-- a def called without arguments -/
theorem pe_k0 {X : Cx} {k j : Nat} {x : Str} {sp : Sp} {p pos : Pos} (c : Cl X.prog X.w X.K X.mg X.base CX0 k x sp) (hr : Room j X.A) (hk : k ≤ j) (hg : Gl X x)
    (hdb : (x == ("__debug__" : Str)) = false := by decide) : PE X (.Call (.Name x p) [] [] pos) (tCall sp [] E0 tNil) := by
  obtain ⟨f, fd, ps, F, hm, kp, b⟩ := c.ex
  exact pe_call0 F (hr.mono hk) hg hm kp b .nil pass0 hdb
end XB
set_option Elab.async false
set_option linter.all false
set_option maxRecDepth 100000
set_option maxHeartbeats 8000000
namespace XB
open PySem PySem.Spec PyProof.Rows L2
/-- the law's listener, called with a lambda, some tables being known -/
theorem pe_heardT {X : Cx} {TT : List (Addr × Str)} {tab c : Addr} {k : Nat} {params : Arguments} {body : Expr} {scope : Scope} {t : XK → TE} {p lpos pos : Pos} (T : Tx X.K X.mg) (hg : Gl X "_law_heard") (TB : LamX.TabB X.base X.mg c tab) (hcode : X.env.code = .ref c)
    (hm : (tab, X.env.qual ++ "<lambda>") ∈ TT) (hu : ∀ y ∈ TT, y.1 = tab → y.2 = X.env.qual ++ "<lambda>") (hr : Room (k + 2) X.A) (L : LamX.LamS X.env.scope scope)
    (hdef : defaultsOf params X.env = ([], [])) (hbind : ∀ (q : Str) (cl : List (Str × Addr)) (pm cv ctv : Value), bindArgs (PySem.W.kla_fn "<lambda>" q params body scope cl pm cv ctv) ⟨[], []⟩ = pure [])
    (hbody : ∀ (A : Around) (outer : List Env) (s : Shared) (H : Hp) (E : XK) (f c' : Addr), Room k (A.deeper (LamX.lamEnv X scope s.heap.objs.size f c')) → PE (LamX.lamCx X A outer s H E scope f c') body (t E)) :
    PE X (.Call (.Name "_law_heard" p) [.Lambda params body scope lpos] [] pos) (LamX.tLam TT (TTheard X.K X.mg) t) := by
  obtain ⟨g, fd, F, mgF⟩ := T.d__law_heard.ex
  obtain ⟨oc, od, kV, doc, pm, an, cdv, ct, osl, rfl, lk, hcd⟩ := F.ex
  have hb := F.binds (ps := ["call"]) fun _ _ _ _ _ _ us hl => match us, hl with | [_], _ => rfl
  exact LamX.pe_lamcall (a := "call") (Ng := ["call", "heard", "error", "e", "kinds_so", "words", "found", "one", "is_so"]) (sg := defScope s__law_heard) hg mgF F.kp lk hcd hb sc__law_heard rfl (.inl (by decide +kernel)) (heard_gives T) TB hcode hm hu hr L hdef hbind hbody
section
variable {P : Program} {w : World} {K : PySem.W.Frag} {mg : Str → Option Value} {base : Heap}
theorem outM_mono {H H' : Hp} {Q : VK} {E : XK} : ∀ {o : Except Nat Rw}, OutM K mg H Q E o → Same H H' → OutM K mg H' Q E o
  | .ok _, q, s => fun H2 r s2 h => q H2 r (s.trans s2) h
  | .error _, q, s => fun C H2 dx hm hC s2 e => q C H2 dx hm hC (s.trans s2) e
/-- how heard tells of moves -/
def HeardM (K : PySem.W.Frag) (H : Hp) (Q : VK) : Except Nat Rw → Prop
  | .ok l => ∀ H' r v, Same H H' → H r = none → H' r = some (.lst [v]) → Dp K H' v (dSteps l) → Q (.ref r) H'
  | .error i => ∀ H' r, Same H H' → SqT K H' r [.str "moves", .int (i : Nat)] → Q (.ref r) H'
theorem heard_moves {tl : XK → Hp → VK → Prop} {H : Hp} {Q : VK} {o : Except Nat Rw} (h : ∀ (E : XK) (H0 : Hp) (Qx : VK), Same H H0 → OutM K mg H0 Qx E o → tl E H0 Qx) (q : HeardM K H Q o) : TTheard K mg tl H Q := by
  cases o with
  | ok l =>
    exact ⟨fun _ _ _ => False, fun H0 Qx s0 hQ => h _ H0 Qx s0 fun H' r s' hd => hQ (.ref r) H' fun H2 r2 s2 n2 e2 => q H2 r2 (.ref r) ((s0.trans s').trans s2) (fresh_of (s0.trans s') n2) e2 (tS hd s2), fun _ _ _ z => z.elim⟩
  | error i =>
    exact ⟨fun cls d H' => ∃ C dx : Addr, cls = .ref C ∧ d = some dx ∧ mg "BadMoves" = some (.ref C) ∧ ExcC K C ∧ Same H H' ∧ H' dx = some (.xd [("place", .int (i : Nat))]),
      fun H0 Qx s0 _ => h _ H0 Qx s0 fun C H' dx hm hC s' e => ⟨C, dx, rfl, rfl, hm, hC, s0.trans s', e⟩,
      fun cls d H' ⟨C, dx, e1, e2, hm, hC, s', e⟩ => ⟨"moves", .int (i : Nat), ⟨"BadMoves", "place", C, dx, by simp, hm, hC, e1, e2, e⟩, fun H2 r s2 hr => q H2 r (s'.trans s2) hr⟩⟩
end
theorem DpAll.rep {K : PySem.W.Frag} {H : Hp} {v : V} {d : PyData} (h : Dp K H v d) : ∀ n : Nat, DpAll K H (List.replicate n v) (List.replicate n d)
  | 0 => .nil
  | n + 1 => .cons h (DpAll.rep h n)
/-! ### the law's moves by hand -/
def F2 : Fld := ⟨["a", "b"], [("a", "b")]⟩
def putB : PyData := .tuple [.str "put", .int 0, .tuple [.str "b", .int 1]]
def chg0 : PyData := .tuple [.str "change", .int 0]
def prt (t : Int) : PyData := .tuple [.str "part", .int 0, .int t]
def putA : PyData := .tuple [.str "put", .int 0, .tuple [.str "a", .int (0 - 10 ^ 30 - 1)]]
theorem F2_ok : F2.Ok := by
  constructor <;> decide +kernel
def okLen (o : Except Nat Rw) (n : Nat) : Bool := match o with
  | .ok l => l.length == n
  | .error _ => false
def okIs (o : Except Nat Rw) (l : Rw) : Bool := match o with
  | .ok m => decide (m = l)
  | .error _ => false
def errAt (o : Except Nat Rw) (n : Nat) : Bool := match o with
  | .ok _ => false
  | .error i => i == n
theorem okLen_e {o : Except Nat Rw} {n : Nat} (h : okLen o n = true) : ∃ l, o = .ok l ∧ l.length = n := by
  cases o with
  | ok l => exact ⟨l, rfl, eq_of_beq h⟩
  | error i => cases h
theorem okIs_e {o : Except Nat Rw} {l : Rw} (h : okIs o l = true) : o = .ok l := by
  cases o with
  | ok m => rw [show m = l from of_decide_eq_true h]
  | error i => cases h
theorem errAt_e {o : Except Nat Rw} {n : Nat} (h : errAt o n = true) : o = .error n := by
  cases o with
  | ok m => cases h
  | error i => rw [show i = n from eq_of_beq h]
abbrev uB : Str × Int := ("b", 1)
abbrev uC : Str × Int := ("b", -1)
abbrev uD : Str × Int := ("b", 5)
abbrev uE : Str × Int := ("b", -4)
def pb : Nat → Rw → Rw
  | 0, l => l
  | n + 1, l => pb n (uB :: uC :: l)
theorem pb_len : ∀ (n : Nat) (l : Rw), (pb n l).length = l.length + 2 * n
  | 0, l => rfl
  | n + 1, l => by
    show (pb n (uB :: uC :: l)).length = _
    rw [pb_len n, List.length_cons, List.length_cons]
    omega
theorem pb_head : ∀ (n : Nat) (l : Rw), 0 < n → ∃ r, pb n l = uB :: r
  | 0, _, h => absurd h (by decide)
  | 1, l, _ => ⟨_, rfl⟩
  | n + 2, l, _ => pb_head (n + 1) _ (by omega)
theorem mv_put (l : Rw) : amvL F2 l putB = if l.length + 2 ≤ 400 then some (uB :: uC :: l) else none := by
  rw [show amvL F2 l putB = capL (if ("put" : Str) = "part" then prtL l 0 (.tuple [.str "b", .int 1]) else if ("put" : Str) = "put" then putL F2 l 0 (.tuple [.str "b", .int 1]) else none) from amv3]
  rw [if_neg (by decide), if_pos rfl]
  have e : putL F2 l 0 (.tuple [.str "b", .int 1]) = some (uB :: uC :: l) := by
    unfold putL
    rw [if_pos ⟨by omega, by omega⟩]
    show (if stepD F2.names (.tuple [.str "b", .int 1]) = true then _ else _) = _
    rw [if_pos (by decide +kernel)]
    rfl
  rw [e]
  rfl
theorem mvs_put : ∀ (n : Nat) (l : Rw) (i : Nat) (ds : List PyData), l.length + 2 * n ≤ 400 → mvsL F2 l i (List.replicate n putB ++ ds) = mvsL F2 (pb n l) (i + n) ds
  | 0, _, _, _, _ => rfl
  | n + 1, l, i, ds, h => by
    show (match amvL F2 l putB with
      | some l' => mvsL F2 l' (i + 1) (List.replicate n putB ++ ds)
      | none => .error i) = _
    rw [mv_put, if_pos (by omega)]
    show mvsL F2 (uB :: uC :: l) (i + 1) (List.replicate n putB ++ ds) = _
    rw [mvs_put n _ _ _ (by rw [List.length_cons, List.length_cons]; omega), show i + 1 + n = i + (n + 1) by omega]
    rfl
theorem mv1 : ∃ l, mvsL F2 [("a", 1)] 0 (List.replicate 199 putB) = .ok l ∧ l.length = 399 := by
  have h := mvs_put 199 [("a", 1)] 0 [] (by decide)
  rw [List.append_nil] at h
  exact ⟨_, h, pb_len _ _⟩
theorem mv2 : mvsL F2 [("a", 1)] 0 (List.replicate 200 putB) = .error 199 := by
  rw [show List.replicate 200 putB = List.replicate 199 putB ++ [putB] from List.replicate_succ' .., mvs_put 199 [("a", 1)] 0 [putB] (by decide)]
  show (match amvL F2 (pb 199 [("a", 1)]) putB with
    | some l' => mvsL F2 l' (0 + 199 + 1) []
    | none => .error (0 + 199)) = _
  rw [mv_put, if_neg (by rw [pb_len]; decide)]
theorem mv3 : ∃ l, mvsL F2 [("a", 1), ("a", 5)] 0 (List.replicate 199 putB) = .ok l ∧ l.length = 400 := by
  have h := mvs_put 199 [("a", 1), ("a", 5)] 0 [] (by decide)
  rw [List.append_nil] at h
  exact ⟨_, h, pb_len _ _⟩
theorem mv4 : mvsL F2 [("a", 1), ("a", 5)] 0 (List.replicate 199 putB ++ [prt 5]) = .error 199 := by
  rw [mvs_put 199 [("a", 1), ("a", 5)] 0 [prt 5] (by decide)]
  have hl := pb_len 199 [("a", 1), ("a", 5)]
  obtain ⟨r, hr⟩ := pb_head 199 [("a", 1), ("a", 5)] (by decide)
  rw [hr] at hl ⊢
  show (match amvL F2 (uB :: r) (prt 5) with
    | some l' => mvsL F2 l' (0 + 199 + 1) []
    | none => .error (0 + 199)) = _
  have e : amvL F2 (uB :: r) (prt 5) = none := by
    rw [show amvL F2 (uB :: r) (prt 5) = capL (if ("part" : Str) = "part" then prtL (uB :: r) 0 (.int 5) else if ("part" : Str) = "put" then putL F2 (uB :: r) 0 (.int 5) else none) from amv3]
    rw [if_pos rfl]
    have e : prtL (uB :: r) 0 (.int 5) = some (uD :: uE :: r) := by
      unfold prtL
      rw [if_pos ⟨by omega, by rw [List.length_cons]; omega⟩]
      show (if timesD (.int 5) = true ∧ (5 : Int) ≠ 1 then _ else _) = _
      rw [if_pos (by decide +kernel)]
      rfl
    rw [e]
    show (if (uD :: uE :: r).length ≤ 400 then _ else _) = _
    rw [if_neg (by rw [List.length_cons] at hl; simp only [List.length_cons, List.length_nil] at hl ⊢; omega)]
  rw [e]
theorem mv5 : mvsL F2 [("a", 1)] 0 [prt (0 - 10 ^ 30 - 1)] = .error 0 := errAt_e (by decide +kernel)
theorem mv6 : mvsL F2 [("a", 1)] 0 [putA] = .error 0 := errAt_e (by decide +kernel)
theorem mv7 : mvsL F2 [("a", 1)] 0 [prt (0 - 10 ^ 30)] = .ok [("a", 0 - 10 ^ 30), ("a", 10 ^ 30 + 1)] := okIs_e (by decide +kernel)
theorem mv_chg1 : okIs (mvsL F2 [("a", 1), ("b", 2)] 0 [chg0]) [("b", 2), ("a", 1)] = true := by decide +kernel
theorem mv_chg2 : okIs (mvsL F2 [("b", 2), ("a", 1)] 0 [chg0]) [("a", 1), ("b", 2)] = true := by decide +kernel
theorem amv_of {F : Fld} {l l' : Rw} {i : Nat} {d : PyData} (h : mvsL F l i [d] = .ok l') : amvL F l d = some l' := by
  have h : (match amvL F l d with
    | some z => mvsL F z (i + 1) []
    | none => .error i) = .ok l' := h
  cases e : amvL F l d with
  | none => rw [e] at h; cases h
  | some z =>
    rw [e] at h
    have h : (Except.ok z : Except Nat Rw) = .ok l' := h
    cases h
    rfl
theorem mv_chg : ∀ (n i : Nat), mvsL F2 [("a", 1), ("b", 2)] i (List.replicate (2 * n) chg0) = .ok [("a", 1), ("b", 2)]
  | 0, _ => rfl
  | n + 1, i => by
    rw [show 2 * (n + 1) = 2 * n + 1 + 1 by omega]
    show (match amvL F2 [("a", 1), ("b", 2)] chg0 with
      | some z => mvsL F2 z (i + 1) (chg0 :: List.replicate (2 * n) chg0)
      | none => .error i) = _
    rw [amv_of (okIs_e mv_chg1)]
    show (match amvL F2 [("b", 2), ("a", 1)] chg0 with
      | some z => mvsL F2 z (i + 1 + 1) (List.replicate (2 * n) chg0)
      | none => .error (i + 1)) = _
    rw [amv_of (okIs_e mv_chg2)]
    exact mv_chg n _
theorem mv8 : mvsL F2 [("a", 1), ("b", 2)] 0 (List.replicate 5000 chg0) = .ok [("a", 1), ("b", 2)] := mv_chg 2500 0
end XB
set_option Elab.async false
set_option linter.all false
set_option maxRecDepth 100000
set_option maxHeartbeats 8000000
namespace XB
open PySem PySem.Spec PyProof.Rows L2
section
variable {P : Program} {w : World} {K : PySem.W.Frag} {mg : Str → Option Value} {base : Heap}
theorem shB : SeqAt.shaped putB = true := by decide +kernel
theorem tup_of {K : PySem.W.Frag} {H : Hp} {v : V} {ds : List PyData} (h : Dp K H v (.tuple ds)) : ∃ a xs, v = .ref a ∧ SqT K H a xs ∧ DpAll K H xs ds := by
  cases h with
  | tup h1 h2 => exact ⟨_, _, rfl, h1, h2⟩
theorem good_by {F : Fld} {l : Rw} (h : (decide (l.length ≤ 60) && l.all fun s => F.names.contains s.1 && (decide (s.2 ≠ 0) && (decide (-(10 ^ 30) ≤ s.2) && decide (s.2 ≤ 10 ^ 30)))) = true) : GoodScript F l := by
  rw [Bool.and_eq_true, List.all_eq_true] at h
  refine ⟨of_decide_eq_true h.1, fun s hs => ?_⟩
  have := h.2 s hs
  rw [Bool.and_eq_true, Bool.and_eq_true, Bool.and_eq_true] at this
  exact ⟨List.contains_iff_mem.mp this.1, of_decide_eq_true this.2.1, of_decide_eq_true this.2.2.1, of_decide_eq_true this.2.2.2⟩
theorem tabs_put {TT : List (Addr × Str)} {H : Hp} {L : Addr} {xs : List V} {o : HO} (t : LamX.Tabs TT H) (e : H L = some (.lst xs)) : LamX.Tabs TT (upd H L o) := fun p hp => by
  obtain ⟨ps, h1, h2, h3⟩ := t p hp
  have n1 : p.1 ≠ L := fun z => by
    rw [z, e] at h1
    cases h1
  refine ⟨ps, by rw [upd_ne n1]; exact h1, h2, fun pos cv hc => ?_⟩
  obtain ⟨c, e1, e2⟩ := h3 pos cv hc
  refine ⟨c, e1, ?_⟩
  rw [upd_ne fun z => by
    rw [z, e] at e2
    unfold LamX.CodeO at e2
    cases e2]
  exact e2
def qBR : Str := "_law_bounds_right" ++ ".<locals>." ++ "<lambda>"
def spBR (K : PySem.W.Frag) (TT : List (Addr × Str)) : Sp := fun vs H Q _ => vs = [] ∧ LamX.Tabs TT H ∧ ∀ H', Q (.bl true) H'
theorem c__law_bounds_right (T : Tx K mg) {c tab : Addr} {TT : List (Addr × Str)} (CT : CodeT K mg base "_law_bounds_right" c tab) (hmT : (tab, qBR) ∈ TT) (huT : ∀ y ∈ TT, y.1 = tab → y.2 = qBR) : Cl P w K mg base CX0 9 "_law_bounds_right" (spBR K TT) := by
  refine clC T.d__law_bounds_right CT (ps := []) (fun _ _ _ _ _ _ us hl => match us, hl with | [], _ => rfl) sc__law_bounds_right (fun vs H Q E h => ?_) (fun f A outer st H vs Q E hr h => ?_)
  · obtain ⟨rfl, _⟩ := h
    rfl
  · obtain ⟨rfl, hT, q⟩ := h
    have nd := sc__law_bounds_right.nd
    have C30 : CPow 10 30 := ⟨by decide, by decide, by decide⟩
    refine ⟨_, (pss_cons (ps_set (i := 0) nd rfl (.inr rfl) (pe_tup (pa_cons (pe_tup (pa_cons pe_str (pa_cons pe_str pa_nil))) (pa_cons (pe_tup (pa_cons (pe_tup (pa_cons pe_str (pa_cons pe_str pa_nil))) pa_nil)) pa_nil))))
    (pss_cons (ps_if (pt_cmpR op_ne (pe_lenS (by rfl) T.b_len (pe_kL (c_moved T) hr (by decide) (by rfl) (pa_cons (pv 0) (pa_cons (pe_tup (pa_cons (pe_tup (pa_cons pe_str (pa_cons pe_int pa_nil))) pa_nil)) (pa_cons (pe_op (op_mulM (K := K) rfl) (pe_tup (pa_cons (pe_tup (pa_cons pe_str (pa_cons pe_int (pa_cons (pe_tup (pa_cons pe_str (pa_cons pe_int pa_nil))) pa_nil)))) pa_nil)) pe_int) pa_nil))))) pe_int (nomark _)) (pss_one (ps_ret pe_bl)) pss_nil)
    (pss_cons (ps_if (pt_cmpR (op_neD hr.units) (pe_heardT T (by rfl) CT.tb rfl hmT huT hr (LamX.lamS_by (sc := defScope s__law_bounds_right) (by decide +kernel)) rfl (fun _ _ _ _ _ => rfl) (fun A2 outer2 st2 H2 E2 f2 c2 hr2 => (pe_kX (c_moved T) hr2 (by decide) (takes_of rfl rfl rfl rfl) (by rfl) (pa_cons (pv 0) (pa_cons (pe_tup (pa_cons (pe_tup (pa_cons pe_str (pa_cons pe_int pa_nil))) pa_nil)) (pa_cons (pe_op (op_mulM (K := K) rfl) (pe_tup (pa_cons (pe_tup (pa_cons pe_str (pa_cons pe_int (pa_cons (pe_tup (pa_cons pe_str (pa_cons pe_int pa_nil))) pa_nil)))) pa_nil)) pe_int) pa_nil)))))) (pe_tup (pa_cons pe_str (pa_cons pe_int pa_nil))) (nomark _)) (pss_one (ps_ret pe_bl)) pss_nil)
    (pss_cons (ps_asg (pe_tup (pa_cons (pe_op op_pow pe_int pe_int) (pa_cons (pe_op (op_mulM (K := K) rfl) (pe_tup (pa_cons (pe_tup (pa_cons pe_str (pa_cons pe_int (pa_cons (pe_tup (pa_cons pe_str (pa_cons pe_int pa_nil))) pa_nil)))) pa_nil)) pe_int) pa_nil))) (pg_tup rfl (pgs_cons (pg_name (i := 1) nd rfl (.inr rfl)) (pgs_cons (pg_name (i := 2) nd rfl (.inr rfl)) pgs_nil))))
    (pss_cons (ps_if (pt_cmpR op_ne (pe_lenS (by rfl) T.b_len (pe_kL (c_moved T) hr (by decide) (by rfl) (pa_cons (pv 0) (pa_cons (pe_tup (pa_cons (pe_tup (pa_cons pe_str (pa_cons pe_int pa_nil))) (pa_cons (pe_tup (pa_cons pe_str (pa_cons pe_int pa_nil))) pa_nil))) (pa_cons (pv 2) pa_nil))))) pe_int (nomark _)) (pss_one (ps_ret pe_bl)) pss_nil)
    (pss_cons (ps_set (i := 3) nd rfl (.inl rfl) (pe_lst (pa_cons (pe_heardT T (by rfl) CT.tb rfl hmT huT hr (LamX.lamS_by (sc := defScope s__law_bounds_right) (by decide +kernel)) rfl (fun _ _ _ _ _ => rfl) (fun A2 outer2 st2 H2 E2 f2 c2 hr2 => (pe_kX (c_moved T) hr2 (by decide) (takes_of rfl rfl rfl rfl) (by rfl) (pa_cons (pv 0) (pa_cons (pe_tup (pa_cons (pe_tup (pa_cons pe_str (pa_cons pe_int pa_nil))) (pa_cons (pe_tup (pa_cons pe_str (pa_cons pe_int pa_nil))) pa_nil))) (pa_cons (pe_op (op_catAk (K := K) rfl) (pv 2) (pe_tup (pa_cons (pe_tup (pa_cons pe_str (pa_cons pe_int (pa_cons pe_int pa_nil)))) pa_nil))) pa_nil)))))) pa_nil)))
    (pss_cons (ps_expr (pe_bm PySem.F.plainAttrs_list PySem.F.slot_list_append PySem.F.type_list_append mt_append (pv 3) (pa_cons (pe_heardT T (by rfl) CT.tb rfl hmT huT hr (LamX.lamS_by (sc := defScope s__law_bounds_right) (by decide +kernel)) rfl (fun _ _ _ _ _ => rfl) (fun A2 outer2 st2 H2 E2 f2 c2 hr2 => (pe_kX (c_moved T) hr2 (by decide) (takes_of rfl rfl rfl rfl) (by rfl) (pa_cons (pv 0) (pa_cons (pe_tup (pa_cons (pe_tup (pa_cons pe_str (pa_cons pe_int pa_nil))) pa_nil)) (pa_cons (pe_tup (pa_cons (pe_tup (pa_cons pe_str (pa_cons pe_int (pa_cons (pe_op op_sub (pe_op op_sub pe_int (pv 1)) pe_int) pa_nil)))) pa_nil)) pa_nil)))))) pa_nil)))
    (pss_cons (ps_expr (pe_bm PySem.F.plainAttrs_list PySem.F.slot_list_append PySem.F.type_list_append mt_append (pv 3) (pa_cons (pe_heardT T (by rfl) CT.tb rfl hmT huT hr (LamX.lamS_by (sc := defScope s__law_bounds_right) (by decide +kernel)) rfl (fun _ _ _ _ _ => rfl) (fun A2 outer2 st2 H2 E2 f2 c2 hr2 => (pe_kX (c_moved T) hr2 (by decide) (takes_of rfl rfl rfl rfl) (by rfl) (pa_cons (pv 0) (pa_cons (pe_tup (pa_cons (pe_tup (pa_cons pe_str (pa_cons pe_int pa_nil))) pa_nil)) (pa_cons (pe_tup (pa_cons (pe_tup (pa_cons pe_str (pa_cons pe_int (pa_cons (pe_tup (pa_cons pe_str (pa_cons (pe_op op_sub (pe_op op_sub pe_int (pv 1)) pe_int) pa_nil))) pa_nil)))) pa_nil)) pa_nil)))))) pa_nil)))
    (pss_cons (ps_if (pt_cmpR (op_neD hr.units) (pv 3) (pe_lst (pa_cons (pe_tup (pa_cons pe_str (pa_cons pe_int pa_nil))) (pa_cons (pe_tup (pa_cons pe_str (pa_cons pe_int pa_nil))) (pa_cons (pe_tup (pa_cons pe_str (pa_cons pe_int pa_nil))) pa_nil)))) (nomark _)) (pss_one (ps_ret pe_bl)) pss_nil)
    (pss_cons (ps_if (pt_cmpR (op_neD hr.units) (pe_kL (c_moved T) hr (by decide) (by rfl) (pa_cons (pv 0) (pa_cons (pe_tup (pa_cons (pe_tup (pa_cons pe_str (pa_cons pe_int pa_nil))) pa_nil)) (pa_cons (pe_tup (pa_cons (pe_tup (pa_cons pe_str (pa_cons pe_int (pa_cons (pe_op op_sub pe_int (pv 1)) pa_nil)))) pa_nil)) pa_nil)))) (pe_tup (pa_cons (pe_tup (pa_cons pe_str (pa_cons (pe_op op_sub pe_int (pv 1)) pa_nil))) (pa_cons (pe_tup (pa_cons pe_str (pa_cons (pe_op op_add (pv 1) pe_int) pa_nil))) pa_nil))) (nomark _)) (pss_one (ps_ret pe_bl)) pss_nil)
    (pss_cons (ps_set (i := 4) nd rfl (.inl rfl) (pe_op (op_mulM (K := K) rfl) (pe_tup (pa_cons (pe_tup (pa_cons pe_str (pa_cons pe_int pa_nil))) pa_nil)) pe_int))
    (pss_one (ps_ret (pe_cmpR (op_eqD hr.units) (pe_kL (c_moved T) hr (by decide) (by rfl) (pa_cons (pv 0) (pa_cons (pe_tup (pa_cons (pe_tup (pa_cons pe_str (pa_cons pe_int pa_nil))) (pa_cons (pe_tup (pa_cons pe_str (pa_cons pe_int pa_nil))) pa_nil))) (pa_cons (pv 4) pa_nil)))) (pe_tup (pa_cons (pe_tup (pa_cons pe_str (pa_cons pe_int pa_nil))) (pa_cons (pe_tup (pa_cons pe_str (pa_cons pe_int pa_nil))) pa_nil))) (nomark _))))))))))))))), ?_⟩
    --@
    refine ⟨two_sz, fun p1 n1 => upd_gen n1 fun J1 j1 e1 => ⟨two_sz, fun p2 n2 => upd_gen n2 fun J2 j2 e2 => ⟨one_sz, fun p3 n3 => upd_gen n3 fun J3 j3 e3 => ⟨two_sz, fun p4 n4 => upd_gen n4 fun J4 j4 e4 => ?_⟩⟩⟩⟩
    have hF : Dp K J4 (.ref p4) (dField F2) := .tup (SqT.of e4) (.cons (.tup ((Tk.of (j2.trans (j3.trans j4))).sqT (SqT.of e1)) (.cons (.str _) (.cons (.str _) .nil))) (.cons (.tup ((Tk.of j4).sqT (SqT.of e3)) (.cons (.tup ((Tk.of (j3.trans j4)).sqT (SqT.of e2)) (.cons (.str _) (.cons (.str _) .nil))) .nil)) .nil))
    have hT4 := LamX.Tabs.ext hT (j1.trans (j2.trans (j3.trans j4)))
    have gA : GoodScript F2 [("a", 1)] := good_by (by decide +kernel)
    -- 199 puts
    refine ⟨_, rfl, two_sz, fun a1 m1 => upd_gen m1 fun L1 l1 f1 => ⟨one_sz, fun a2 m2 => upd_gen m2 fun L2 l2 f2 => ⟨two_sz, fun a3 m3 => upd_gen m3 fun L3 l3 f3 => ⟨three_sz, fun a4 m4 => upd_gen m4 fun L4 l4 f4 => ⟨one_sz, fun a5 m5 => upd_gen m5 fun L5 l5 f5 => ⟨a5, 199, .ref a4, rfl, rfl, SqT.of f5, by decide, by decide, fun L6 a6 l6 h6 => ?_⟩⟩⟩⟩⟩⟩
    have l46 : Same L4 L6 := l5.trans l6
    have l36 : Same L3 L6 := l4.trans l46
    have l26 : Same L2 L6 := l3.trans l36
    have l16 : Same L1 L6 := l2.trans l26
    have l06 := l1.trans l16
    have dA : Dp K L6 (.ref a2) (dSteps [("a", 1)]) := .tup ((Tk.of l26).sqT (SqT.of f2)) (.cons (Dp.of_step (s := ("a", 1)) ((Tk.of l16).sqT (SqT.of f1))) .nil)
    have dM : Dp K L6 (.ref a4) putB := .tup ((Tk.of l46).sqT (SqT.of f4)) (.cons (.str _) (.cons (.int _) (.cons (.tup ((Tk.of l36).sqT (SqT.of f3)) (.cons (.str _) (.cons (.int _) .nil))) .nil)))
    obtain ⟨r1, er1, lr1⟩ := mv1
    refine ⟨p4, a2, a6, F2, _, _, rfl, tF hF l06, F2_ok, dA, gA, .tup h6 (DpAll.rep dM 199), fun d hd => by rw [List.eq_of_mem_replicate hd]; exact shB, by decide, ?_⟩
    rw [er1]
    intro L7 b7 l7 h7
    obtain ⟨_, xs7, ev, hS7, hV7⟩ := tup_of h7
    cases ev
    have lx7 := hV7.len
    rw [List.length_map, lr1] at lx7
    refine ⟨b7, xs7, rfl, .inr hS7, ?_⟩
    rw [lx7]
    refine ⟨rfl, _, rfl, iteF ?_⟩
    have j47 := l06.trans l7
    have hF7 := tF hF j47
    have hT7 := hT4.ext j47
    clear hT4 hF e1 e2 e3 e4 f1 f2 f3 f4 f5 h6 h7 hS7 hV7 dA dM
    -- 200 puts
    refine ⟨hT7, fun K1 x1 T1 => heard_moves (o := .error 199) (fun E1 M0 Qx s0 o => ?_) (fun M1 r s1 hr1 => ?_)⟩
    · have hF0 := tF (Dp.ext x1 _ hF7) s0
      refine ⟨_, rfl, two_sz, fun a1 m1 => upd_gen m1 fun L1 l1 f1 => ⟨one_sz, fun a2 m2 => upd_gen m2 fun L2 l2 f2 => ⟨two_sz, fun a3 m3 => upd_gen m3 fun L3 l3 f3 => ⟨three_sz, fun a4 m4 => upd_gen m4 fun L4 l4 f4 => ⟨one_sz, fun a5 m5 => upd_gen m5 fun L5 l5 f5 => ⟨a5, 200, .ref a4, rfl, rfl, SqT.of f5, by decide, by decide, fun L6 a6 l6 h6 => ?_⟩⟩⟩⟩⟩⟩
      have l46 : Same L4 L6 := l5.trans l6
      have l36 : Same L3 L6 := l4.trans l46
      have l26 : Same L2 L6 := l3.trans l36
      have l16 : Same L1 L6 := l2.trans l26
      have l06 := l1.trans l16
      have dA : Dp K L6 (.ref a2) (dSteps [("a", 1)]) := .tup ((Tk.of l26).sqT (SqT.of f2)) (.cons (Dp.of_step (s := ("a", 1)) ((Tk.of l16).sqT (SqT.of f1))) .nil)
      have dM : Dp K L6 (.ref a4) putB := .tup ((Tk.of l46).sqT (SqT.of f4)) (.cons (.str _) (.cons (.int _) (.cons (.tup ((Tk.of l36).sqT (SqT.of f3)) (.cons (.str _) (.cons (.int _) .nil))) .nil)))
      refine ⟨p4, a2, a6, F2, _, _, rfl, tF hF0 l06, F2_ok, dA, gA, .tup h6 (DpAll.rep dM 200), fun d hd => by rw [List.eq_of_mem_replicate hd]; exact shB, by decide, ?_⟩
      rw [mv2]
      exact outM_mono o l06
    have hF1 := tF (Dp.ext x1 _ hF7) s1
    have hT1 := T1.ext s1
    refine ⟨two_sz, fun t1 m1 => upd_gen m1 fun M2 s2 g2 => ?_⟩
    refine ⟨.tuple [.str "moves", .int 199], .tuple [.str "moves", .int 199], .tup ((Tk.of s2).sqT hr1) (.cons (.str _) (.cons (.int _) .nil)), .tup (SqT.of g2) (.cons (.str _) (.cons (.int _) .nil)), by decide +kernel, by decide +kernel, ?_⟩
    refine ⟨_, rfl, iteF ?_⟩
    have hF2 := tF hF1 s2
    have hT2 := hT1.ext s2
    clear hF1 hT1 hF7 hT7 g2 hr1 T1
    -- great, puts
    refine ⟨_, _, rfl, rfl, C30, two_sz, fun a3 m3 => upd_gen m3 fun L3 l3 f3 => ⟨three_sz, fun a4 m4 => upd_gen m4 fun L4 l4 f4 => ⟨one_sz, fun a5 m5 => upd_gen m5 fun L5 l5 f5 => ⟨a5, 199, .ref a4, rfl, rfl, SqT.of f5, by decide, by decide, fun L6 a6 l6 h6 => ⟨two_sz, fun a7 m7 => upd_gen m7 fun L7 l7 f7 => ⟨a7, _, rfl, SqT.of f7, rfl, _, _, rfl, _, _, rfl, rfl, ?_⟩⟩⟩⟩⟩⟩
    have l57 : Same L4 L7 := l5.trans (l6.trans l7)
    have hF3 := tF hF2 (l3.trans (l4.trans l57))
    have hT3 := hT2.ext (l3.trans (l4.trans l57))
    have dP : Dp K L7 (.ref a6) (.tuple (List.replicate 199 putB)) := .tup ((Tk.of l7).sqT h6) (DpAll.rep (.tup ((Tk.of l57).sqT (SqT.of f4)) (.cons (.str _) (.cons (.int _) (.cons (.tup ((Tk.of (l4.trans l57)).sqT (SqT.of f3)) (.cons (.str _) (.cons (.int _) .nil))) .nil)))) 199)
    clear hF2 hT2 f3 f4 f5 f7 h6
    have gB : GoodScript F2 [("a", 1), ("a", 5)] := good_by (by decide +kernel)
    refine ⟨_, rfl, two_sz, fun a1 m1 => upd_gen m1 fun N1 z1 g1 => ⟨two_sz, fun a2 m2 => upd_gen m2 fun N2 z2 g2 => ⟨two_sz, fun a8 m8 => upd_gen m8 fun N3 z3 g3 => ⟨_, rfl, ?_⟩⟩⟩⟩
    have z03 := z1.trans (z2.trans z3)
    have dB : Dp K N3 (.ref a8) (dSteps [("a", 1), ("a", 5)]) := .tup (SqT.of g3) (.cons (Dp.of_step (s := ("a", 1)) ((Tk.of (z2.trans z3)).sqT (SqT.of g1))) (.cons (Dp.of_step (s := ("a", 5)) ((Tk.of z3).sqT (SqT.of g2))) .nil))
    obtain ⟨r3, er3, lr3⟩ := mv3
    refine ⟨p4, a8, a6, F2, _, _, rfl, tF hF3 z03, F2_ok, dB, gB, Dp.sm z03 _ dP, fun d hd => by rw [List.eq_of_mem_replicate hd]; exact shB, by decide, ?_⟩
    rw [er3]
    intro N4 b4 z4 h4
    obtain ⟨_, xs4, ev, hS4, hV4⟩ := tup_of h4
    cases ev
    have lx4 := hV4.len
    rw [List.length_map, lr3] at lx4
    refine ⟨b4, xs4, rfl, .inr hS4, ?_⟩
    rw [lx4]
    refine ⟨rfl, _, rfl, iteF ?_⟩
    have hF4 := tF hF3 (z03.trans z4)
    have hT4 := hT3.ext (z03.trans z4)
    have dP4 := Dp.sm (z03.trans z4) _ dP
    clear hF3 hT3 dP h4 hS4 hV4 dB g1 g2 g3
    -- one part more
    refine ⟨hT4, fun K1 x1 T1 => heard_moves (o := .error 199) (fun E1 M0 Qx s0 o => ?_) (fun M1 r s1 hr1 => ?_)⟩
    · have hF0 := tF (Dp.ext x1 _ hF4) s0
      have dP0 := Dp.sm s0 _ (Dp.ext x1 _ dP4)
      refine ⟨_, rfl, two_sz, fun a1 m1 => upd_gen m1 fun N1 z1 g1 => ⟨two_sz, fun a2 m2 => upd_gen m2 fun N2 z2 g2 => ⟨two_sz, fun a8 m8 => upd_gen m8 fun N3 z3 g3 => ⟨_, rfl, three_sz, fun a9 m9 => upd_gen m9 fun N4 z4 g4 => ⟨one_sz, fun a0 m0 => upd_gen m0 fun N5 z5 g5 => ?_⟩⟩⟩⟩⟩
      have z05 := z1.trans (z2.trans (z3.trans (z4.trans z5)))
      obtain ⟨_, xsP, ev, hSP, hVP⟩ := tup_of (Dp.sm z05 _ dP0)
      cases ev
      have lxP := hVP.len
      rw [List.length_replicate] at lxP
      have dB : Dp K N5 (.ref a8) (dSteps [("a", 1), ("a", 5)]) := .tup ((Tk.of (z4.trans z5)).sqT (SqT.of g3)) (.cons (Dp.of_step (s := ("a", 1)) ((Tk.of (z2.trans (z3.trans (z4.trans z5)))).sqT (SqT.of g1))) (.cons (Dp.of_step (s := ("a", 5)) ((Tk.of (z3.trans (z4.trans z5))).sqT (SqT.of g2))) .nil))
      have dQ : Dp K N5 (.ref a9) (prt 5) := .tup ((Tk.of z5).sqT (SqT.of g4)) (.cons (.str _) (.cons (.int _) (.cons (.int _) .nil)))
      refine catA hSP (SqT.of g5) (Nat.le_of_lt (small1000 (by rw [lxP]; exact (by decide : 199 + 1 ≤ 1000)))) fun N6 a10 z6 h6 => ?_
      refine ⟨p4, a8, a10, F2, _, _, rfl, tF hF0 (z05.trans z6), F2_ok, tS dB z6, gB, .tup h6 ((DpAll.sm z6 _ hVP).app (.cons (Dp.sm z6 _ dQ) .nil)), fun d hd => ?_, by decide, ?_⟩
      · rcases List.mem_append.mp hd with h | h
        · rw [List.eq_of_mem_replicate h]
          exact shB
        · rw [List.mem_singleton.mp h]
          decide +kernel
      · rw [mv4]
        exact outM_mono o (z05.trans z6)
    have hF5 := tF (Dp.ext x1 _ hF4) s1
    have hT5 := T1.ext s1
    refine ⟨one_sz, fun L nL => upd_gen nL fun M2 s2 e2 => ?_⟩
    have hr2 := (Tk.of s2).sqT hr1
    have hF6 := tF hF5 s2
    have hT6 := hT5.ext s2
    clear hF4 hT4 dP4 hF5 hT5 hr1 T1
    -- a part too great
    refine ⟨_, rfl, .inl ⟨rfl, _, SqL.of e2⟩, hT6, fun K2 x2 T2 => heard_moves (o := .error 0) (fun E1 M0 Qx s0 o => ?_) (fun M3 r3 s3 hr3 => ?_)⟩
    · have hF0 := tF (Dp.ext x2 _ hF6) s0
      refine ⟨_, rfl, two_sz, fun a1 m1 => upd_gen m1 fun N1 z1 g1 => ⟨one_sz, fun a2 m2 => upd_gen m2 fun N2 z2 g2 => ⟨_, rfl, _, _, rfl, rfl, _, _, rfl, rfl, three_sz, fun a3 m3 => upd_gen m3 fun N3 z3 g3 => ⟨one_sz, fun a4 m4 => upd_gen m4 fun N4 z4 g4 => ?_⟩⟩⟩⟩
      have z04 := z1.trans (z2.trans (z3.trans z4))
      have dA : Dp K N4 (.ref a2) (dSteps [("a", 1)]) := .tup ((Tk.of (z3.trans z4)).sqT (SqT.of g2)) (.cons (Dp.of_step (s := ("a", 1)) ((Tk.of (z2.trans (z3.trans z4))).sqT (SqT.of g1))) .nil)
      have dQ : Dp K N4 (.ref a3) (prt (0 - 10 ^ 30 - 1)) := .tup ((Tk.of z4).sqT (SqT.of g3)) (.cons (.str _) (.cons (.int _) (.cons (.int _) .nil)))
      refine ⟨p4, a2, a4, F2, _, _, rfl, tF hF0 z04, F2_ok, dA, gA, .tup (SqT.of g4) (.cons dQ .nil), fun d hd => ?_, by decide, ?_⟩
      · rw [List.mem_singleton.mp hd]
        decide +kernel
      · rw [mv5]
        exact outM_mono o z04
    refine ⟨L, [.ref r], _, rfl, rfl, s3 _ _ (extN_lst x2 e2), (show 1 < sizeLine from small1000 (by decide)), ?_⟩
    have eL3 := s3 _ _ (extN_lst x2 e2)
    have k3 := Tk.refl.lst (o := .lst ([.ref r] ++ [.ref r3])) eL3
    have hF7 := Dp.tk k3 _ (flat_field F2) (tF (Dp.ext x2 _ hF6) s3)
    have hT7 := tabs_put (o := .lst ([.ref r] ++ [.ref r3])) (T2.ext s3) eL3
    have hr4 := k3.sqT hr3
    have hr5 := k3.sqT ((Tk.of s3).sqT ((extN_tk x2).sqT hr2))
    have eL4 : upd M3 L (.lst ([.ref r] ++ [.ref r3])) L = some (.lst ([.ref r] ++ [.ref r3])) := upd_same
    generalize upd M3 L (.lst ([.ref r] ++ [.ref r3])) = M4 at hF7 hT7 hr4 hr5 eL4 ⊢
    clear k3 hF6 hT6 hr2 hr3 T2
    -- a put too great
    refine ⟨_, rfl, .inl ⟨rfl, _, SqL.of eL4⟩, hT7, fun K3 x3 T3 => heard_moves (o := .error 0) (fun E1 M0 Qx s0 o => ?_) (fun M5 r6 s5 hr6 => ?_)⟩
    · have hF0 := tF (Dp.ext x3 _ hF7) s0
      refine ⟨_, rfl, two_sz, fun a1 m1 => upd_gen m1 fun N1 z1 g1 => ⟨one_sz, fun a2 m2 => upd_gen m2 fun N2 z2 g2 => ⟨_, rfl, _, _, rfl, rfl, _, _, rfl, rfl, two_sz, fun a3 m3 => upd_gen m3 fun N3 z3 g3 => ⟨three_sz, fun a4 m4 => upd_gen m4 fun N4 z4 g4 => ⟨one_sz, fun a5 m5 => upd_gen m5 fun N5 z5 g5 => ?_⟩⟩⟩⟩⟩
      have z35 := z3.trans (z4.trans z5)
      have z05 := z1.trans (z2.trans z35)
      have dA : Dp K N5 (.ref a2) (dSteps [("a", 1)]) := .tup ((Tk.of z35).sqT (SqT.of g2)) (.cons (Dp.of_step (s := ("a", 1)) ((Tk.of (z2.trans z35)).sqT (SqT.of g1))) .nil)
      have dQ : Dp K N5 (.ref a4) putA := .tup ((Tk.of z5).sqT (SqT.of g4)) (.cons (.str _) (.cons (.int _) (.cons (.tup ((Tk.of (z4.trans z5)).sqT (SqT.of g3)) (.cons (.str _) (.cons (.int _) .nil))) .nil)))
      refine ⟨p4, a2, a5, F2, _, _, rfl, tF hF0 z05, F2_ok, dA, gA, .tup (SqT.of g5) (.cons dQ .nil), fun d hd => ?_, by decide, ?_⟩
      · rw [List.mem_singleton.mp hd]
        decide +kernel
      · rw [mv6]
        exact outM_mono o z05
    refine ⟨L, _, _, rfl, rfl, s5 _ _ (extN_lst x3 eL4), (show 2 < sizeLine from small1000 (by decide)), ?_⟩
    have eL5 := s5 _ _ (extN_lst x3 eL4)
    have k5 := Tk.refl.lst (o := .lst (([.ref r] ++ [.ref r3]) ++ [.ref r6])) eL5
    have hF8 := Dp.tk k5 _ (flat_field F2) (tF (Dp.ext x3 _ hF7) s5)
    have q3 := k5.sqT hr6
    have q2 := k5.sqT ((Tk.of s5).sqT ((extN_tk x3).sqT hr4))
    have q1 := k5.sqT ((Tk.of s5).sqT ((extN_tk x3).sqT hr5))
    have eL6 : upd M5 L (.lst (([.ref r] ++ [.ref r3]) ++ [.ref r6])) L = some (.lst (([.ref r] ++ [.ref r3]) ++ [.ref r6])) := upd_same
    generalize upd M5 L (.lst (([.ref r] ++ [.ref r3]) ++ [.ref r6])) = M6 at hF8 q3 q2 q1 eL6 ⊢
    -- what is heard
    refine ⟨_, rfl, two_sz, fun t1 m1 => upd_gen m1 fun N1 z1 g1 => ⟨two_sz, fun t2 m2 => upd_gen m2 fun N2 z2 g2 => ⟨two_sz, fun t3 m3 => upd_gen m3 fun N3 z3 g3 => ⟨three_sz, fun t4 m4 => upd_gen m4 fun N4 z4 g4 => ?_⟩⟩⟩⟩
    have z34 := z3.trans z4
    have z24 := z2.trans z34
    have z14 := z1.trans z24
    refine ⟨.list [.tuple [.str "moves", .int 199], .tuple [.str "moves", .int 0], .tuple [.str "moves", .int 0]], .list [.tuple [.str "moves", .int 199], .tuple [.str "moves", .int 0], .tuple [.str "moves", .int 0]],
      .lst (SqL.of (z14 _ _ eL6)) (.cons (.tup ((Tk.of z14).sqT q1) (.cons (.str _) (.cons (.int _) .nil))) (.cons (.tup ((Tk.of z14).sqT q2) (.cons (.str _) (.cons (.int _) .nil))) (.cons (.tup ((Tk.of z14).sqT q3) (.cons (.str _) (.cons (.int _) .nil))) .nil))),
      .lst (SqL.of g4) (.cons (.tup ((Tk.of z24).sqT (SqT.of g1)) (.cons (.str _) (.cons (.int _) .nil))) (.cons (.tup ((Tk.of z34).sqT (SqT.of g2)) (.cons (.str _) (.cons (.int _) .nil))) (.cons (.tup ((Tk.of z4).sqT (SqT.of g3)) (.cons (.str _) (.cons (.int _) .nil))) .nil))), by decide +kernel, by decide +kernel, ?_⟩
    refine ⟨_, rfl, iteF ?_⟩
    have hF9 := tF hF8 z14
    clear hF7 hF8 q1 q2 q3 eL6 eL5 k5 g1 g2 g3 g4 hT7 hr4 hr5 eL4
    -- a part as great as can be
    refine ⟨_, rfl, two_sz, fun a1 m1 => upd_gen m1 fun L1 l1 f1 => ⟨one_sz, fun a2 m2 => upd_gen m2 fun L2 l2 f2 => ⟨_, rfl, _, _, rfl, rfl, three_sz, fun a3 m3 => upd_gen m3 fun L3 l3 f3 => ⟨one_sz, fun a4 m4 => upd_gen m4 fun L4 l4 f4 => ?_⟩⟩⟩⟩
    have l04 := l1.trans (l2.trans (l3.trans l4))
    have dA : Dp K L4 (.ref a2) (dSteps [("a", 1)]) := .tup ((Tk.of (l3.trans l4)).sqT (SqT.of f2)) (.cons (Dp.of_step (s := ("a", 1)) ((Tk.of (l2.trans (l3.trans l4))).sqT (SqT.of f1))) .nil)
    have dQ : Dp K L4 (.ref a3) (prt (0 - 10 ^ 30)) := .tup ((Tk.of l4).sqT (SqT.of f3)) (.cons (.str _) (.cons (.int _) (.cons (.int _) .nil)))
    refine ⟨p4, a2, a4, F2, _, _, rfl, tF hF9 l04, F2_ok, dA, gA, .tup (SqT.of f4) (.cons dQ .nil), fun d hd => ?_, by decide, ?_⟩
    · rw [List.mem_singleton.mp hd]
      decide +kernel
    rw [mv7]
    intro L5 b5 l5 h5
    refine ⟨_, rfl, _, _, rfl, rfl, two_sz, fun t1 m1 => upd_gen m1 fun N1 z1 g1 => ⟨_, rfl, _, _, rfl, rfl, two_sz, fun t2 m2 => upd_gen m2 fun N2 z2 g2 => ⟨two_sz, fun t3 m3 => upd_gen m3 fun N3 z3 g3 => ?_⟩⟩⟩
    have z13 := z1.trans (z2.trans z3)
    refine ⟨_, dSteps [("a", 0 - 10 ^ 30), ("a", 10 ^ 30 + 1)], tS h5 z13, .tup (SqT.of g3) (.cons (Dp.of_step (s := ("a", 0 - 10 ^ 30)) ((Tk.of (z2.trans z3)).sqT (SqT.of g1))) (.cons (Dp.of_step (s := ("a", 10 ^ 30 + 1)) ((Tk.of z3).sqT (SqT.of g2))) .nil)), by decide +kernel, by decide +kernel, ?_⟩
    refine ⟨_, rfl, iteF ?_⟩
    have hFa := tF hF9 (l04.trans (l5.trans z13))
    clear hF9 dA dQ h5 f1 f2 f3 f4 g1 g2 g3
    -- 5000 changes
    refine ⟨two_sz, fun a1 m1 => upd_gen m1 fun L1 l1 f1 => ⟨one_sz, fun a2 m2 => upd_gen m2 fun L2 l2 f2 => ⟨a2, 5000, .ref a1, rfl, rfl, SqT.of f2, by decide, by decide, fun L3 a3 l3 h3 => ?_⟩⟩⟩
    refine ⟨_, rfl, two_sz, fun a4 m4 => upd_gen m4 fun L4 l4 f4 => ⟨two_sz, fun a5 m5 => upd_gen m5 fun L5 l5 f5 => ⟨two_sz, fun a6 m6 => upd_gen m6 fun L6 l6 f6 => ⟨_, rfl, ?_⟩⟩⟩⟩
    have l36 := l4.trans (l5.trans l6)
    have l16 := l2.trans (l3.trans l36)
    have dB : Dp K L6 (.ref a6) (dSteps [("a", 1), ("b", 2)]) := .tup (SqT.of f6) (.cons (Dp.of_step (s := ("a", 1)) ((Tk.of (l5.trans l6)).sqT (SqT.of f4))) (.cons (Dp.of_step (s := ("b", 2)) ((Tk.of l6).sqT (SqT.of f5))) .nil))
    have dC : Dp K L6 (.ref a1) chg0 := .tup ((Tk.of l16).sqT (SqT.of f1)) (.cons (.str _) (.cons (.int _) .nil))
    refine ⟨p4, a6, a3, F2, _, _, rfl, tF hFa (l1.trans l16), F2_ok, dB, good_by (by decide +kernel), .tup ((Tk.of l36).sqT h3) (DpAll.rep dC 5000), fun d hd => by rw [List.eq_of_mem_replicate hd]; decide +kernel, by rw [List.length_replicate]; decide, ?_⟩
    rw [mv8]
    intro L7 b7 l7 h7
    refine ⟨two_sz, fun t1 m1 => upd_gen m1 fun N1 z1 g1 => ⟨two_sz, fun t2 m2 => upd_gen m2 fun N2 z2 g2 => ⟨two_sz, fun t3 m3 => upd_gen m3 fun N3 z3 g3 => ?_⟩⟩⟩
    refine ⟨_, dSteps [("a", 1), ("b", 2)], tS h7 (z1.trans (z2.trans z3)), .tup (SqT.of g3) (.cons (Dp.of_step (s := ("a", 1)) ((Tk.of (z2.trans z3)).sqT (SqT.of g1))) (.cons (Dp.of_step (s := ("b", 2)) ((Tk.of z3).sqT (SqT.of g2))) .nil)), by decide +kernel, by decide +kernel, ?_⟩
    exact q _
end
end XB
set_option Elab.async false
set_option linter.all false
set_option maxRecDepth 100000
set_option maxHeartbeats 4000000
namespace XB
open PySem PySem.Spec PyProof.Rows L2
theorem Dr.ext {H H' : Hp} {m c g : Addr} {s : Int} (R : Dr H m c g s) (x : LamX.ExtN H H') : Dr H' m c g s := by
  obtain ⟨⟨cs, gs, em, ec, eg, gc, gl⟩, n, s0⟩ := R
  exact ⟨⟨cs, gs, x _ _ em (fun ps z => nomatch z), extN_lst x ec, extN_lst x eg, gc, gl⟩, n, s0⟩
theorem tabs_kp {TT : List (Addr × Str)} {H H' : Hp} {m c g : Addr} {s : Int} (t : LamX.Tabs TT H) (R : Dr H m c g s) (k : Kp m g H H') : LamX.Tabs TT H' := fun p hp => by
  obtain ⟨⟨cs, gs, em, ec, eg, gc, gl⟩, n, s0⟩ := R
  obtain ⟨ps, h1, h2, h3⟩ := t p hp
  refine ⟨ps, k _ _ (fun z => by rw [z, em] at h1; cases h1) (fun z => by rw [z, eg] at h1; cases h1) h1, h2, fun pos cv hc => ?_⟩
  obtain ⟨c', e1, e2⟩ := h3 pos cv hc
  refine ⟨c', e1, k _ _ (fun z => ?_) (fun z => ?_) e2⟩
  · rw [z, em] at e2
    unfold LamX.CodeO at e2
    cases e2
  · rw [z, eg] at e2
    unfold LamX.CodeO at e2
    cases e2
theorem mvs_app {F : Fld} {d : PyData} : ∀ {ds : List PyData} {l l' : Rw} {i : Nat}, mvsL F l i ds = .ok l' → mvsL F l i (ds ++ [d]) = (match amvL F l' d with
    | some z => .ok z
    | none => .error (i + ds.length))
  | [], l, l', i, h => by
    have h : (Except.ok l : Except Nat Rw) = .ok l' := h
    cases h
    rfl
  | x :: ds, l, l', i, h => by
    have h : (match amvL F l x with
      | some z => mvsL F z (i + 1) ds
      | none => .error i) = .ok l' := h
    show (match amvL F l x with
      | some z => mvsL F z (i + 1) (ds ++ [d])
      | none => .error i) = _
    cases e : amvL F l x with
    | none => rw [e] at h; cases h
    | some z =>
      rw [e] at h
      have h : mvsL F z (i + 1) ds = .ok l' := h
      have := mvs_app (d := d) h
      rw [List.length_cons, show i + (ds.length + 1) = i + 1 + ds.length by omega]
      exact this
theorem amv_flat {F : Fld} {l l' : Rw} {d : PyData} (e : amvL F l d = some l') : flatD d = true := by
  have c0 : ∀ {r : Option Rw}, capL r = some l' → r ≠ none := fun {r} h z => by
    subst z
    cases h
  unfold amvL at e
  split at e
  · rename_i w k
    have e1 := c0 e
    cases w with
    | str w => rfl
    | _ => exact absurd rfl e1
  · rename_i w k x
    have e1 := c0 e
    cases w with
    | str w =>
      cases x with
      | int t => rfl
      | tuple ds =>
        have e1 : (if isW (.str w) "part" = true then prtL l k (.tuple ds) else if isW (.str w) "put" = true then putL F l k (.tuple ds) else none) ≠ none := e1
        have n1 : prtL l k (.tuple ds) = none := by
          unfold prtL
          split
          · split <;> first | rfl | (rename_i h; cases h)
          · rfl
        rw [n1] at e1
        split at e1
        · exact absurd rfl e1
        · split at e1
          · unfold putL at e1
            split at e1
            · split at e1
              · rename_i hq
                cases hq
                rfl
              · exact absurd rfl e1
            · exact absurd rfl e1
          · exact absurd rfl e1
      | _ =>
        exfalso
        refine e1 ?_
        split
        · unfold prtL
          split
          · split <;> first | rfl | (rename_i hq; cases hq)
          · rfl
        · split
          · unfold putL
            split
            · split <;> first | rfl | (rename_i hq; cases hq)
            · rfl
          · rfl
    | _ => exact absurd rfl e1
  · cases e
/-- how great times can become -/
def Big (B : Nat) (l : Rw) : Prop := ∀ s ∈ l, s.2.natAbs ≤ B
theorem Big.app {B : Nat} {l m : Rw} (h : Big B l) (g : Big B m) : Big B (l ++ m) := fun s hs => (List.mem_append.mp hs).elim (h s) (g s)
theorem Big.take {B : Nat} {l : Rw} (h : Big B l) (k : Nat) : Big B (l.take k) := fun s hs => h s (List.mem_of_mem_take hs)
theorem Big.drop {B : Nat} {l : Rw} (h : Big B l) (k : Nat) : Big B (l.drop k) := fun s hs => h s (List.mem_of_mem_drop hs)
theorem Big.mono {B C : Nat} {l : Rw} (h : Big B l) (e : B ≤ C) : Big C l := fun s hs => Nat.le_trans (h s hs) e
theorem Big.two {B : Nat} {s t : Str × Int} (h : s.2.natAbs ≤ B) (g : t.2.natAbs ≤ B) : Big B [s, t] := fun x hx => by
  rcases List.mem_cons.mp hx with e | hx
  · rw [e]; exact h
  · rw [List.mem_singleton.mp hx]; exact g
theorem timesD_abs {t : Int} (h : timesD (.int t) = true) : t.natAbs ≤ 10 ^ 30 := by
  rw [timesD_int, Bool.and_eq_true, Bool.and_eq_true] at h
  have h1 := of_decide_eq_true h.2.1
  have h2 := of_decide_eq_true h.2.2
  omega
theorem amv_big {F : Fld} {l l' : Rw} {d : PyData} {B : Nat} (hB : 10 ^ 30 ≤ B) (h : Big B l) (e : amvL F l d = some l') : Big (2 * B) l' := by
  have h2 : Big (2 * B) l := h.mono (by omega)
  have cap : ∀ {r : Option Rw}, (∀ z, r = some z → Big (2 * B) z) → capL r = some l' → Big (2 * B) l' := fun {r} hr hc => by
    cases r with
    | none => cases hc
    | some z =>
      have hc : (if z.length ≤ 400 then some z else none) = some l' := hc
      by_cases q : z.length ≤ 400
      · rw [if_pos q] at hc
        cases hc
        exact hr _ rfl
      · rw [if_neg q] at hc
        cases hc
  have h1 : ∀ k z, chgL F l k = some z → Big (2 * B) z := fun k z hz => by
    unfold chgL at hz
    split at hz
    · split at hz
      · rename_i s t g1 g2
        split at hz
        · cases hz
          exact ((h2.take _).app (Big.two (h2 t (List.mem_of_getElem? g2)) (h2 s (List.mem_of_getElem? g1)))).app (h2.drop _)
        · cases hz
      · cases hz
    · cases hz
  have hj : ∀ k z, joiL l k = some z → Big (2 * B) z := fun k z hz => by
    unfold joiL at hz
    split at hz
    · split at hz
      · rename_i s t g1 g2
        split at hz
        · cases hz
          refine ((h2.take _).app ?_).app (h2.drop _)
          split
          · exact fun _ h => nomatch h
          · intro x hx
            rw [List.mem_singleton.mp hx]
            have a1 := h s (List.mem_of_getElem? g1)
            have a2 := h t (List.mem_of_getElem? g2)
            show (s.2 + t.2).natAbs ≤ _
            omega
        · cases hz
      · cases hz
    · cases hz
  have h3 : ∀ k x z, prtL l k x = some z → Big (2 * B) z := fun k x z hz => by
    unfold prtL at hz
    split at hz
    · split at hz
      · rename_i s t g1
        split at hz
        · rename_i ht
          cases hz
          have a1 := h s (List.mem_of_getElem? g1)
          have a2 := timesD_abs ht.1
          refine ((h2.take _).app (Big.two ?_ ?_)).app (h2.drop _)
          · show t.natAbs ≤ _
            omega
          · show (s.2 - t).natAbs ≤ _
            omega
        · cases hz
      · cases hz
    · cases hz
  have h4 : ∀ k x z, putL F l k x = some z → Big (2 * B) z := fun k x z hz => by
    unfold putL at hz
    split at hz
    · split at hz
      · rename_i n t
        split at hz
        · rename_i hs
          cases hz
          have hs : (F.names.contains n && timesD (.int t)) = true := hs
          rw [Bool.and_eq_true] at hs
          have a2 := timesD_abs hs.2
          refine ((h2.take _).app (Big.two ?_ ?_)).app (h2.drop _)
          · show t.natAbs ≤ _
            omega
          · show (-t).natAbs ≤ _
            omega
        · cases hz
      · cases hz
    · cases hz
  unfold amvL at e
  split at e
  · refine cap (fun z hz => ?_) e
    split at hz
    · exact h1 _ z hz
    · split at hz
      · exact hj _ z hz
      · cases hz
  · refine cap (fun z hz => ?_) e
    split at hz
    · exact h3 _ _ z hz
    · split at hz
      · exact h4 _ _ z hz
      · cases hz
  · cases e
/-! ### what is due, and what is heard -/
def dHeard : Except Nat Rw → PyData
  | .ok l => .list [dSteps l]
  | .error i => .tuple [.str "moves", .int (i : Nat)]
def HdD (K : PySem.W.Frag) (H : Hp) (v : V) : Except Nat Rw → Prop
  | .ok l => ∃ b w, v = .ref b ∧ H b = some (.lst [w]) ∧ Dp K H w (dSteps l)
  | .error i => ∃ b, v = .ref b ∧ SqT K H b [.str "moves", .int (i : Nat)]
section
variable {K : PySem.W.Frag}
theorem HdD.dp {H : Hp} {v : V} : ∀ {o : Except Nat Rw}, HdD K H v o → Dp K H v (dHeard o)
  | .ok _, ⟨b, w, e, h, d⟩ => by
    subst e
    exact .lst (SqL.of h) (.cons d .nil)
  | .error _, ⟨b, e, h⟩ => by
    subst e
    exact .tup h (.cons (.str _) (.cons (.int _) .nil))
theorem HdD.same {H H' : Hp} {v : V} (s : Same H H') : ∀ {o : Except Nat Rw}, HdD K H v o → HdD K H' v o
  | .ok _, ⟨b, w, e, h, d⟩ => ⟨b, w, e, s _ _ h, tS d s⟩
  | .error _, ⟨b, e, h⟩ => ⟨b, e, (Tk.of s).sqT h⟩
theorem HdD.ext {H H' : Hp} {v : V} (s : LamX.ExtN H H') : ∀ {o : Except Nat Rw}, HdD K H v o → HdD K H' v o
  | .ok _, ⟨b, w, e, h, d⟩ => ⟨b, w, e, extN_lst s h, Dp.ext s _ d⟩
  | .error _, ⟨b, e, h⟩ => ⟨b, e, (extN_tk s).sqT h⟩
theorem HdD.put {H : Hp} {v : V} {L : Addr} {xs : List V} {q : HO} (e : H L = some (.lst xs)) : ∀ {o : Except Nat Rw}, HdD K H v o → ((∃ l, o = .ok l) → v ≠ .ref L) → HdD K (upd H L q) v o
  | .ok l, ⟨b, w, ev, h, d⟩, n => ⟨b, w, ev, by rw [upd_ne fun z => n ⟨l, rfl⟩ (by rw [ev, z])]; exact h, Dp.tk (Tk.refl.lst e) _ (flat_steps l) d⟩
  | .error _, ⟨b, ev, h⟩, _ => ⟨b, ev, (Tk.refl.lst e).sqT h⟩
theorem HdD.ne {H : Hp} {v : V} {L : Addr} (n : H L = none) : ∀ {o : Except Nat Rw}, HdD K H v o → (∃ l, o = .ok l) → v ≠ .ref L
  | .ok _, ⟨b, w, ev, h, d⟩, _, z => by
    rw [ev] at z
    cases z
    rw [n] at h
    cases h
  | .error _, _, ⟨l, z⟩, _ => by cases z
theorem heardM_of {H : Hp} {Q : VK} : ∀ {o : Except Nat Rw}, (∀ H' v, Same H H' → HdD K H' v o → (∀ L xs, H L = some (.lst xs) → (∃ l, o = .ok l) → v ≠ .ref L) → Q v H') → HeardM K H Q o
  | .ok l, q => fun H' r v s n e d => q H' (.ref r) s ⟨r, v, rfl, e, d⟩ fun L xs hL _ z => by
    cases z
    rw [n] at hL
    cases hL
  | .error i, q => fun H' r s h => q H' (.ref r) s ⟨r, rfl, h⟩ fun _ _ _ ⟨l, z⟩ => by cases z
end
theorem at_end1 {xs : List V} {v : V} : atI (xs ++ [v]) (-1) = some v := by
  have hl : (xs ++ [v]).length = xs.length + 1 := by rw [List.length_append]; rfl
  have e : ixN (xs ++ [v]).length (-1) = some xs.length := by
    unfold ixN
    rw [if_neg (by omega), if_pos (by omega)]
    congr 1
    omega
  unfold atI
  rw [e]
  show (xs ++ [v])[xs.length]? = some v
  rw [List.getElem?_append_right (Nat.le_refl _), Nat.sub_self]
  rfl
/-- what is known of moves that can all be made -/
structure OkM (F : Fld) (l0 l : Rw) (ds : List PyData) (j : Nat) : Prop where
  mv : mvsL F l0 0 ds = .ok l
  nz : XM.NZ l
  nm : Names F l
  ac : XM.act (OF F) l [] = XM.act (OF F) l0 []
  ln : l.length ≤ 7 + 2 * j
  bg : Big (2 ^ j * 10 ^ 30) l
  ct : ds.length ≤ j
  fl : ∀ d ∈ ds, flatD d = true ∧ SeqAt.shaped d = true ∧ Sz d 90
theorem OkM.mono {F : Fld} {l0 l : Rw} {ds : List PyData} {j : Nat} (h : OkM F l0 l ds j) : OkM F l0 l ds (j + 1) :=
  ⟨h.mv, h.nz, h.nm, h.ac, by have := h.ln; omega, h.bg.mono (by rw [Nat.pow_succ]; omega), by have := h.ct; omega, h.fl⟩
theorem OkM.step {F : Fld} (ok : F.Ok) {l0 l l' : Rw} {ds : List PyData} {d : PyData} {j : Nat} (h : OkM F l0 l ds j) (e : amvL F l d = some l') (sh : SeqAt.shaped d = true) (z : Sz d 90) : OkM F l0 l' (ds ++ [d]) (j + 1) := by
  obtain ⟨n1, a1, b1⟩ := amv_same ok h.nz e
  refine ⟨?_, n1, (amv_names h.nm e).1, a1.trans h.ac, by have := h.ln; omega, ?_, by rw [List.length_append]; have := h.ct; show ds.length + 1 ≤ j + 1; omega, fun x hx => ?_⟩
  · rw [mvs_app h.mv, e]
  · have := amv_big (B := 2 ^ j * 10 ^ 30) (Nat.le_mul_of_pos_left _ (Nat.two_pow_pos j)) h.bg e
    rw [Nat.pow_succ, show 2 ^ j * 2 * 10 ^ 30 = 2 * (2 ^ j * 10 ^ 30) by rw [Nat.mul_comm (2 ^ j) 2, Nat.mul_assoc]]
    exact this
  · rcases List.mem_append.mp hx with hx | hx
    · exact h.fl x hx
    · rw [List.mem_singleton.mp hx]
      exact ⟨amv_flat e, sh, z⟩
def GoodO (F : Fld) (l0 : Rw) : Except Nat Rw → Prop
  | .ok l => XM.NZ l ∧ Names F l ∧ XM.act (OF F) l [] = XM.act (OF F) l0 [] ∧ l.length ≤ 60 ∧ Big (10 ^ 40) l
  | .error i => i ≤ 20
theorem OkM.good {F : Fld} {l0 l : Rw} {ds : List PyData} {j : Nat} (h : OkM F l0 l ds j) (hj : j ≤ 10) : GoodO F l0 (.ok l) :=
  ⟨h.nz, h.nm, h.ac, by have := h.ln; omega, h.bg.mono (Nat.le_trans (Nat.mul_le_mul_right _ (Nat.pow_le_pow_right (by decide) hj)) (by decide))⟩
theorem sz_heard {F : Fld} (ok : F.Ok) {l0 : Rw} : ∀ {o : Except Nat Rw}, GoodO F l0 o → Sz (dHeard o) 1000 ∧ (dHeard o).depth ≤ 10
  | .ok l, ⟨_, hn, _, hl, hb⟩ => by
    have z := (sz_stepsA (l := l) fun s hs => ⟨ok.sgn _ (hn s hs), Nat.lt_of_le_of_lt (hb s hs) (by decide)⟩).tup
    have dd := deep_steps l
    have d1 : (dSteps l).depth ≤ 5 := by
      show PyData.depth (.tuple (l.map dStep)) ≤ 5
      rw [PyData.depth]
      omega
    refine ⟨(SzA.cons z (by show (dSteps l).depth ≤ 19; omega) SzA.nil).lst.mono (by omega), ?_⟩
    show PyData.depth (.list [dSteps l]) ≤ 10
    rw [PyData.depth, PyData.depthAll, PyData.depthAll]
    omega
  | .error i, h => by
    have h : i ≤ 20 := h
    refine ⟨(sz2 (sz_dec (n := 10) (by decide +kernel)) (sz_int (by
      show ((i : Nat) : Int).natAbs < 10 ^ 50
      have : (20 : Nat) < 10 ^ 50 := by decide
      omega)) (by simp [PyData.depth]) (by simp [PyData.depth])).mono (by omega), ?_⟩
    show PyData.depth (.tuple [.str "moves", .int (i : Nat)]) ≤ 10
    simp [PyData.depth, PyData.depthAll]
theorem rep_all : ∀ {ds : List PyData}, (∀ d ∈ ds, Sz d 90) → PyData.showableAll ds = true ∧ PyData.hasDictAll ds = false ∧ PyData.depthAll ds ≤ 20 ∧ PyData.leavesShortAll 60 ds = true ∧ PyData.bulkAll ds ≤ 91 * ds.length
  | [], _ => ⟨rfl, rfl, by decide, rfl, Nat.le_refl _⟩
  | d :: ds, h => by
    obtain ⟨a, b, c, e, f⟩ := rep_all fun x hx => h x (List.mem_cons_of_mem _ hx)
    have hd := h d List.mem_cons_self
    refine ⟨?_, ?_, ?_, ?_, ?_⟩
    · rw [PyData.showableAll, hd.sh, a]
      rfl
    · rw [PyData.hasDictAll, hd.nd, b]
      rfl
    · rw [PyData.depthAll]
      have := hd.dp
      omega
    · rw [PyData.leavesShortAll, hd.lv, e]
      rfl
    · rw [PyData.bulkAll, List.length_cons]
      have := hd.bk
      omega
theorem rep_list {ds : List PyData} (h : ∀ d ∈ ds, Sz d 90) (hl : ds.length ≤ 11) : (PyData.list ds).showable = true ∧ (PyData.list ds).hasDict = false ∧ (PyData.list ds).depth ≤ 64 ∧ (PyData.list ds).shown.length ≤ sizeLine := by
  obtain ⟨a, b, c, e, f⟩ := rep_all h
  refine ⟨by rw [PyData.showable]; exact a, by rw [PyData.hasDict]; exact b, by rw [PyData.depth]; omega, ?_⟩
  have q := PyData.shown_le_bulk 60 (by decide) (.list ds) (by rw [PyData.leavesShort]; exact e)
  rw [PyData.bulk] at q
  rw [sizeLine_eq]
  omega
/-- moves as they lie: in tuples, or the one list -/
def LstD (K : PySem.W.Frag) (H : Hp) (v : V) (d : PyData) : Prop := (flatD d = true ∧ Dp K H v d) ∨ (∃ b, v = .ref b ∧ d = dJ ∧ H b = some (.lst [.str "join", .int 0]))
def AllM (K : PySem.W.Frag) (H : Hp) : List V → List PyData → Prop
  | [], [] => True
  | v :: vs, d :: ds => LstD K H v d ∧ AllM K H vs ds
  | _, _ => False
section
variable {K : PySem.W.Frag}
theorem LstD.dp {H : Hp} {v : V} {d : PyData} (h : LstD K H v d) : Dp K H v d := by
  rcases h with h | ⟨b, rfl, rfl, e⟩
  · exact h.2
  · exact .lst (SqL.of e) (.cons (.str _) (.cons (.int _) .nil))
theorem LstD.same {H H' : Hp} {v : V} {d : PyData} (h : LstD K H v d) (s : Same H H') : LstD K H' v d := by
  rcases h with h | ⟨b, e1, e2, e⟩
  · exact .inl ⟨h.1, Dp.tk (Tk.of s) _ h.1 h.2⟩
  · exact .inr ⟨b, e1, e2, s _ _ e⟩
theorem LstD.ext {H H' : Hp} {v : V} {d : PyData} (h : LstD K H v d) (s : LamX.ExtN H H') : LstD K H' v d := by
  rcases h with h | ⟨b, e1, e2, e⟩
  · exact .inl ⟨h.1, Dp.ext s _ h.2⟩
  · exact .inr ⟨b, e1, e2, extN_lst s e⟩
theorem LstD.put {H0 H1 : Hp} {v : V} {d : PyData} {L : Addr} {ys : List V} {q : HO} (h0 : LstD K H0 v d) (n : H0 L = none) (h1 : LstD K H1 v d) (e1 : H1 L = some (.lst ys)) : LstD K (upd H1 L q) v d := by
  rcases h1 with h | ⟨b, rfl, rfl, e⟩
  · exact .inl ⟨h.1, Dp.tk (Tk.refl.lst e1) _ h.1 h.2⟩
  · rcases h0 with h | ⟨b', eb, _, e0⟩
    · exact absurd h.1 (by decide)
    · cases eb
      exact .inr ⟨b, rfl, rfl, by rw [upd_ne (ne_of_none e0 n)]; exact e⟩
theorem AllM.dp {H : Hp} : ∀ {vs : List V} {ds : List PyData}, AllM K H vs ds → DpAll K H vs ds
  | [], [], _ => .nil
  | _ :: _, _ :: _, h => .cons h.1.dp (AllM.dp h.2)
theorem AllM.same {H H' : Hp} (s : Same H H') : ∀ {vs : List V} {ds : List PyData}, AllM K H vs ds → AllM K H' vs ds
  | [], [], _ => True.intro
  | _ :: _, _ :: _, h => ⟨h.1.same s, AllM.same s h.2⟩
theorem AllM.ext {H H' : Hp} (s : LamX.ExtN H H') : ∀ {vs : List V} {ds : List PyData}, AllM K H vs ds → AllM K H' vs ds
  | [], [], _ => True.intro
  | _ :: _, _ :: _, h => ⟨h.1.ext s, AllM.ext s h.2⟩
theorem AllM.put {H0 H1 : Hp} {L : Addr} {ys : List V} {q : HO} (n : H0 L = none) (e1 : H1 L = some (.lst ys)) : ∀ {vs : List V} {ds : List PyData}, AllM K H0 vs ds → AllM K H1 vs ds → AllM K (upd H1 L q) vs ds
  | [], [], _, _ => True.intro
  | _ :: _, _ :: _, h0, h1 => ⟨h0.1.put n h1.1 e1, AllM.put n e1 h0.2 h1.2⟩
theorem AllM.flat {H : Hp} : ∀ {vs : List V} {ds : List PyData}, DpAll K H vs ds → (∀ d ∈ ds, flatD d = true) → AllM K H vs ds
  | _, _, .nil, _ => True.intro
  | _, _, .cons h t, f => ⟨.inl ⟨f _ List.mem_cons_self, h⟩, AllM.flat t fun d hd => f d (List.mem_cons_of_mem _ hd)⟩
theorem AllM.snoc {H : Hp} {v : V} {d : PyData} (h2 : LstD K H v d) : ∀ {vs : List V} {ds : List PyData}, AllM K H vs ds → AllM K H (vs ++ [v]) (ds ++ [d])
  | [], [], _ => ⟨h2, True.intro⟩
  | _ :: _, _ :: _, h => ⟨h.1, AllM.snoc h2 h.2⟩
end
theorem pe_tupleOfK {X : Cx} {K : PySem.W.Frag} {a : Expr} {ta : TE} {p pos : Pos} (hk : X.K = K) (hg : Gl X "tuple") (hm : X.mg "tuple" = none) (ha : PE X a ta) (na : starEach [a] X.env = (false, eval a X.env) :: starEach [] X.env := by rfl) : PE X (.Call (.Name "tuple" p) [a] [] pos) (tThen ta (kTup K)) := by
  subst hk
  exact pe_tupleOf hg hm ha na
end XB
set_option Elab.async false
set_option linter.all false
set_option maxRecDepth 100000
set_option maxHeartbeats 8000000
namespace XB
open PySem PySem.Spec PyProof.Rows L2
section
variable {P : Program} {w : World} {K : PySem.W.Frag} {mg : Str → Option Value} {base : Heap}
def InvO (TT : List (Addr × Str)) (a m c g : Addr) (i : Nat) : L2.St → Hp → Prop := fun σ H => ∃ (y2 y3 y4 y5 y6 y7 y8 y9 y10 y11 : Option V) (s2 : Int), σ = [some (.ref a), some (.ref m), y2, y3, y4, y5, y6, y7, y8, y9, y10, y11] ∧ Dr H m c g s2 ∧ s2 ≤ 140 * (i : Int) ∧ LamX.Tabs TT H
def InvI (K : PySem.W.Frag) (TT : List (Addr × Str)) (a m c g f r M : Addr) (F : Fld) (l0 : Rw) (y2 y10 y11 : Option V) (s0 : Int) (j : Nat) : L2.St → Hp → Prop := fun σ H => ∃ (P : Addr) (y8 y9 : Option V) (xs : List V) (ds : List PyData) (l : Rw) (s2 : Int),
  σ = [some (.ref a), some (.ref m), y2, some (.ref f), some (.ref r), some (.ref M), some (.ref P), some .non, y8, y9, y10, y11] ∧ H M = some (.lst xs) ∧ DpAll K H xs ds ∧ OkM F l0 l ds j ∧ Row1 K H P l ∧ (P ≠ m ∧ P ≠ c ∧ P ≠ g) ∧ P ≠ M ∧
  Dr H m c g s2 ∧ s2 ≤ s0 + 5 * (j : Int) ∧ Dp K H (.ref f) (dField F) ∧ Dp K H (.ref r) (dSteps l0) ∧ LamX.Tabs TT H
def DueO (K : PySem.W.Frag) (F : Fld) (l0 : Rw) (H : Hp) (y6 : Option V) (dv : V) : Except Nat Rw → Prop
  | .ok l => dv = .non ∧ (∃ P, y6 = some (.ref P) ∧ Row1 K H P l) ∧ GoodO F l0 (.ok l)
  | .error i => (∃ t, dv = .ref t ∧ SqT K H t [.str "moves", .int (i : Nat)]) ∧ GoodO F l0 (.error i)
def MidA (K : PySem.W.Frag) (TT : List (Addr × Str)) (a m c g f r M : Addr) (F : Fld) (l0 : Rw) (y2 y10 y11 : Option V) (s0 : Int) : L2.St → Hp → Prop := fun σ H => ∃ (y6 y8 y9 : Option V) (dv : V) (xs : List V) (ds : List PyData) (s2 : Int),
  σ = [some (.ref a), some (.ref m), y2, some (.ref f), some (.ref r), some (.ref M), y6, some dv, y8, y9, y10, y11] ∧ H M = some (.lst xs) ∧ AllM K H xs ds ∧ (∀ d ∈ ds, SeqAt.shaped d = true ∧ Sz d 90) ∧ ds.length ≤ 11 ∧
  Dr H m c g s2 ∧ s2 ≤ s0 + 60 ∧ Dp K H (.ref f) (dField F) ∧ Dp K H (.ref r) (dSteps l0) ∧ LamX.Tabs TT H ∧ DueO K F l0 H y6 dv (mvsL F l0 0 ds)
def MidB (K : PySem.W.Frag) (TT : List (Addr × Str)) (a m c g f r M : Addr) (F : Fld) (l0 : Rw) (y2 y11 : Option V) (s0 : Int) : L2.St → Hp → Prop := fun σ H => ∃ (y6 y8 y9 : Option V) (dv : V) (xs : List V) (ds : List PyData) (s2 : Int),
  σ = [some (.ref a), some (.ref m), y2, some (.ref f), some (.ref r), some (.ref M), y6, some dv, y8, y9, some (.str (PyData.list ds).shown), y11] ∧ H M = some (.lst xs) ∧ AllM K H xs ds ∧ (∀ d ∈ ds, SeqAt.shaped d = true ∧ Sz d 90) ∧ ds.length ≤ 11 ∧
  Dr H m c g s2 ∧ s2 ≤ s0 + 60 ∧ Dp K H (.ref f) (dField F) ∧ Dp K H (.ref r) (dSteps l0) ∧ LamX.Tabs TT H ∧ HdD K H dv (mvsL F l0 0 ds) ∧ GoodO F l0 (mvsL F l0 0 ds)
def qLw : Str := "law" ++ ".<locals>." ++ "<lambda>"
def spLawT (K : PySem.W.Frag) (t1 t2 : Addr) : Sp := fun vs H Q _ => ∃ (a : Addr) (ns : List Int), vs = [.ref a] ∧ SqL K H a (ns.map V.int) ∧ ns.length ≤ 1000 ∧ H t1 = some (.tbl #[]) ∧ H t2 = some (.tbl #[]) ∧ ∀ H', Q (.bl true) H'
theorem fg_lawT (T : Tx K mg) {fl : Addr} {fd : FuncData} (FL : Fun K "law" "law" s_law fl fd) (hml : mg "law" = some (.ref fl)) {c1 t1 c2 t2 : Addr} (CT : CodeT K mg base "law" c1 t1) (CB : CodeT K mg base "_law_bounds_right" c2 t2) (n12 : t1 ≠ t2) : FnG P w K mg base CX0 10 fl fd ["script"] (spLawT K t1 t2) := by
  refine fgC FL hml CT sc_law (fun vs H Q E h => ?_) (fun fa A outer st H vs Q E hgu hr h => ?_)
  · obtain ⟨a, ns, rfl, _⟩ := h
    rfl
  · obtain ⟨a, ns, rfl, hS, hl, hT1, hT2, q⟩ := h
    have nd := sc_law.nd
    have hu : (A.deeper (envOfC "law" (defScope s_law) st.heap.objs.size fa (.ref c1))).units + 70 < cLine := by
      have := hr.un
      omega
    have hmT : (t1, qLw) ∈ [(t1, qLw), (t2, qBR)] := List.mem_cons_self
    have huT : ∀ y ∈ [(t1, qLw), (t2, qBR)], y.1 = t1 → y.2 = qLw := fun y hy e => by
      rcases List.mem_cons.mp hy with h | h
      · rw [h]
      · rw [List.mem_singleton.mp h] at e
        exact absurd e.symm n12
    have hmB : (t2, qBR) ∈ [(t1, qLw), (t2, qBR)] := List.mem_cons_of_mem _ List.mem_cons_self
    have huB : ∀ y ∈ [(t1, qLw), (t2, qBR)], y.1 = t2 → y.2 = qBR := fun y hy e => by
      rcases List.mem_cons.mp hy with h | h
      · rw [h] at e
        exact absurd e n12
      · rw [List.mem_singleton.mp h]
    have hTT : LamX.Tabs [(t1, qLw), (t2, qBR)] H := fun y hy => by
      rcases List.mem_cons.mp hy with h | h
      · rw [h]
        exact LamX.TabS.nil hT1
      · rw [List.mem_singleton.mp h]
        exact LamX.TabS.nil hT2
    generalize [(t1, qLw), (t2, qBR)] = TT at hmT huT hmB huB hTT
    refine ⟨_, (pss_cons (ps_set (i := 1) nd rfl (.inl rfl) (pe_k (c_begun T) hr (by decide) (by rfl) (pa_cons (pv 0) pa_nil)))
    (pss_cons (ps_for PassesOwn.never rfl (pi_range1 (by rfl) T.b_range (pa_cons pe_int pa_nil)) (pg_name (i := 2) nd rfl (.inl rfl))
    (pss_cons (ps_set (i := 3) nd rfl (.inr rfl) (pe_k (c__law_field T) hr (by decide) (by rfl) (pa_cons (pv 1) (pa_cons pe_int pa_nil))))
    (pss_cons (ps_set (i := 4) nd rfl (.inr rfl) (pe_k (c__law_script T) hr (by decide) (by rfl) (pa_cons (pv 1) (pa_cons (pv 3) (pa_cons pe_int pa_nil)))))
    (pss_cons (ps_asg (pe_tup (pa_cons (pe_lst pa_nil) (pa_cons (pe_callTy call_list_of (by rfl) T.b_list (by decide +kernel) (pa_cons (pv 4) pa_nil)) (pa_cons pe_non pa_nil)))) (pg_tup rfl (pgs_cons (pg_name (i := 5) nd rfl (.inr rfl)) (pgs_cons (pg_name (i := 6) nd rfl (.inl rfl)) (pgs_cons (pg_name (i := 7) nd rfl (.inl rfl)) pgs_nil)))))
    (C8.pss_cut (ps_for PassesOwn.never rfl (pi_range1 (by rfl) T.b_range (pa_cons (pe_k (c_draw T) hr (by decide) (by rfl) (pa_cons (pv 1) (pa_cons pe_int pa_nil))) pa_nil)) (pg_name (i := 8) nd rfl (.inl rfl))
    (pss_cons (ps_expr (pe_bm PySem.F.plainAttrs_list PySem.F.slot_list_append PySem.F.type_list_append mt_append (pv 5) (pa_cons (pe_k (c__law_move T) hr (by decide) (by rfl) (pa_cons (pv 1) (pa_cons (pv 3) (pa_cons (pv 6) pa_nil)))) pa_nil)))
    (pss_cons (ps_set (i := 9) nd rfl (.inl rfl) (pe_k (c__law_moved T) hr (by decide) (by rfl) (pa_cons (pv 3) (pa_cons (pv 6) (pa_cons (pe_ix (ixk_list (K := K) rfl) (pv 5) (pe_un un_neg pe_int) (fun _ _ => rfl)) pa_nil)))))
    (pss_one (ps_if (pt_cmpR op_isN (pv 9) pe_non (nomark _)) (pss_cons (ps_if (pt_cmpR op_eq (pe_k (c_draw T) hr (by decide) (by rfl) (pa_cons (pv 1) (pa_cons pe_int pa_nil))) pe_int (nomark _)) (pss_cons (ps_set (i := 7) nd rfl (.inl rfl) (pe_tup (pa_cons pe_str (pa_cons (pe_op op_sub (pe_lenS (by rfl) T.b_len (pv 5)) pe_int) pa_nil))))
    (pss_one ps_break)) pss_nil)
    (pss_one (ps_expr (pe_bm0 PySem.F.plainAttrs_list PySem.F.slot_list_pop PySem.F.type_list_pop mt_pop (pv 5))))) (pss_one (ps_set (i := 6) nd rfl (.inl rfl) (pv 9))))))))
    (C8.pss_cut (ps_par (i := 7) (j := 10) rfl nd rfl rfl (by decide) rfl rfl (pa_cons (pe_ifExp (pt_cmpR op_isN (pv 7) pe_non (nomark _)) (pe_lst (pa_cons (pe_tupleOf (by rfl) T.b_tuple (pv 6)) pa_nil)) (pv 7)) (pa_cons (pe_callB (call_reprD hgu hu) (by rfl) T.b_repr (by decide +kernel) (pa_cons (pv 5) pa_nil)) pa_nil)) rfl)
    (pss_cons (ps_set (i := 11) nd rfl (.inl rfl) (pe_lst (pa_cons (pe_heardT T (by rfl) CT.tb rfl hmT huT hr (LamX.lamS_by (sc := defScope s_law) (by decide +kernel)) rfl (fun _ _ _ _ _ => rfl) (fun A2 outer2 st2 H2 E2 f2 c2 hr2 => (pe_kX (c_moved T) hr2 (by decide) (takes_of rfl rfl rfl rfl) (by rfl) (pa_cons (pv 3) (pa_cons (pv 4) (pa_cons (pe_tupleOfK (K := K) rfl (by rfl) T.b_tuple (pv 5)) pa_nil)))))) pa_nil)))
    (pss_cons (ps_expr (pe_bm PySem.F.plainAttrs_list PySem.F.slot_list_append PySem.F.type_list_append mt_append (pv 11) (pa_cons (pe_heardT T (by rfl) CT.tb rfl hmT huT hr (LamX.lamS_by (sc := defScope s_law) (by decide +kernel)) rfl (fun _ _ _ _ _ => rfl) (fun A2 outer2 st2 H2 E2 f2 c2 hr2 => (pe_kX (c_moved T) hr2 (by decide) (takes_of rfl rfl rfl rfl) (by rfl) (pa_cons (pv 3) (pa_cons (pv 4) (pa_cons (pe_tupleOfK (K := K) rfl (by rfl) T.b_tuple (pv 5)) pa_nil)))))) pa_nil)))
    (pss_cons (ps_if (PW.pt (pw_or (pt_not (pt_val (pe_g (g__law_like T) hgu hr (by decide) (by rfl) (pa_cons (pv 11) (pa_cons (pe_lst (pa_cons (pv 7) (pa_cons (pv 7) pa_nil))) pa_nil))))) (pw_or1 (pt_cmpR op_ne (pe_callB (call_reprD hgu hu) (by rfl) T.b_repr (by decide +kernel) (pa_cons (pv 5) pa_nil)) (pv 10) (nomark _))))) pss_never pss_nil)
    (pss_one (ps_if (PW.pt (pw_and (pt_val (pe_isT "list" (by rfl) T.b_isinstance (by rfl) T.b_list (by decide +kernel) (pv 7))) (pw_and1 (pt_cmpR (op_neD hr.units) (pe_gF (fun F => (c__law_least T F).toG) hgu hr (by decide) (by rfl) (pa_cons (pv 3) (pa_cons (pe_ix (ixk_list (K := K) rfl) (pv 7) pe_int (fun _ _ => rfl)) pa_nil))) (pe_gF (fun F => (c__law_least T F).toG) hgu hr (by decide) (by rfl) (pa_cons (pv 3) (pa_cons (pv 4) pa_nil))) (nomark _))))) pss_never pss_nil)))))))))))
    (pss_one (ps_ret (pe_k0 (c__law_bounds_right T CB hmB huB) hr (by decide) (by rfl)))))), ?_⟩
    --@
    refine ⟨_, rfl, a, ns, rfl, hS, hl, fun H1 m c g sb _ _ _ R1 => ?_⟩
    refine ⟨8, rfl, by decide, by decide, for_range (lo := 0) (n := 8) (fun i σ H2 => InvO TT a m c g i σ H2) ⟨_, _, _, _, _, _, _, _, _, _, 0, rfl, R1, by decide, hTT.ext sb⟩ (fun i σ H2 hi hInv => ?_) (fun σ H2 hInv => ?_)⟩
    · obtain ⟨y2, y3, y4, y5, y6, y7, y8, y9, y10, y11, s2, eσ, R2, hs2, T2⟩ := hInv
      subst eσ
      refine ⟨_, rfl, m, c, g, s2, 4, rfl, R2, by decide, by decide, by omega, fun H3 f F s3 R3 hs3 k3 hF3 ok fnm => ?_⟩
      have T3 := tabs_kp T2 R2 k3
      refine ⟨_, rfl, _, rfl, m, c, g, f, s3, 7, F, rfl, R3, hF3, ok, by decide, by decide, by omega, fun H4 r l0 s4 R4 hs4 k4 hL4 gl hl7 => ?_⟩
      have T4 := tabs_kp T3 R3 k4
      have hF4 := Dp.tk (R3.tk k4) _ (flat_field F) hF3
      clear hF3 T2 T3 k3 k4 fnm
      obtain ⟨_, rs, er, hSR, hVR⟩ := hL4.steps
      cases er
      refine ⟨Nat.zero_le _, fun M nM0 => upd_gen nM0 fun H5 s5 e5 => ⟨_, rfl, r, rs, rfl, .inr ((Tk.of s5).sqT hSR), fun P nP0 => upd_gen nP0 fun H6 s6 e6 => ⟨three_sz, fun tt ntt => upd_gen ntt fun H7 s7 e7 => ⟨tt, _, rfl, SqT.of e7, rfl, _, _, rfl, _, _, rfl, _, _, rfl, rfl, ?_⟩⟩⟩⟩
      have nM := R4.nm nM0
      have R5 := R4.same s5
      have nP := R5.nm nP0
      have nPM : P ≠ M := fun z => by
        rw [z, e5] at nP0
        cases nP0
      have s67 := s6.trans s7
      have s57 := s5.trans s67
      have R7 := R5.same s67
      have T7 := T4.ext s57
      have hF7 := tF hF4 s57
      have hL7 := tS hL4 s57
      have hV7 := DpAll.tk (Tk.of s57) _ (flat_all_steps l0) hVR
      have eM7 := s67 _ _ e5
      have eP7 := s7 _ _ e6
      clear e5 e6 e7 hVR hL4 hF4 hSR T4
      refine ⟨MidA K TT a m c g f r M F l0 (some (.int (0 + (i : Int)))) y10 y11 s4, ?_, fun σ' H' hMid => ?_⟩
      · refine ⟨_, rfl, m, c, g, s4, 11, rfl, R7, by decide, by decide, by omega, fun r8 H8 b0 b1 R8 k8 => ⟨r8, rfl, by omega, by omega, for_range (lo := 0) (n := r8.toNat) (fun j σ H2 => InvI K TT a m c g f r M F l0 (some (.int (0 + (i : Int)))) y10 y11 (s4 + 1) j σ H2) ?_ (fun j σ H2 hj hI => ?_) (fun σ H2 hI => ?_)⟩⟩
        · have t8 := R7.tk k8
          refine ⟨P, _, _, [], [], l0, s4 + 1, rfl, k8 _ _ nM.1 nM.2.2 eM7, .nil, ⟨rfl, fun s hs => (gl.2 s hs).2.1, fun s hs => (gl.2 s hs).1, rfl, by omega, fun s hs => ?_, by decide, fun _ h => nomatch h⟩, ⟨rs, k8 _ _ nP.1 nP.2.2 eP7, DpAll.tk t8 _ (flat_all_steps l0) hV7⟩, nP, nPM, R8, by omega, Dp.tk t8 _ (flat_field F) hF7, Dp.tk t8 _ (flat_steps l0) hL7, tabs_kp T7 R7 k8⟩
          have := (gl.2 s hs).2
          obtain ⟨_, h1, h2⟩ := this
          omega
        · obtain ⟨P2, y8', y9', xs, ds, l, s8, eσ, eM, hV, hO, ⟨ps, eP, hP⟩, nP2, nPM2, R, hs8, hF, hR, hT⟩ := hI
          subst eσ
          have lxs := hV.len
          have lps := hP.len
          rw [List.length_map] at lps
          have hct := hO.ct
          have hln := hO.ln
          have hfl : flatAll ds = true := flatAll_of fun d hd => (hO.fl d hd).1
          refine ⟨_, rfl, .inl ⟨rfl, _, SqL.of eM⟩, _, rfl, _, rfl, _, rfl, m, c, g, f, P2, s8, F, ps, rfl, R, hF, ok, eP, by omega, by omega, fun H9 v d s9 R9 hs9 k9 hv shd szd => ?_⟩
          have eM9 := k9 _ _ nM.1 nM.2.2 eM
          refine ⟨M, xs, v, rfl, rfl, eM9, small1000 (by omega), ?_⟩
          have t10 : Tk H2 (upd H9 M (.lst (xs ++ [v]))) := (R.tk k9).trans (Tk.refl.lst eM9)
          have R10 := R9.put (o := .lst (xs ++ [v])) nM
          have eM10 : upd H9 M (.lst (xs ++ [v])) M = some (.lst (xs ++ [v])) := upd_same
          have eP10 : upd H9 M (.lst (xs ++ [v])) P2 = some (.lst ps) := by
            rw [upd_ne nPM2]
            exact k9 _ _ nP2.1 nP2.2.2 eP
          have T10 := tabs_put (o := .lst (xs ++ [v])) (tabs_kp hT R k9) eM9
          have hD10 : (flatD d = true ∧ Dp K (upd H9 M (.lst (xs ++ [v]))) v d) ∨ ∃ b, v = .ref b ∧ d = dJ ∧ upd H9 M (.lst (xs ++ [v])) b = some (.lst [.str "join", .int 0]) ∧ b ≠ m ∧ b ≠ g ∧ b ≠ M := by
            rcases hv with ⟨h1, h2⟩ | ⟨b, rfl, rfl, n, e⟩
            · exact .inl ⟨h1, Dp.tk (Tk.refl.lst eM9) _ h1 h2⟩
            · have nb := (ne_of_none eM n).symm
              exact .inr ⟨b, rfl, rfl, by rw [upd_ne nb]; exact e, (R.nm n).1, (R.nm n).2.2, nb⟩
          generalize upd H9 M (.lst (xs ++ [v])) = H10 at t10 R10 eM10 eP10 T10 hD10 ⊢
          have hP10 := DpAll.tk t10 _ (flat_all_steps l) hP
          have hV10 := DpAll.tk t10 _ hfl hV
          have hF10 := Dp.tk t10 _ (flat_field F) hF
          have hR10 := Dp.tk t10 _ (flat_steps l0) hR
          have dp10 : Dp K H10 v d := by
            rcases hD10 with h | ⟨b, rfl, rfl, e, _⟩
            · exact h.2
            · exact .lst (SqL.of e) (.cons (.str _) (.cons (.int _) .nil))
          clear hv eM9 k9 hP hV hF hR hT eP eM R9
          refine ⟨_, rfl, _, rfl, _, rfl, _, rfl, M, _, _, v, rfl, rfl, SqL.of eM10, at_end1, ?_⟩
          refine ⟨f, P2, v, F, d, l, rfl, hF10, ok, ⟨ps, eP10, hP10⟩, hO.nm, dp10, shd, by omega, ?_⟩
          cases hc : amvL F l d with
          | none =>
            intro H11 s11
            refine ⟨_, rfl, rfl, _, rfl, iteT ?_⟩
            have R11 := R10.same s11
            refine ⟨_, rfl, m, c, g, s9, 3, rfl, R11, by decide, by decide, by omega, fun r12 H12 b120 b121 R12 k12 => ?_⟩
            have t12 := (Tk.of s11).trans (R11.tk k12)
            have eM12 := k12 _ _ nM.1 nM.2.2 (s11 _ _ eM10)
            have eP12 := k12 _ _ nP2.1 nP2.2.2 (s11 _ _ eP10)
            have hP12 := DpAll.tk t12 _ (flat_all_steps l) hP10
            have hV12 := DpAll.tk t12 _ hfl hV10
            have hF12 := Dp.tk t12 _ (flat_field F) hF10
            have hR12 := Dp.tk t12 _ (flat_steps l0) hR10
            have T12 := tabs_kp (T10.ext s11) R11 k12
            have dp12 : LstD K H12 v d := by
              rcases hD10 with h | ⟨b, e1, e2, e, n1, n2, _⟩
              · exact .inl ⟨h.1, Dp.tk t12 _ h.1 h.2⟩
              · exact .inr ⟨b, e1, e2, k12 _ _ n1 n2 (s11 _ _ e)⟩
            refine ⟨rfl, _, rfl, ite2 (fun _ => ?_) (fun _ => ?_)⟩
            · refine ⟨_, rfl, M, _, rfl, .inl (SqL.of eM12), _, _, rfl, rfl, two_sz, fun t nt => upd_gen nt fun H13 s13 e13 => ?_⟩
              have em : mvsL F l0 0 (ds ++ [d]) = .error ds.length := by
                rw [mvs_app hO.mv, hc, Nat.zero_add]
              refine ⟨_, _, _, .ref t, xs ++ [v], ds ++ [d], s9 + 1, rfl, s13 _ _ eM12, AllM.snoc (dp12.same s13) ((AllM.flat hV12 fun d hd => (hO.fl d hd).1).same s13), fun x hx => ?_, ?_, R12.same s13, by omega, tF hF12 s13, tS hR12 s13, T12.ext s13, ?_⟩
              · rcases List.mem_append.mp hx with hx | hx
                · exact (hO.fl x hx).2
                · rw [List.mem_singleton.mp hx]
                  exact ⟨shd, szd⟩
              · rw [List.length_append]
                show ds.length + 1 ≤ 11
                omega
              · rw [em]
                refine ⟨⟨t, rfl, SqT.of ?_⟩, (show ds.length ≤ 20 by omega)⟩
                rw [e13]
                congr 4
                rw [List.length_append, lxs]
                show V.int (((ds.length + 1 : Nat) : Int) - 1) = V.int _
                congr 1
                omega
            · refine ⟨_, rfl, .inl ⟨rfl, _, SqL.of eM12⟩, M, _, v, rfl, rfl, eM12, by simp, ?_⟩
              rw [List.dropLast_concat]
              have tP := Tk.refl.lst (o := .lst xs) eM12
              exact ⟨P2, _, _, xs, ds, l, s9 + 1, rfl, upd_same, DpAll.tk tP _ hfl hV12, hO.mono, ⟨ps, by rw [upd_ne nPM2]; exact eP12, DpAll.tk tP _ (flat_all_steps l) hP12⟩, nP2, nPM2, R12.put nM, by omega, Dp.tk tP _ (flat_field F) hF12, Dp.tk tP _ (flat_steps l0) hR12, tabs_put T12 eM12⟩
          | some l' =>
            intro H11 p11 s11 h11 n11
            refine ⟨_, rfl, rfl, _, rfl, iteF ?_⟩
            have nP3 : p11 ≠ M := (ne_of_none eM10 n11).symm
            exact ⟨_, rfl, p11, _, _, _, ds ++ [d], l', s9, rfl, s11 _ _ eM10, (DpAll.sm s11 _ hV10).app (.cons (Dp.sm s11 _ dp10) .nil), hO.step ok hc shd szd, h11, R10.nm n11, nP3, R10.same s11, by omega, tF hF10 s11, tS hR10 s11, T10.ext s11⟩
        · obtain ⟨P2, y8', y9', xs, ds, l, s8, eσ, eM, hV, hO, hP, nP2, nPM2, R, hs8, hF, hR, hT⟩ := hI
          refine ⟨_, _, _, .non, xs, ds, s8, eσ, eM, AllM.flat hV fun d hd => (hO.fl d hd).1, fun d hd => (hO.fl d hd).2, by have := hO.ct; omega, R, by omega, hF, hR, hT, ?_⟩
          rw [hO.mv]
          exact ⟨rfl, ⟨P2, rfl, hP⟩, hO.good (by omega)⟩
      · obtain ⟨y6', y8', y9', dv, xs, ds, s8, eσ, eM, hV, hds, hdl, R, hs8, hF, hR, hT, hD⟩ := hMid
        subst eσ
        have lxs := hV.dp.len
        obtain ⟨sh1, nd1, dp1, ft1⟩ := rep_list (fun d hd => (hds d hd).2) hdl
        refine ⟨MidB K TT a m c g f r M F l0 (some (.int (0 + (i : Int)))) y11 s4, ?_, fun σ' H' hB => ?_⟩
        · unfold MidB
          cases ho : mvsL F l0 0 ds with
          | ok l =>
            rw [ho] at hD
            obtain ⟨rfl, ⟨P2, rfl, ps, eP, hP⟩, hG⟩ := hD
            have lps := hP.len
            refine ⟨_, rfl, rfl, _, rfl, iteT ⟨_, rfl, .inl ⟨P2, ps, rfl, SqL.of eP, fun p np => upd_gen np fun J1 j1 f1 => ⟨one_sz, fun D nD => upd_gen nD fun J2 j2 f2 => ⟨_, rfl, .ref M, .list ds, rfl, ?_, sh1, nd1, dp1, ft1, _, _, rfl, ?_⟩⟩⟩⟩⟩
            · exact .lst (SqL.of ((j1.trans j2) _ _ eM)) (hV.same (j1.trans j2)).dp
            · have j12 := j1.trans j2
              refine ⟨_, _, _, .ref D, xs, ds, s8, rfl, j12 _ _ eM, hV.same j12, hds, hdl, R.same j12, by omega, tF hF j12, tS hR j12, hT.ext j12, ?_⟩
              rw [ho]
              exact ⟨⟨D, .ref p, rfl, f2, .tup ((Tk.of j2).sqT (SqT.of f1)) (DpAll.tk (Tk.of j12) _ (flat_all_steps l) hP)⟩, hG⟩
          | error k =>
            rw [ho] at hD
            obtain ⟨⟨t, rfl, hSt⟩, hG⟩ := hD
            refine ⟨_, rfl, rfl, _, rfl, iteF ⟨_, rfl, _, rfl, .ref M, .list ds, rfl, ?_, sh1, nd1, dp1, ft1, _, _, rfl, ?_⟩⟩
            · exact .lst (SqL.of eM) hV.dp
            · refine ⟨_, _, _, .ref t, xs, ds, s8, rfl, eM, hV, hds, hdl, R, by omega, hF, hR, hT, ?_⟩
              rw [ho]
              exact ⟨⟨t, rfl, hSt⟩, hG⟩
        clear eM hV hds hdl R hF hR hT hD lxs sh1 nd1 dp1 ft1 hs8
        obtain ⟨z6, z8, z9, dv, xs, ds, s8, eσ, eM, hV, hds, hdl, R, hs8, hF, hR, hT, hD, hG⟩ := hB
        subst eσ
        have lxs := hV.dp.len
        obtain ⟨sh1, nd1, dp1, ft1⟩ := rep_list (fun d hd => (hds d hd).2) hdl
        refine ⟨hT, fun K1 x1 T1 => heard_moves (o := mvsL F l0 0 ds) (fun E1 N0 Qx v0 oo => ?_) (heardM_of fun N1 v1 w1 hd1 ne1 => ?_)⟩
        · have hF0 := tF (Dp.ext x1 _ hF) v0
          have hR0 := tS (Dp.ext x1 _ hR) v0
          have eM0 := v0 _ _ (extN_lst x1 eM)
          have hV0 := ((hV.ext x1).same v0)
          refine ⟨_, rfl, _, rfl, _, rfl, .inl ⟨M, xs, rfl, SqL.of eM0, fun p np => upd_gen np fun J1 j1 f1 => ?_⟩⟩
          exact ⟨f, r, p, F, l0, ds, rfl, tF hF0 j1, ok, tS hR0 j1, ⟨by omega, gl.2⟩, .tup (SqT.of f1) (hV0.same j1).dp, fun d hd => (hds d hd).1, by omega, outM_mono oo j1⟩
        have hF1 := tF (Dp.ext x1 _ hF) w1
        have hR1 := tS (Dp.ext x1 _ hR) w1
        have eM1 := w1 _ _ (extN_lst x1 eM)
        have hV1 := (hV.ext x1).same w1
        have hD1 := (hD.ext x1).same w1
        have T2 := T1.ext w1
        have R1 := (R.ext x1).same w1
        clear hF hR eM hV hD hT R
        refine ⟨one_sz, fun L nL => upd_gen nL fun N2 w2 e2 => ?_⟩
        have neD := hD1.ne nL
        have neV := hd1.ne nL
        have nLM : M ≠ L := ne_of_none eM1 nL
        have hF2 := tF hF1 w2
        have hR2 := tS hR1 w2
        have eM2 := w2 _ _ eM1
        have hV2 := hV1.same w2
        have hD2 := hD1.same w2
        have hd2 := hd1.same w2
        have R2 := R1.same w2
        have T3 := T2.ext w2
        have nL3 := R1.nm nL
        have nLN := nL
        clear hF1 hR1 eM1 hD1 hd1 T2 R1
        refine ⟨_, rfl, .inl ⟨rfl, _, SqL.of e2⟩, T3, fun K2 x2 T4 => heard_moves (o := mvsL F l0 0 ds) (fun E1 N0 Qx v0 oo => ?_) (heardM_of fun N3 v3 w3 hd3 ne3 => ?_)⟩
        · have hF0 := tF (Dp.ext x2 _ hF2) v0
          have hR0 := tS (Dp.ext x2 _ hR2) v0
          have eM0 := v0 _ _ (extN_lst x2 eM2)
          have hV0 := ((hV2.ext x2).same v0)
          refine ⟨_, rfl, _, rfl, _, rfl, .inl ⟨M, xs, rfl, SqL.of eM0, fun p np => upd_gen np fun J1 j1 f1 => ?_⟩⟩
          exact ⟨f, r, p, F, l0, ds, rfl, tF hF0 j1, ok, tS hR0 j1, ⟨by omega, gl.2⟩, .tup (SqT.of f1) (hV0.same j1).dp, fun d hd => (hds d hd).1, by omega, outM_mono oo j1⟩
        have eL0 := extN_lst x2 e2
        have eL3 := w3 _ _ eL0
        refine ⟨L, _, _, rfl, rfl, eL3, (show 1 < sizeLine from small1000 (by decide)), ?_⟩
        have tL := Tk.refl.lst (o := .lst ([v1] ++ [v3])) eL3
        have hF3 := Dp.tk tL _ (flat_field F) (tF (Dp.ext x2 _ hF2) w3)
        have hR3 := Dp.tk tL _ (flat_steps l0) (tS (Dp.ext x2 _ hR2) w3)
        have T5 := tabs_put (o := .lst ([v1] ++ [v3])) (T4.ext w3) eL3
        have R3 := ((R2.ext x2).same w3).put (o := .lst ([v1] ++ [v3])) nL3
        have hA := ((hd2.ext x2).same w3).put (q := .lst ([v1] ++ [v3])) eL3 neV
        have hB := hd3.put (q := .lst ([v1] ++ [v3])) eL3 (ne3 L _ eL0)
        have hC := ((hD2.ext x2).same w3).put (q := .lst ([v1] ++ [v3])) eL3 neD
        have eL4 : upd N3 L (.lst ([v1] ++ [v3])) L = some (.lst ([v1] ++ [v3])) := upd_same
        have hV3 := AllM.put (q := .lst ([v1] ++ [v3])) nLN eL3 hV1 ((hV2.ext x2).same w3)
        have eM3 : upd N3 L (.lst ([v1] ++ [v3])) M = some (.lst xs) := by
          rw [upd_ne nLM]
          exact w3 _ _ (extN_lst x2 eM2)
        generalize upd N3 L (.lst ([v1] ++ [v3])) = N4 at hF3 hR3 T5 R3 hA hB hC eL4 hV3 eM3 ⊢
        clear hF2 hR2 eM2 hV1 hV2 hD2 hd2 hd3 R2 T3 T4 eL3 eL0 tL
        obtain ⟨zh, zd⟩ := sz_heard ok hG
        -- what is heard is what is due
        refine ⟨_, rfl, _, rfl, _, rfl, two_sz, fun E nE => upd_gen nE fun N5 w5 e5 => ?_⟩
        have zz : Sz (.list [dHeard (mvsL F l0 0 ds), dHeard (mvsL F l0 0 ds)]) 90000 := (SzA.cons zh (by omega) (SzA.cons zh (by omega) SzA.nil)).lst.mono (by omega)
        refine ⟨.ref L, .ref E, .list [dHeard (mvsL F l0 0 ds), dHeard (mvsL F l0 0 ds)], rfl, .lst (SqL.of (w5 _ _ eL4)) (.cons (hA.same w5).dp (.cons (hB.same w5).dp .nil)), .lst (SqL.of e5) (.cons (hC.same w5).dp (.cons (hC.same w5).dp .nil)), zz, ?_⟩
        refine ⟨_, rfl, iteF ?_⟩
        refine ⟨_, rfl, .ref M, .list ds, rfl, .lst (SqL.of (w5 _ _ eM3)) (hV3.same w5).dp, sh1, nd1, dp1, ft1, _, rfl, rfl, _, rfl, ?_⟩
        rw [decide_eq_true (show V.str (PyData.list ds).shown = V.str (PyData.list ds).shown from rfl)]
        refine iteF ?_
        have hF4 := tF hF3 w5
        have hR4 := tS hR3 w5
        have T6 := T5.ext w5
        have R4 := R3.same w5
        have hC4 := hC.same w5
        clear hF3 hR3 T5 R3 hA hB hC eL4 hV3 eM3 e5
        generalize mvsL F l0 0 ds = o at hC4 hG
        have hCd := hC4.dp
        refine ⟨_, rfl, dv, .ty "list", _, _, _, rfl, .ty _, tyx_data hCd, kit_data (.inr (.inl rfl)) hCd, _, rfl, ?_⟩
        have done : ∀ (N : Hp), Same N5 N → InvO TT a m c g (i + 1) [some (.ref a), some (.ref m), some (.int (0 + (i : Int))), some (.ref f), some (.ref r), some (.ref M), z6, some dv, z8, z9, some (.str (PyData.list ds).shown), some (.ref L)] N :=
          fun N sN => ⟨_, _, _, _, _, _, _, _, _, _, s8, rfl, R4.same sN, by omega, T6.ext sN⟩
        cases o with
        | error k => exact iteF (iteF (done _ (Same.refl _)))
        | ok l =>
          obtain ⟨b, w0, rfl, eb, dw⟩ := hC4
          obtain ⟨n1, n2, n3, n4, n5⟩ := hG
          obtain ⟨p0, _, e0, _, _⟩ := dw.steps
          cases e0
          refine iteT ⟨_, rfl, _, rfl, b, _, 0, .ref p0, rfl, rfl, SqL.of eb, at_nil, F, f, p0, l, rfl, hF4, ok, dw, n2, n1, n4, fun N6 r6 w6 h6 => ?_⟩
          refine ⟨_, rfl, _, rfl, F, f, r, l0, rfl, tF hF4 w6, ok, tS hR4 w6, (fun s hs => (gl.2 s hs).1), (fun s hs => (gl.2 s hs).2.1), by omega, fun N7 r7 w7 h7 => ?_⟩
          refine ⟨_, _, tS h6 w7, h7, sh_dsteps (good_pile ok n2), sh_dsteps (good_pile ok fun s hs => (gl.2 s hs).1), ?_⟩
          rw [eqv_steps, n3, decide_eq_true rfl]
          exact ⟨_, rfl, iteF (done _ (w6.trans w7))⟩
    · obtain ⟨y2, y3, y4, y5, y6, y7, y8, y9, y10, y11, s2, eσ, R2, hs2, T2⟩ := hInv
      subst eσ
      exact ⟨rfl, T2, fun H3 => q H3⟩
end
end XB
set_option Elab.async false
set_option linter.all false
set_option maxRecDepth 100000
set_option maxHeartbeats 4000000
namespace XB
open PySem PySem.Spec PyProof.Rows L2
theorem tabIn_mk {K : PySem.W.Frag} {x : Str} {f c tab : Addr} {oc oc2 : Value} {od od2 : Option Addr} {fd : FuncData} {vs : Array Value} {osl osl2 : Array (Option Value)} (a : PySem.W.nsIn K mainGlobals x = some (some (.ref f))) (l : K.lookup f = some ⟨oc, od, .func fd, osl⟩) (e : fd.code = .ref c)
    (l2 : K.lookup c = some ⟨oc2, od2, .fields vs, osl2⟩) (e2 : vs[11]? = some (.ref tab)) : PySem.W.tabIn K x = some (c, tab) := by
  unfold PySem.W.tabIn
  rw [a]
  simp only
  rw [l]
  simp only
  rw [e]
  simp only
  rw [l2]
  simp only
  rw [e2]
def xsT : List Str := ["law", "_law_bounds_right"]
def spLawK (K : PySem.W.Frag) : Sp := fun vs H Q _ => ∃ (a : Addr) (ns : List Int), vs = [.ref a] ∧ SqL K H a (ns.map V.int) ∧ ns.length ≤ 1000 ∧ (∀ t ∈ tabsOf K xsT, H t.2 = some (.tbl #[])) ∧ ∀ H', Q (.bl true) H'
theorem FnG.imp {P : Program} {w : World} {K : PySem.W.Frag} {mg : Str → Option Value} {base : Heap} {CX : CXT} {k : Nat} {f : Addr} {fd : FuncData} {ps : List Str} {sp sp' : Sp} (F : FnG P w K mg base CX k f fd ps sp) (h : ∀ vs H Q E, sp' vs H Q E → sp vs H Q E) : FnG P w K mg base CX k f fd ps sp' :=
  ⟨fun vs H Q E q => F.many vs H Q E (h _ _ _ _ q), fun hg hr e0 hb r q => F.goes hg hr e0 hb r (h _ _ _ _ q)⟩
theorem law_mkT {P : Program} {w : World} {K : PySem.W.Frag} {h : Heap} {mg : Str → Option Value} {fa f f2 c1 t1 c2 t2 : Addr} {oc oc2 oc3 oc4 : Value} {od od2 od3 od4 an : Option Addr} {osl osl2 osl3 osl4 : Array (Option Value)} {kV doc pm ct : Value} {fd2 : FuncData} {vs1 vs2 : Array Value}
    (X : K.In h) (G : h.Ns mainGlobals mg) (hfa : mg "law" = some (.ref fa)) (T : Tx K mg)
    (a : PySem.W.nsIn K mainGlobals "law" = some (some (.ref f))) (l : K.lookup f = some ⟨oc, od, .func (PySem.W.fnOf "law" "law" (defArgs s_law) (defBody s_law) (defScope s_law) .none kV doc pm an (.ref c1) ct), osl⟩)
    (c : PySem.W.codeIn K (.ref c1) "law" = true) (k : PySem.W.keepIn K (.ref f) = true)
    (l2 : K.lookup c1 = some ⟨oc2, od2, .fields vs1, osl2⟩) (e2 : vs1[11]? = some (.ref t1))
    (a3 : PySem.W.nsIn K mainGlobals "_law_bounds_right" = some (some (.ref f2))) (l3 : K.lookup f2 = some ⟨oc3, od3, .func fd2, osl3⟩) (e3 : fd2.code = .ref c2) (l4 : K.lookup c2 = some ⟨oc4, od4, .fields vs2, osl4⟩) (e4 : vs2[11]? = some (.ref t2)) (ne : t1 ≠ t2) :
    ∃ fd : FuncData, (∀ (s : Shared) (v : Value), BindsTo s fd ⟨[v], []⟩ [("script", v)]) ∧ ∀ base : Heap, K.In base → base.Ns mainGlobals mg → (∀ t ∈ tabsOf K xsT, LamX.TabB base mg t.1 t.2) → FnG P w K mg base CX0 10 fa fd ["script"] (spLawK K) := by
  have e := hfa.symm.trans (PySem.W.mg_of X G a)
  cases e
  have i1 : PySem.W.tabIn K "law" = some (c1, t1) := tabIn_mk a l rfl l2 e2
  have i2 : PySem.W.tabIn K "_law_bounds_right" = some (c2, t2) := tabIn_mk a3 l3 e3 l4 e4
  have m1 : (c1, t1) ∈ tabsOf K xsT := List.mem_filterMap.mpr ⟨"law", List.mem_cons_self, i1⟩
  have m2 : (c2, t2) ∈ tabsOf K xsT := List.mem_filterMap.mpr ⟨"_law_bounds_right", List.mem_cons_of_mem _ List.mem_cons_self, i2⟩
  refine ⟨PySem.W.fnOf "law" "law" (defArgs s_law) (defBody s_law) (defScope s_law) .none kV doc pm an (.ref c1) ct, fun s v => .of_eq rfl, fun base X' G' hB => ?_⟩
  refine FnG.imp (fg_lawT T (fun_mk (st := s_law) l c k) hfa (codeT_mk X' G' i1 (hB _ m1)) (codeT_mk X' G' i2 (hB _ m2)) ne) fun vs H Q E q => ?_
  obtain ⟨b, ns, e, hS, hl, hT, q⟩ := q
  exact ⟨b, ns, e, hS, hl, hT _ m1, hT _ m2, q⟩
end XB
set_option Elab.async false
set_option linter.all false
set_option maxRecDepth 100000
namespace XB
open PySem PySem.Spec PyProof.Rows L2
theorem dn_mk {K : PySem.W.Frag} {h : Heap} {mg : Str → Option Value} {x : Str} {st : Stmt} {f : Addr} {oc : Value} {od an : Option Addr} {osl : Array (Option Value)} {kV doc pm cdv ct : Value} (X : K.In h) (G : h.Ns mainGlobals mg)
    (a : PySem.W.nsIn K mainGlobals x = some (some (.ref f))) (l : K.lookup f = some ⟨oc, od, .func (PySem.W.fnOf x x (defArgs st) (defBody st) (defScope st) .none kV doc pm an cdv ct), osl⟩)
    (c : PySem.W.codeIn K cdv x = true) (k : PySem.W.keepIn K (.ref f) = true) : Dn K mg x st := ⟨f, _, fun_mk l c k, PySem.W.mg_of X G a⟩
theorem int_mk {K : PySem.W.Frag} {h : Heap} {mg : Str → Option Value} {x : Str} {z n : Int} {t : Tok} (X : K.In h) (G : h.Ns mainGlobals mg) (a : PySem.W.nsIn K mainGlobals x = some (some (.int z t))) (e : z = n) : ∃ t, mg x = some (.int n t) :=
  ⟨t, by rw [← e]; exact PySem.W.mg_of X G a⟩
theorem loose_int {p : Program} {n : Str} {z : Int} {mg : Str → Option Value} {h : Heap} (x : PySem.W.XL p [(n, PySem.W.WData.int z)] mg h) : ∃ t, mg n = some (.int z t) := by
  obtain ⟨v, a, b⟩ := x.2.val _ List.mem_cons_self
  cases b
  exact ⟨_, a⟩
end XB
namespace XB
open PySem PySem.Spec PyProof.Rows L2
theorem ek_mk {K : PySem.W.Frag} {h : Heap} {mg : Str → Option Value} {x q : Str} {st : Stmt} {C fI N : Addr} {nm qn : Str} {bs bm : List Value} {sn : List Str} {sub : List Value} {ab : Bool} {col : Option Bool} {dd : Option Addr} {k0 k1 k2 k3 k5 : Option Value} {oc : Value} {od an : Option Addr} {osl : Array (Option Value)} {kV doc pm cdv ct : Value}
    (X : K.In h) (G : h.Ns mainGlobals mg) (a : PySem.W.nsIn K mainGlobals x = some (some (.ref C))) (l : K.lookup C = some (excClassObj nm qn C N bs bm true sn sub ab col dd k0 k1 k2 k3 k5 "ValueError.__new__")) (r : PySem.HandSPX.refsVE bm = true)
    (sa : PySem.W.findIn K (.ref C) "__setattr__" = some (some (.builtin "object.__setattr__"))) (xc : PySem.W.subIn K (.ref C) (.type "BaseException") = some true) (ty : PySem.W.typeIn K (.ref C) = some (.type "type")) (kC : PySem.W.keepIn K (.ref C) = true)
    (ga : PySem.W.findIn K (.ref C) "__getattribute__" = some (some (.builtin "BaseException.__getattribute__"))) (gg : PySem.W.findIn K (.ref C) "__getattr__" = some none) (hd : PySem.W.hasDictIn K C = true) (ca : PySem.W.findIn K (.ref C) "__class__" = some (some (.builtin "object.__class__")))
    (sp : PySem.W.specialIn K (.builtin "object.__class__") "__get__" = some (some (.builtin "getset_descriptor.__get__"))) (tk : PySem.W.takesIn K (.builtin "object.__class__") = some true) (mo : PySem.W.mroIn K C (.type "object") = some true)
    (i : PySem.W.findIn K (.ref C) "__init__" = some (some (.ref fI))) (ti : PySem.W.typeIn K (.ref fI) = some (.type "function")) (fl : K.lookup fI = some ⟨oc, od, .func (PySem.W.fnOf "__init__" q (defArgs st) (defBody st) (defScope st) .none kV doc pm an cdv ct), osl⟩)
    (fc : PySem.W.codeIn K cdv q = true) (fk : PySem.W.keepIn K (.ref fI) = true) : Ek K mg x q st :=
  ⟨C, fI, _, PySem.W.mg_of X G a, ⟨⟨nm, qn, N, bs, bm, sn, sub, ab, col, dd, k0, k1, k2, k3, k5, _, _, _, _, l, F.excBase_ValueError, fun Y => PySem.HandSPX.refsVE_contains Y bm r, fun self => PySem.HandSPX.refsVE_pass self (.ref C :: bm) r, (PySem.HandSPX.refsVE_contains "object" (.ref C :: bm) r).trans (by decide +kernel)⟩, sa, xc, ty, kC⟩, ⟨ga, gg, xc, hd, ca, sp, tk, mo⟩, i, ti, fun_mk fl fc fk⟩
theorem ek_mkO {K : PySem.W.Frag} {h : Heap} {mg : Str → Option Value} {x q : Str} {st : Stmt} {C fI N : Addr} {nm qn : Str} {bs bm : List Value} {sn : List Str} {sub : List Value} {ab : Bool} {col : Option Bool} {dd : Option Addr} {k0 k1 k2 k3 k5 : Option Value} {oc : Value} {od an : Option Addr} {osl : Array (Option Value)} {kV doc pm cdv ct : Value}
    (X : K.In h) (G : h.Ns mainGlobals mg) (a : PySem.W.nsIn K mainGlobals x = some (some (.ref C))) (l : K.lookup C = some (excClassObj nm qn C N bs bm true sn sub ab col dd k0 k1 k2 k3 k5 "OverflowError.__new__")) (r : bm = [.type "OverflowError", .type "ArithmeticError", .type "Exception", .type "BaseException", .type "object"])
    (sa : PySem.W.findIn K (.ref C) "__setattr__" = some (some (.builtin "object.__setattr__"))) (xc : PySem.W.subIn K (.ref C) (.type "BaseException") = some true) (ty : PySem.W.typeIn K (.ref C) = some (.type "type")) (kC : PySem.W.keepIn K (.ref C) = true)
    (ga : PySem.W.findIn K (.ref C) "__getattribute__" = some (some (.builtin "BaseException.__getattribute__"))) (gg : PySem.W.findIn K (.ref C) "__getattr__" = some none) (hd : PySem.W.hasDictIn K C = true) (ca : PySem.W.findIn K (.ref C) "__class__" = some (some (.builtin "object.__class__")))
    (sp : PySem.W.specialIn K (.builtin "object.__class__") "__get__" = some (some (.builtin "getset_descriptor.__get__"))) (tk : PySem.W.takesIn K (.builtin "object.__class__") = some true) (mo : PySem.W.mroIn K C (.type "object") = some true)
    (i : PySem.W.findIn K (.ref C) "__init__" = some (some (.ref fI))) (ti : PySem.W.typeIn K (.ref fI) = some (.type "function")) (fl : K.lookup fI = some ⟨oc, od, .func (PySem.W.fnOf "__init__" q (defArgs st) (defBody st) (defScope st) .none kV doc pm an cdv ct), osl⟩)
    (fc : PySem.W.codeIn K cdv q = true) (fk : PySem.W.keepIn K (.ref fI) = true) : Ek K mg x q st := by
  subst r
  refine ⟨C, fI, _, PySem.W.mg_of X G a, ⟨⟨nm, qn, N, bs, _, sn, sub, ab, col, dd, k0, k1, k2, k3, k5, _, _, _, _, l, F.excBase_OverflowError, fun _ => rfl, fun self => ?_, by rw [List.contains_cons]; exact (Bool.or_eq_true _ _).mpr (.inr (by decide +kernel))⟩, sa, xc, ty, kC⟩, ⟨ga, gg, xc, hd, ca, sp, tk, mo⟩, i, ti, fun_mk fl fc fk⟩
  rw [refuseLoop_ref]
  exact F.store_OverflowError.passes self
theorem v_mk {K : PySem.W.Frag} {h : Heap} {mg : Str → Option Value} {x : Str} {C N : Addr} {nm qn : Str} {bs bm : List Value} {sn : List Str} {sub : List Value} {ab : Bool} {col : Option Bool} {dd : Option Addr} {k0 k1 k2 k3 k5 : Option Value}
    (X : K.In h) (G : h.Ns mainGlobals mg) (a : PySem.W.nsIn K mainGlobals x = some (some (.ref C))) (l : K.lookup C = some (excClassObj nm qn C N bs bm true sn sub ab col dd k0 k1 k2 k3 k5 "ValueError.__new__")) (r : PySem.HandSPX.refsVE bm = true)
    (sa : PySem.W.findIn K (.ref C) "__setattr__" = some (some (.builtin "object.__setattr__"))) (xc : PySem.W.subIn K (.ref C) (.type "BaseException") = some true) (ty : PySem.W.typeIn K (.ref C) = some (.type "type")) (kC : PySem.W.keepIn K (.ref C) = true) : ∃ C, mg x = some (.ref C) ∧ OexC K C :=
  ⟨C, PySem.W.mg_of X G a, ⟨⟨nm, qn, N, bs, bm, sn, sub, ab, col, dd, k0, k1, k2, k3, k5, l, r⟩, sa, xc, ty, kC⟩⟩
theorem exm_mk {K : PySem.W.Frag} {h : Heap} {mg : Str → Option Value} {x y : Str} {C D : Addr} {b : Bool} (X : K.In h) (G : h.Ns mainGlobals mg) (a : PySem.W.nsIn K mainGlobals x = some (some (.ref C))) (c : PySem.W.nsIn K mainGlobals y = some (some (.ref D))) (n : PySem.W.exmOne K (.ref C) (.ref D) = some b) : Exm K mg x y b := fun C' D' z w => by
  rw [cls_eq z (PySem.W.mg_of X G a), cls_eq w (PySem.W.mg_of X G c)]
  exact n
theorem c_mk {K : PySem.W.Frag} {h : Heap} {mg : Str → Option Value} {x : Str} {C : Addr} (X : K.In h) (G : h.Ns mainGlobals mg) (a : PySem.W.nsIn K mainGlobals x = some (some (.ref C))) : ∃ C, mg x = some (.ref C) := ⟨C, PySem.W.mg_of X G a⟩
theorem nof_mk {K : PySem.W.Frag} {h : Heap} {mg : Str → Option Value} {x f : Str} {C : Addr} (X : K.In h) (G : h.Ns mainGlobals mg) (a : PySem.W.nsIn K mainGlobals x = some (some (.ref C))) (n : PySem.W.findIn K (.ref C) f = some none) : NoF K mg x f := fun D z => by
  rw [cls_eq z (PySem.W.mg_of X G a)]
  exact n
theorem kit_mk {K : PySem.W.Frag} {h : Heap} {mg : Str → Option Value} {x y : Str} {C D : Addr} {b : Bool} (X : K.In h) (G : h.Ns mainGlobals mg) (a : PySem.W.nsIn K mainGlobals x = some (some (.ref C))) (c : PySem.W.nsIn K mainGlobals y = some (some (.ref D))) (n : PySem.W.kitOne K (.ref C) (.ref D) = some b) : Kit K mg x y b := fun C' D' z w => by
  rw [cls_eq z (PySem.W.mg_of X G a), cls_eq w (PySem.W.mg_of X G c)]
  exact n
theorem kitB_mk {K : PySem.W.Frag} {h : Heap} {mg : Str → Option Value} {x : Str} {y : String} {C : Addr} {b : Bool} (X : K.In h) (G : h.Ns mainGlobals mg) (a : PySem.W.nsIn K mainGlobals x = some (some (.ref C))) (n : PySem.W.kitOne K (.ref C) (.type y) = some b) : KitB K mg x y b := fun C' z => by
  rw [cls_eq z (PySem.W.mg_of X G a)]
  exact n
end XB
open PySem PySem.W PyProof.Rows in
set_option maxRecDepth 100000 in
set_option maxHeartbeats 0 in
theorem PySem.Challenge.cw_deedpiles_k07_whole_moves_holds : PySem.Challenge.rw_deedpiles_k07_whole_moves.Holds := by
  w_on; o_law; k_head; (case hw => w_witness2)
  k_fill
  refine XB.walk_gT (TX := fun mg => (∃ t, mg "MOST_TIMES" = some (.int (10 ^ 30) t))) (l := PySem.Challenge.rw_deedpiles_k07_whole_moves) (n := 63) (k := 10) (x := "script") (sp := XB.spLawK) (xs := XB.xsT) rfl (by decide) rfl ⟨rfl, by decide, by decide⟩ ?told (fun w h Y => PySem.W.km_in_of Y) ?recs ?noT ?F (fun _ _ a ns hl hT s => ⟨a, ns, rfl, s, Nat.le_trans hl (by decide), hT, fun _ => rfl⟩)
  case recs =>
    intro y hy
    rcases List.mem_cons.mp hy with e | hy
    · rw [e]
      exact ⟨_, rfl⟩
    · rw [List.mem_singleton.mp hy]
      exact ⟨_, rfl⟩
  case noT =>
    intro w
    kernel_rfl
  case told =>
    intro mg h x
    exact XB.loose_int x
  case F =>
    intro w mg fa h KX G hmg hMT
    refine' XB.law_mkT KX G hmg ?T ?la ?ll ?lc ?lk ?ml ?me ?na ?nl ?ne ?nm ?nn ?nz
    case T =>
      constructor
      case c_PileError =>
        refine' XB.c_mk KX G ?z1a
        (case z1a => k_is)
      case c_BadField =>
        refine' XB.c_mk KX G ?z2a
        (case z2a => k_is)
      case c_BadScript =>
        refine' XB.c_mk KX G ?z3a
        (case z3a => k_is)
      case c_BadMoves =>
        refine' XB.c_mk KX G ?z4a
        (case z4a => k_is)
      case c_BadYard =>
        refine' XB.c_mk KX G ?z5a
        (case z5a => k_is)
      case c_BadSpot =>
        refine' XB.c_mk KX G ?z6a
        (case z6a => k_is)
      case c_BadPaper =>
        refine' XB.c_mk KX G ?z7a
        (case z7a => k_is)
      case e_BadField =>
        refine' XB.ek_mk KX G ?z8a ?z8b ?z8c ?z8d ?z8e ?z8f ?z8g ?z8h ?z8i ?z8j ?z8k ?z8l ?z8m ?z8n ?z8o ?z8p ?z8q ?z8r ?z8s
        (case z8a => first | k_is | rfl | decide +kernel)
        (case z8b => first | k_is | rfl | decide +kernel)
        (case z8c => first | k_is | rfl | decide +kernel)
        (case z8d => first | k_is | rfl | decide +kernel)
        (case z8e => first | k_is | rfl | decide +kernel)
        (case z8f => first | k_is | rfl | decide +kernel)
        (case z8g => first | k_is | rfl | decide +kernel)
        (case z8h => first | k_is | rfl | decide +kernel)
        (case z8i => first | k_is | rfl | decide +kernel)
        (case z8j => first | k_is | rfl | decide +kernel)
        (case z8k => first | k_is | rfl | decide +kernel)
        (case z8l => first | k_is | rfl | decide +kernel)
        (case z8m => first | k_is | rfl | decide +kernel)
        (case z8n => first | k_is | rfl | decide +kernel)
        (case z8o => first | k_is | rfl | decide +kernel)
        (case z8p => first | k_is | rfl | decide +kernel)
        (case z8q => first | k_is | rfl | decide +kernel)
        (case z8r => first | k_is | rfl | decide +kernel)
        (case z8s => first | k_is | rfl | decide +kernel)
      case e_BadScript =>
        refine' XB.ek_mk KX G ?z9a ?z9b ?z9c ?z9d ?z9e ?z9f ?z9g ?z9h ?z9i ?z9j ?z9k ?z9l ?z9m ?z9n ?z9o ?z9p ?z9q ?z9r ?z9s
        (case z9a => first | k_is | rfl | decide +kernel)
        (case z9b => first | k_is | rfl | decide +kernel)
        (case z9c => first | k_is | rfl | decide +kernel)
        (case z9d => first | k_is | rfl | decide +kernel)
        (case z9e => first | k_is | rfl | decide +kernel)
        (case z9f => first | k_is | rfl | decide +kernel)
        (case z9g => first | k_is | rfl | decide +kernel)
        (case z9h => first | k_is | rfl | decide +kernel)
        (case z9i => first | k_is | rfl | decide +kernel)
        (case z9j => first | k_is | rfl | decide +kernel)
        (case z9k => first | k_is | rfl | decide +kernel)
        (case z9l => first | k_is | rfl | decide +kernel)
        (case z9m => first | k_is | rfl | decide +kernel)
        (case z9n => first | k_is | rfl | decide +kernel)
        (case z9o => first | k_is | rfl | decide +kernel)
        (case z9p => first | k_is | rfl | decide +kernel)
        (case z9q => first | k_is | rfl | decide +kernel)
        (case z9r => first | k_is | rfl | decide +kernel)
        (case z9s => first | k_is | rfl | decide +kernel)
      case e_BadMoves =>
        refine' XB.ek_mk KX G ?z10a ?z10b ?z10c ?z10d ?z10e ?z10f ?z10g ?z10h ?z10i ?z10j ?z10k ?z10l ?z10m ?z10n ?z10o ?z10p ?z10q ?z10r ?z10s
        (case z10a => first | k_is | rfl | decide +kernel)
        (case z10b => first | k_is | rfl | decide +kernel)
        (case z10c => first | k_is | rfl | decide +kernel)
        (case z10d => first | k_is | rfl | decide +kernel)
        (case z10e => first | k_is | rfl | decide +kernel)
        (case z10f => first | k_is | rfl | decide +kernel)
        (case z10g => first | k_is | rfl | decide +kernel)
        (case z10h => first | k_is | rfl | decide +kernel)
        (case z10i => first | k_is | rfl | decide +kernel)
        (case z10j => first | k_is | rfl | decide +kernel)
        (case z10k => first | k_is | rfl | decide +kernel)
        (case z10l => first | k_is | rfl | decide +kernel)
        (case z10m => first | k_is | rfl | decide +kernel)
        (case z10n => first | k_is | rfl | decide +kernel)
        (case z10o => first | k_is | rfl | decide +kernel)
        (case z10p => first | k_is | rfl | decide +kernel)
        (case z10q => first | k_is | rfl | decide +kernel)
        (case z10r => first | k_is | rfl | decide +kernel)
        (case z10s => first | k_is | rfl | decide +kernel)
      case n_BadField_part =>
        refine' XB.nof_mk KX G ?z11a ?z11b
        (case z11a => first | k_is | rfl | decide +kernel)
        (case z11b => first | k_is | rfl | decide +kernel)
      case n_BadScript_place =>
        refine' XB.nof_mk KX G ?z12a ?z12b
        (case z12a => first | k_is | rfl | decide +kernel)
        (case z12b => first | k_is | rfl | decide +kernel)
      case n_BadMoves_place =>
        refine' XB.nof_mk KX G ?z13a ?z13b
        (case z13a => first | k_is | rfl | decide +kernel)
        (case z13b => first | k_is | rfl | decide +kernel)
      case x_BadField_PileError =>
        refine' XB.exm_mk KX G ?z14a ?z14b ?z14c
        (case z14a => first | k_is | rfl | decide +kernel)
        (case z14b => first | k_is | rfl | decide +kernel)
        (case z14c => first | k_is | rfl | decide +kernel)
      case x_BadScript_PileError =>
        refine' XB.exm_mk KX G ?z15a ?z15b ?z15c
        (case z15a => first | k_is | rfl | decide +kernel)
        (case z15b => first | k_is | rfl | decide +kernel)
        (case z15c => first | k_is | rfl | decide +kernel)
      case x_BadMoves_PileError =>
        refine' XB.exm_mk KX G ?z16a ?z16b ?z16c
        (case z16a => first | k_is | rfl | decide +kernel)
        (case z16b => first | k_is | rfl | decide +kernel)
        (case z16c => first | k_is | rfl | decide +kernel)
      case i_BadField_BadField =>
        refine' XB.kit_mk KX G ?z17a ?z17b ?z17c
        (case z17a => first | k_is | rfl | decide +kernel)
        (case z17b => first | k_is | rfl | decide +kernel)
        (case z17c => first | k_is | rfl | decide +kernel)
      case i_BadField_BadScript =>
        refine' XB.kit_mk KX G ?z18a ?z18b ?z18c
        (case z18a => first | k_is | rfl | decide +kernel)
        (case z18b => first | k_is | rfl | decide +kernel)
        (case z18c => first | k_is | rfl | decide +kernel)
      case i_BadField_BadMoves =>
        refine' XB.kit_mk KX G ?z19a ?z19b ?z19c
        (case z19a => first | k_is | rfl | decide +kernel)
        (case z19b => first | k_is | rfl | decide +kernel)
        (case z19c => first | k_is | rfl | decide +kernel)
      case i_BadField_BadYard =>
        refine' XB.kit_mk KX G ?z20a ?z20b ?z20c
        (case z20a => first | k_is | rfl | decide +kernel)
        (case z20b => first | k_is | rfl | decide +kernel)
        (case z20c => first | k_is | rfl | decide +kernel)
      case i_BadField_BadSpot =>
        refine' XB.kit_mk KX G ?z21a ?z21b ?z21c
        (case z21a => first | k_is | rfl | decide +kernel)
        (case z21b => first | k_is | rfl | decide +kernel)
        (case z21c => first | k_is | rfl | decide +kernel)
      case i_BadField_BadPaper =>
        refine' XB.kit_mk KX G ?z22a ?z22b ?z22c
        (case z22a => first | k_is | rfl | decide +kernel)
        (case z22b => first | k_is | rfl | decide +kernel)
        (case z22c => first | k_is | rfl | decide +kernel)
      case i_BadField_ValueError =>
        refine' XB.kitB_mk KX G ?z23a ?z23c
        (case z23a => first | k_is | rfl | decide +kernel)
        (case z23c => first | k_is | rfl | decide +kernel)
      case i_BadScript_BadField =>
        refine' XB.kit_mk KX G ?z24a ?z24b ?z24c
        (case z24a => first | k_is | rfl | decide +kernel)
        (case z24b => first | k_is | rfl | decide +kernel)
        (case z24c => first | k_is | rfl | decide +kernel)
      case i_BadScript_BadScript =>
        refine' XB.kit_mk KX G ?z25a ?z25b ?z25c
        (case z25a => first | k_is | rfl | decide +kernel)
        (case z25b => first | k_is | rfl | decide +kernel)
        (case z25c => first | k_is | rfl | decide +kernel)
      case i_BadScript_BadMoves =>
        refine' XB.kit_mk KX G ?z26a ?z26b ?z26c
        (case z26a => first | k_is | rfl | decide +kernel)
        (case z26b => first | k_is | rfl | decide +kernel)
        (case z26c => first | k_is | rfl | decide +kernel)
      case i_BadScript_BadYard =>
        refine' XB.kit_mk KX G ?z27a ?z27b ?z27c
        (case z27a => first | k_is | rfl | decide +kernel)
        (case z27b => first | k_is | rfl | decide +kernel)
        (case z27c => first | k_is | rfl | decide +kernel)
      case i_BadScript_BadSpot =>
        refine' XB.kit_mk KX G ?z28a ?z28b ?z28c
        (case z28a => first | k_is | rfl | decide +kernel)
        (case z28b => first | k_is | rfl | decide +kernel)
        (case z28c => first | k_is | rfl | decide +kernel)
      case i_BadScript_BadPaper =>
        refine' XB.kit_mk KX G ?z29a ?z29b ?z29c
        (case z29a => first | k_is | rfl | decide +kernel)
        (case z29b => first | k_is | rfl | decide +kernel)
        (case z29c => first | k_is | rfl | decide +kernel)
      case i_BadScript_ValueError =>
        refine' XB.kitB_mk KX G ?z30a ?z30c
        (case z30a => first | k_is | rfl | decide +kernel)
        (case z30c => first | k_is | rfl | decide +kernel)
      case i_BadMoves_BadField =>
        refine' XB.kit_mk KX G ?z31a ?z31b ?z31c
        (case z31a => first | k_is | rfl | decide +kernel)
        (case z31b => first | k_is | rfl | decide +kernel)
        (case z31c => first | k_is | rfl | decide +kernel)
      case i_BadMoves_BadScript =>
        refine' XB.kit_mk KX G ?z32a ?z32b ?z32c
        (case z32a => first | k_is | rfl | decide +kernel)
        (case z32b => first | k_is | rfl | decide +kernel)
        (case z32c => first | k_is | rfl | decide +kernel)
      case i_BadMoves_BadMoves =>
        refine' XB.kit_mk KX G ?z33a ?z33b ?z33c
        (case z33a => first | k_is | rfl | decide +kernel)
        (case z33b => first | k_is | rfl | decide +kernel)
        (case z33c => first | k_is | rfl | decide +kernel)
      case i_BadMoves_BadYard =>
        refine' XB.kit_mk KX G ?z34a ?z34b ?z34c
        (case z34a => first | k_is | rfl | decide +kernel)
        (case z34b => first | k_is | rfl | decide +kernel)
        (case z34c => first | k_is | rfl | decide +kernel)
      case i_BadMoves_BadSpot =>
        refine' XB.kit_mk KX G ?z35a ?z35b ?z35c
        (case z35a => first | k_is | rfl | decide +kernel)
        (case z35b => first | k_is | rfl | decide +kernel)
        (case z35c => first | k_is | rfl | decide +kernel)
      case i_BadMoves_BadPaper =>
        refine' XB.kit_mk KX G ?z36a ?z36b ?z36c
        (case z36a => first | k_is | rfl | decide +kernel)
        (case z36b => first | k_is | rfl | decide +kernel)
        (case z36c => first | k_is | rfl | decide +kernel)
      case i_BadMoves_ValueError =>
        refine' XB.kitB_mk KX G ?z37a ?z37c
        (case z37a => first | k_is | rfl | decide +kernel)
        (case z37c => first | k_is | rfl | decide +kernel)
      case b_ValueError =>
        refine' PySem.W.mg_none_of KX G ?z38a
        (case z38a => k_is)
      case b_abs =>
        refine' PySem.W.mg_none_of KX G ?z39a
        (case z39a => k_is)
      case b_all =>
        refine' PySem.W.mg_none_of KX G ?z40a
        (case z40a => k_is)
      case b_bool =>
        refine' PySem.W.mg_none_of KX G ?z41a
        (case z41a => k_is)
      case b_enumerate =>
        refine' PySem.W.mg_none_of KX G ?z42a
        (case z42a => k_is)
      case b_int =>
        refine' PySem.W.mg_none_of KX G ?z43a
        (case z43a => k_is)
      case b_isinstance =>
        refine' PySem.W.mg_none_of KX G ?z44a
        (case z44a => k_is)
      case b_len =>
        refine' PySem.W.mg_none_of KX G ?z45a
        (case z45a => k_is)
      case b_list =>
        refine' PySem.W.mg_none_of KX G ?z46a
        (case z46a => k_is)
      case b_max =>
        refine' PySem.W.mg_none_of KX G ?z47a
        (case z47a => k_is)
      case b_min =>
        refine' PySem.W.mg_none_of KX G ?z48a
        (case z48a => k_is)
      case b_range =>
        refine' PySem.W.mg_none_of KX G ?z49a
        (case z49a => k_is)
      case b_repr =>
        refine' PySem.W.mg_none_of KX G ?z50a
        (case z50a => k_is)
      case b_sorted =>
        refine' PySem.W.mg_none_of KX G ?z51a
        (case z51a => k_is)
      case b_str =>
        refine' PySem.W.mg_none_of KX G ?z52a
        (case z52a => k_is)
      case b_tuple =>
        refine' PySem.W.mg_none_of KX G ?z53a
        (case z53a => k_is)
      case b_zip =>
        refine' PySem.W.mg_none_of KX G ?z54a
        (case z54a => k_is)
      case g_MOST_NAMES =>
        refine' XB.int_mk KX G ?z55a ?z55q
        (case z55a => k_is)
        (case z55q => rfl)
      case g_MOST_LETTERS =>
        refine' XB.int_mk KX G ?z56a ?z56q
        (case z56a => k_is)
        (case z56q => rfl)
      case g_MOST_STEPS =>
        refine' XB.int_mk KX G ?z57a ?z57q
        (case z57a => k_is)
        (case z57q => rfl)
      case g_MOST_TIMES => exact hMT
      case g_MOST_MOVES =>
        refine' XB.int_mk KX G ?z59a ?z59q
        (case z59a => k_is)
        (case z59q => rfl)
      case g_MOST_MOVED_STEPS =>
        refine' XB.int_mk KX G ?z60a ?z60q
        (case z60a => k_is)
        (case z60q => rfl)
      case d_is_whole =>
        refine' XB.dn_mk KX G ?z61a ?z61l ?z61c ?z61k
        (case z61a => k_is)
        (case z61l => k_is)
        (case z61c => k_is)
        (case z61k => k_is)
      case d_is_pair =>
        refine' XB.dn_mk KX G ?z62a ?z62l ?z62c ?z62k
        (case z62a => k_is)
        (case z62l => k_is)
        (case z62c => k_is)
        (case z62k => k_is)
      case d_is_ascending =>
        refine' XB.dn_mk KX G ?z63a ?z63l ?z63c ?z63k
        (case z63a => k_is)
        (case z63l => k_is)
        (case z63c => k_is)
        (case z63k => k_is)
      case d_need_field =>
        refine' XB.dn_mk KX G ?z64a ?z64l ?z64c ?z64k
        (case z64a => k_is)
        (case z64l => k_is)
        (case z64c => k_is)
        (case z64k => k_is)
      case d_are_apart =>
        refine' XB.dn_mk KX G ?z65a ?z65l ?z65c ?z65k
        (case z65a => k_is)
        (case z65l => k_is)
        (case z65c => k_is)
        (case z65k => k_is)
      case d_are_names =>
        refine' XB.dn_mk KX G ?z66a ?z66l ?z66c ?z66k
        (case z66a => k_is)
        (case z66l => k_is)
        (case z66c => k_is)
        (case z66k => k_is)
      case d_is_name =>
        refine' XB.dn_mk KX G ?z67a ?z67l ?z67c ?z67k
        (case z67a => k_is)
        (case z67l => k_is)
        (case z67c => k_is)
        (case z67k => k_is)
      case d_are_pairs =>
        refine' XB.dn_mk KX G ?z68a ?z68l ?z68c ?z68k
        (case z68a => k_is)
        (case z68l => k_is)
        (case z68c => k_is)
        (case z68k => k_is)
      case d_is_pair_of =>
        refine' XB.dn_mk KX G ?z69a ?z69l ?z69c ?z69k
        (case z69a => k_is)
        (case z69l => k_is)
        (case z69c => k_is)
        (case z69k => k_is)
      case d_need_script =>
        refine' XB.dn_mk KX G ?z70a ?z70l ?z70c ?z70k
        (case z70a => k_is)
        (case z70l => k_is)
        (case z70c => k_is)
        (case z70k => k_is)
      case d_is_step =>
        refine' XB.dn_mk KX G ?z71a ?z71l ?z71c ?z71k
        (case z71a => k_is)
        (case z71l => k_is)
        (case z71c => k_is)
        (case z71k => k_is)
      case d_is_great_step =>
        refine' XB.dn_mk KX G ?z72a ?z72l ?z72c ?z72k
        (case z72a => k_is)
        (case z72l => k_is)
        (case z72c => k_is)
        (case z72k => k_is)
      case d_is_times =>
        refine' XB.dn_mk KX G ?z73a ?z73l ?z73c ?z73k
        (case z73a => k_is)
        (case z73l => k_is)
        (case z73c => k_is)
        (case z73k => k_is)
      case d_moved =>
        refine' XB.dn_mk KX G ?z74a ?z74l ?z74c ?z74k
        (case z74a => k_is)
        (case z74l => k_is)
        (case z74c => k_is)
        (case z74k => k_is)
      case d_after_move =>
        refine' XB.dn_mk KX G ?z75a ?z75l ?z75c ?z75k
        (case z75a => k_is)
        (case z75l => k_is)
        (case z75c => k_is)
        (case z75k => k_is)
      case d_after_change =>
        refine' XB.dn_mk KX G ?z76a ?z76l ?z76c ?z76k
        (case z76a => k_is)
        (case z76l => k_is)
        (case z76c => k_is)
        (case z76k => k_is)
      case d_after_join =>
        refine' XB.dn_mk KX G ?z77a ?z77l ?z77c ?z77k
        (case z77a => k_is)
        (case z77l => k_is)
        (case z77c => k_is)
        (case z77k => k_is)
      case d_after_part =>
        refine' XB.dn_mk KX G ?z78a ?z78l ?z78c ?z78k
        (case z78a => k_is)
        (case z78l => k_is)
        (case z78c => k_is)
        (case z78k => k_is)
      case d_after_put =>
        refine' XB.dn_mk KX G ?z79a ?z79l ?z79c ?z79k
        (case z79a => k_is)
        (case z79l => k_is)
        (case z79c => k_is)
        (case z79k => k_is)
      case d__law_mixed =>
        refine' XB.dn_mk KX G ?z80a ?z80l ?z80c ?z80k
        (case z80a => k_is)
        (case z80l => k_is)
        (case z80c => k_is)
        (case z80k => k_is)
      case d__law_folded =>
        refine' XB.dn_mk KX G ?z81a ?z81l ?z81c ?z81k
        (case z81a => k_is)
        (case z81l => k_is)
        (case z81c => k_is)
        (case z81k => k_is)
      case d__law_draw =>
        refine' XB.dn_mk KX G ?z82a ?z82l ?z82c ?z82k
        (case z82a => k_is)
        (case z82l => k_is)
        (case z82c => k_is)
        (case z82k => k_is)
      case d__law_begun =>
        refine' XB.dn_mk KX G ?z83a ?z83l ?z83c ?z83k
        (case z83a => k_is)
        (case z83l => k_is)
        (case z83c => k_is)
        (case z83k => k_is)
      case d__law_like =>
        refine' XB.dn_mk KX G ?z84a ?z84l ?z84c ?z84k
        (case z84a => k_is)
        (case z84l => k_is)
        (case z84c => k_is)
        (case z84k => k_is)
      case d__law_field =>
        refine' XB.dn_mk KX G ?z85a ?z85l ?z85c ?z85k
        (case z85a => k_is)
        (case z85l => k_is)
        (case z85c => k_is)
        (case z85k => k_is)
      case d__law_script =>
        refine' XB.dn_mk KX G ?z86a ?z86l ?z86c ?z86k
        (case z86a => k_is)
        (case z86l => k_is)
        (case z86c => k_is)
        (case z86k => k_is)
      case d__law_apart =>
        refine' XB.dn_mk KX G ?z87a ?z87l ?z87c ?z87k
        (case z87a => k_is)
        (case z87l => k_is)
        (case z87c => k_is)
        (case z87k => k_is)
      case d__law_met =>
        refine' XB.dn_mk KX G ?z88a ?z88l ?z88c ?z88k
        (case z88a => k_is)
        (case z88l => k_is)
        (case z88c => k_is)
        (case z88k => k_is)
      case d__law_pile =>
        refine' XB.dn_mk KX G ?z89a ?z89l ?z89c ?z89k
        (case z89a => k_is)
        (case z89l => k_is)
        (case z89c => k_is)
        (case z89k => k_is)
      case d__law_first =>
        refine' XB.dn_mk KX G ?z90a ?z90l ?z90c ?z90k
        (case z90a => k_is)
        (case z90l => k_is)
        (case z90c => k_is)
        (case z90k => k_is)
      case d__law_least =>
        refine' XB.dn_mk KX G ?z91a ?z91l ?z91c ?z91k
        (case z91a => k_is)
        (case z91l => k_is)
        (case z91c => k_is)
        (case z91k => k_is)
      case d__law_heard =>
        refine' XB.dn_mk KX G ?z92a ?z92l ?z92c ?z92k
        (case z92a => k_is)
        (case z92l => k_is)
        (case z92c => k_is)
        (case z92k => k_is)
      case d__law_moved =>
        refine' XB.dn_mk KX G ?z93a ?z93l ?z93c ?z93k
        (case z93a => k_is)
        (case z93l => k_is)
        (case z93c => k_is)
        (case z93k => k_is)
      case d__law_is_step =>
        refine' XB.dn_mk KX G ?z94a ?z94l ?z94c ?z94k
        (case z94a => k_is)
        (case z94l => k_is)
        (case z94c => k_is)
        (case z94k => k_is)
      case d__law_move =>
        refine' XB.dn_mk KX G ?z95a ?z95l ?z95c ?z95k
        (case z95a => k_is)
        (case z95l => k_is)
        (case z95c => k_is)
        (case z95k => k_is)
      case d__law_bounds_right =>
        refine' XB.dn_mk KX G ?z96a ?z96l ?z96c ?z96k
        (case z96a => k_is)
        (case z96l => k_is)
        (case z96c => k_is)
        (case z96k => k_is)
      case d_law =>
        refine' XB.dn_mk KX G ?z97a ?z97l ?z97c ?z97k
        (case z97a => k_is)
        (case z97l => k_is)
        (case z97c => k_is)
        (case z97k => k_is)
    (case la => k_is)
    (case ll => k_is)
    (case lc => k_is)
    (case lk => k_is)
    (case ml => k_is)
    (case me => rfl)
    (case na => k_is)
    (case nl => k_is)
    (case ne => rfl)
    (case nm => k_is)
    (case nn => rfl)
    (case nz => decide)
