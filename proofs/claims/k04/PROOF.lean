import PyProof.Rows.All
import Wide.All
import OpenK.AllK
import Wide.FinOn
import PySem.Challenge.RW_lexiconlines_k04_whole_texts_of_books
import HandS.ForMost
import HandS.Zip
import HandS.IsInst
import HandS.Walk
import HandS.ExcInit
import HandS.ExcIs
import HandS.More
import KE.KExcInit
import KE.KExcSuper
import HandS.Defaults
import HandS.MakeKwOnly
import HandS.TryMany
import HandS.ExcValue
import HandS.ForExc
import HandS.ExcField
import HandS.SortInts
import KE.SortData
import HandS.Strs
import HandS.Set
import HandS.TupAny
import HandS.Wide
import HandS.Flow
import HandS.Deep
import HandS.TupMul
import HandS.StrMore
import PyProof.Rows.StrMul
import KE.SortKeyHeap
import KE.GoesMore
import KE.GoesZip
import HandS.Replace
import HandS.SlotsOwn
import HandS.Conv
import HandS.Call
import HandS.ClsMeth
import HandS.ExcOwn
import KE.KUnpackStar
import HandS.Dict
import HandS.Iter
import HandS.FStr
import HandS.Text
import HandS.Codes
import HandS.RaiseMore
import PyProof.StrLawsIn
import KE.OsRunLaw
set_option Elab.async false
set_option linter.all false
set_option maxRecDepth 100000
set_option maxHeartbeats 4000000
/-! exceptions as values: their class asked -/
namespace Ke
open PySem PySem.Spec PySem.W PySem.Calls PyProof.Rows
section
variable {prog : Program} {w : World} {A : Around} {E : Value → Shared → Prop} {s : Shared} {K : Frag} {x D : Addr} {ox : Obj} {od : Option Obj}
theorem bindsClass {C : Addr} {nm : Str} {a g : Value} (h1 : (clsIn K C).isSome = true) (h2 : findIn K (.ref C) nm = some (some a)) (h3 : specialIn K a "__get__" = some (some g)) (h4 : takesIn K a = some true) : findObj K C od nm = some (.bind g a) := by
  cases e : clsIn K C with
  | none => rw [e] at h1; cases h1
  | some cd =>
    unfold findObj
    rw [e, Option.bind_some, h2, Option.bind_some]
    simp [h3, h4]
theorem askClass {Q : Option Value → Shared → Prop} (c : L2.ExcC K D) (Y : K.In s.heap) (I : InstAt s.heap x ox D od) (q : Q (some (.ref D)) { s with toks := s.toks + 1 }) :
    wpAny (model prog w) A (getAttr? (.ref x) "__class__") Q E s := by
  have hf : findObj K D od "__class__" = some (.bind (.builtin "getset_descriptor.__get__") (.builtin "object.__class__")) :=
    bindsClass (by obtain ⟨cd, hc, _⟩ := any_some c.hd; rw [hc]; rfl) c.ha c.hn c.ht
  obtain ⟨hp, g, d, t, os⟩ := s
  have y0 := I.type (M := model prog w)
  have y1 := looks_findIn (M := model prog w) Y c.hg
  have y2 := looks_findIn (M := model prog w) Y c.hk
  have y3 := looks_find (M := model prog w) Y I hf
  have sub : Looks (model prog w) hp (isInstance (.ref x) (.type "BaseException")) true := y0.andThen (looks_subIn Y c.hs)
  have n0 : (false && onTheHeap (Value.builtin "BaseException.__getattribute__")) = false := rfl
  have n2 : (Value.builtin "BaseException.__getattribute__" == Value.builtin "object.__getattribute__") = false := by decide +kernel
  have n1 : (onTheHeap (Value.ref D) && Value.builtin "BaseException.__getattribute__" == Value.builtin "object.__getattribute__") = false := by rw [n2]; rfl
  unfold getAttr? getAttrBy? getAttrBy
  refine wpAny_bind (wpAny_mkText (wpAny_bind (wpAny_attempt (wpAny_holding (wpAny_bind (y0.at (wpAny_bind (y1.at ?_))))))))
  show wpAny _ _ (if (onTheHeap (Value.ref D) && Value.builtin "BaseException.__getattribute__" == Value.builtin "object.__getattribute__") = true then _ else _) _ _ _
  rw [n1, if_neg Bool.false_ne_true]
  unfold getAttrByItsOwn hookBefore
  refine wpAny_bind ?_; rw [if_pos (show onTheHeap (Value.ref D) = true from rfl)]
  refine y2.at (wpAny_bind (wpAny_attempt (wpAny_holding ?_)))
  unfold callGetattribute; rw [n0, if_neg Bool.false_ne_true]
  unfold boundAndCalled; rw [PySem.F.excAttr_ValueError.ga.bind (.ref x)]
  refine wpAny_bind (wpAny_pure ?_)
  show wpAny _ _ (call (.builtin "BaseException.__getattribute__") [.ref x, .str "__class__" t]) _ _ _
  refine wpAny_call (codeAny_call_builtin PySem.F.excAttr_ValueError.ga.plain PySem.F.entry_bexc_ga (@check_slot (model prog w) _ _ ⟨hp, g, d, t + 1, os⟩ "BaseException.__getattribute__" "BaseException" "__getattribute__" (.ref x) [.str "__class__" t] [] _ (by decide +kernel) (by decide +kernel) sub (PySem.F.args_bexc_ga (.ref x) (.str "__class__" t)) ?_))
  unfold Builtin.«object.__getattribute__»
  refine wpAny_bind (wpAny_of_eq (a := ((Value.ref x : Value), [Value.str "__class__" t])) (by first | rfl | (simp only [slotArgs]; rfl)) (wpAny_bind (wpAny_pure (wpAny_bind (y0.at (wpAny_bind (y3.at ?_)))))))
  show wpAny _ _ (holding [Value.builtin "object.__class__"] (call (.builtin "getset_descriptor.__get__") [.builtin "object.__class__", .ref x, .ref D]) >>= ret) _ _ _
  refine wpAny_bind (wpAny_holding (wpAny_call (class_get (s := ⟨hp, g, d, t + 1, os⟩) (ox := ox) (od := od) Y I c.hm (wpAny_pure ?_))))
  show wpAny _ _ (handedOut (.ref D)) _ _ _
  rw [handedOut_of (v := .ref D) rfl]
  first | exact wpAny_pure (wpAny_pure q) | exact wpAny_pure q | exact wpAny_pure (wpAny_bind (wpAny_pure (wpAny_pure q)))
theorem kitE (c : L2.ExcC K D) : KitX K (.ref x) (.ref D) (fun h => InstAt h x ox D od) where
  ty := fun _ _ _ I => I.type
  it := fun _ _ Y _ => by
    obtain ⟨cd, e, _⟩ := any_some c.hd
    unfold clsIn at e; split at e
    · rename_i _ _ _ _ ho
      intro _ _ _ _ k q; unfold isType loadHead; exact wpAny_bind (wpAny_loadPart (k _ _ (Y _ _ ho)) (wpAny_pure q))
    · cases e
  ne := (handS_kitx_exc (x := x) (ox := ox) c.hg c.hk c.hs c.hd c.ha c.hn c.ht c.hm).ne
  ca := fun Y I k => askClass c Y I k
end

open L2
/-- the type of a value, an exception too -/
inductive TyE (K : PySem.W.Frag) (H : Hp) : V → Value → Prop where
  | base {x : V} {t : Value} (h : TyX K H x t) : TyE K H x t
  | exc0 {a C : Addr} (e : H a = some (exo a C none)) (c : ExcC K C) : TyE K H (.ref a) (.ref C)
  | excD {a C dx : Addr} {fs : List (Str × V)} (e : H a = some (exo a C (some dx))) (e2 : H dx = some (exd dx fs)) (c : ExcC K C) : TyE K H (.ref a) (.ref C)
theorem TyE.kit {X : Cx} {pins : List (Addr × Obj)} {σ : L2.St} {H : Hp} {s : Shared} {x : V} {u t : Value} (I : Inv X pins σ H s) (rx : RelV x u) (ty : TyE X.K H x t) : ∃ P : Heap → Prop, PySem.W.KitX X.K u t P ∧ P s.heap ∧ u ≠ .builtin "__main__.__loader__#opaque" := by
  cases ty with
  | base h => exact kit_of I rx h
  | @exc0 a C e c =>
    cases (show u = Value.ref a from rx)
    obtain ⟨t1, ho⟩ := exo_at I.hok e
    exact ⟨_, kitE (od := none) c, ⟨ho, rfl, rfl, trivial⟩, fun z => nomatch z⟩
  | @excD a C dx fs e e2 c =>
    cases (show u = Value.ref a from rx)
    obtain ⟨t1, ho⟩ := exo_at I.hok e
    obtain ⟨mA, ⟨o, es, ep, hd, r⟩, _⟩ := exd_at I.hok e2
    exact ⟨_, kitE (od := some o) c, ⟨ho, rfl, rfl, hd⟩, fun z => nomatch z⟩
/-- isinstance(x, c) -/
def rIs1 (K : PySem.W.Frag) : List V → Hp → VK → Prop := fun xs H Q => ∃ (x c : V) (t u : Value) (b : Bool), xs = [x, c] ∧ ClsV c u ∧ TyE K H x t ∧ PySem.W.kitOne K t u = some b ∧ Q (.bl b) H
/-- isinstance(x, (c, ..)) -/
def rIsN (K : PySem.W.Frag) : List V → Hp → VK → Prop := fun xs H Q => ∃ (x : V) (tp : Addr) (cs : List V) (t : Value) (us : List Value) (b : Bool), xs = [x, .ref tp] ∧ H tp = some (.tup cs) ∧ Paired ClsV cs us ∧ TyE K H x t ∧ PySem.W.kitAny K t us = some b ∧ Q (.bl b) H
theorem call_is1 {X : Cx} : CallR X (.builtin "isinstance") (rIs1 X.K) := fun pins s σ H xs us Q I r h => by
  obtain ⟨x, c, t, u, b, rfl, k, ty, e, q⟩ := h
  obtain ⟨u1, u2, rfl, r1, r2⟩ := vals2 r
  cases k.eq r2
  obtain ⟨_, Z, p, hx⟩ := ty.kit I r1
  exact PySem.W.kia_one Z I.kIn p e hx fun _ => ⟨.bl b, H, I.tok _, rfl, q⟩
theorem call_isN {X : Cx} : CallR X (.builtin "isinstance") (rIsN X.K) := fun pins s σ H xs us Q I r h => by
  obtain ⟨x, tp, cs, t, ws, b, rfl, hT, k, ty, e, q⟩ := h
  obtain ⟨u1, u2, rfl, r1, r2⟩ := vals2 r
  cases (show u2 = Value.ref tp from r2)
  obtain ⟨_, Z, p, hx⟩ := ty.kit I r1
  obtain ⟨_, its, rv, ⟨oc, od, dt, sl⟩, h1, h2, n, h3⟩ := (show ObjOk X.prog X.w H s.heap tp (.tup cs) from I.hok tp _ hT)
  cases ClsV.all k rv
  cases h2
  cases h3
  exact PySem.W.kia_tup Z I.kIn p h1 e hx fun _ => ⟨.bl b, H, I.tok _, rfl, q⟩

section
variable {prog : Program} {w : World} {A : Around} {E : Value → Shared → Prop} {s : Shared} {K : PySem.W.Frag} {x C : Addr} {ox : Obj} {od : Option Obj}
/-- an object beside itself -/
theorem self_eq {Q : Value → Shared → Prop} (hu : A.units < cLine) (Y : K.In s.heap) (I : PySem.W.InstAt s.heap x ox C od) (hm : PySem.W.mroIn K C (.type "object") = some true) (hs : PySem.W.findIn K (.ref C) "__eq__" = some (some (.builtin "object.__eq__"))) (q : Q (.bool true) s) :
    wpAny (model prog w) A (compareOp .Eq (.ref x) (.ref x)) Q E s := by
  show wpAny (model prog w) A (richCompare .Eq (.ref x) (.ref x)) Q E s
  have one : wpAny (model prog w) A (tryCompare (.ref x) "__eq__" (.ref x)) (fun r s' => r = some (.bool true) ∧ s' = s) E s := by
    unfold tryCompare
    refine wpAny_bind (HN.ifBound_objEq Y I hs (wpAny_call (codeAny_call_builtin F.cmp_object.eq.plain F.cmpEntry_eq (PySem.W.check_slot F.cmpKind_eq F.cmpSplit_eq (I.type.andThen (PySem.W.looks_mroIn Y hm)) (F.cmpArgs_eq _ _) (objEq_entry_same (wpAny_pure ⟨rfl, rfl⟩))))))
  simp only [richCompare, cmpInfo_Eq, oneThing_ref]
  refine wpAny_holding (wpAny_bind (wpAny_cRoomFor hu ?_))
  refine wpAny_bind (I.type.here (wpAny_bind (I.type.here ?_)))
  rw [if_neg (by simp)]
  refine wpAny_bind (wpAny_pure ?_)
  simp only [Bool.false_eq_true, if_false, Bool.not_false, if_true]
  refine wpAny_bind (m := tryCompare (.ref x) _ (.ref x)) (wpAny_mono one (fun r s1 z => ?_) fun _ _ e => e)
  obtain ⟨rfl, rfl⟩ := z
  exact wpAny_pure q
end
/-- what a class says, whose objects are equal to themselves alone -/
structure EqSelf (K : PySem.W.Frag) (C : Addr) : Prop where
  ex : ExcC K C
  eq : PySem.W.findIn K (.ref C) "__eq__" = some (some (.builtin "object.__eq__"))
def rSelf (K : PySem.W.Frag) : R2 := fun x y H Q => (scal x y = true ∧ Q (.bl (decide (x = y))) H) ∨ ∃ a C : Addr, x = .ref a ∧ y = .ref a ∧ H a = some (exo a C none) ∧ EqSelf K C ∧ Q (.bl true) H
theorem op_self {X : Cx} (hu : X.A.units < cLine) : OpR X (compareOp .Eq) (rSelf X.K) := fun pins s σ H x y v u Q I rx ry h => by
  rcases h with h | ⟨a, C, rfl, rfl, e, c, q⟩
  · exact op_eq pins s σ H x y v u Q I rx ry h
  · cases (show v = Value.ref a from rx)
    cases (show u = Value.ref a from ry)
    obtain ⟨t1, ho⟩ := exo_at I.hok e
    exact self_eq (od := none) hu I.kIn ⟨ho, rfl, rfl, trivial⟩ c.ex.hm c.eq ⟨.bl true, H, I, rfl, q⟩
end Ke

set_option Elab.async false
set_option linter.all false
set_option maxRecDepth 100000
set_option maxHeartbeats 4000000
/-! exceptions of any built-in base: attributes stored and read -/
namespace Ke
open PySem PySem.Spec PySem.W PySem.Calls PyProof.Rows
section
open Builtin Builtin.ObjectAttr
variable {prog : Program} {w : World} {A : Around} {E : Value → Shared → Prop} {R : Result → Shared → Prop} {hp : Heap} {g : Array GenState} {d : Drawn} {t : Nat} {os : OsState} {B : String} {bmB : List Value} {K : W.Frag} {name : Str} {tk : Tok} {v : Value} {x C dx : Addr} {fv : Array Value}
theorem taker_none (ha : W.findIn K (.ref C) name = some none) : W.takerIn K C name = some none := by unfold W.takerIn; rw [ha]; rfl
/-- the first attribute -/
theorem osa_first (SF : StoreFacts B bmB "object.__setattr__" "object") (Y : K.In hp) (hx : hp.get? x = some { cls := .ref C, data := .fields fv }) (ov : excOver K C bmB = true) (hd : hasDictIn K C = true) (ha : W.findIn K (.ref C) name = some none)
    (hq : ∀ h' tk' dx, (∀ b o, b ≠ x → hp.get? b = some o → h'.get? b = some o) → hp.objs.size ≤ dx → dx ≠ x → h'.get? x = some { cls := .ref C, dict := some dx, data := .fields fv } →
      h'.Ns1 dx (fun y => if y = name then some v else none) → R (.ok (.ret .none)) ⟨h', g, d, tk', os⟩) :
    codeAny (model prog w) A (.call (.builtin "object.__setattr__") ⟨[.ref x, .str name tk, v], []⟩) R ⟨hp, g, d, t, os⟩ := by
  have hxs : x ≠ hp.objs.size := Nat.ne_of_lt (Heap.lt_size hx)
  refine osa_openX (od := none) SF Y ⟨hx, rfl, rfl, trivial⟩ ov (taker_none ha) fun b => ?_
  obtain ⟨⟨nm, bs, mro, ns, qn, hdd, sn, sb, ab, col, del⟩, hc, hh⟩ := any_some hd
  have hcls := W.looks_clsIn (M := model prog w) Y hc
  dsimp only at hh
  subst hh
  show wpAny _ _ (storeInOwnDict (.ref x) (.ref C) (.str name tk) name v b) _ _ _
  unfold storeInOwnDict ownDictForStores
  repeat (first | with_reducible refine HandSPX.store_in_new ?_ ?_ | with_reducible refine wpAny_loadPart_at hx ?_ | with_reducible refine hcls.at ?_ | wp_step)
  · exact ⟨_, #[], _, (Heap.get?_update_ne _ _ _ _ hxs.symm).trans (Heap.get?_push_at rfl rfl), rfl, fun e he => absurd he (by simp), fun _ => rfl⟩
  · intro h' tk' hn' hs
    have hx₁ : (hp.push { cls := .type "dict", data := .dict #[] }).get? x = some { cls := .ref C, data := .fields fv } := Heap.get?_push_of_some _ hx
    exact hq h' tk' hp.objs.size (fun b o hb ho => (hs.2 b (Nat.ne_of_lt (Heap.lt_size ho))).trans ((Heap.get?_update_ne _ _ _ _ hb).trans (Heap.get?_push_of_some _ ho))) (Nat.le_refl _) hxs.symm
      ((hs.2 x hxs).trans (Heap.get?_update_self _ hx₁ rfl)) hn'
/-- a further attribute -/
theorem osa_next {m0 : Str → Option Value} {nl : List Str} (SF : StoreFacts B bmB "object.__setattr__" "object") (Y : K.In hp) (hx : hp.get? x = some { cls := .ref C, dict := some dx, data := .fields fv }) (hns : hp.Ns1 dx m0) (hw : Within m0 nl) (hz : nl.length ≤ 1000)
    (ov : excOver K C bmB = true) (hd : hasDictIn K C = true) (ha : W.findIn K (.ref C) name = some none)
    (hq : ∀ h' tk', (∀ b o, b ≠ dx → hp.get? b = some o → h'.get? b = some o) → h'.Ns1 dx (fun y => if y = name then some v else m0 y) → R (.ok (.ret .none)) ⟨h', g, d, tk', os⟩) :
    codeAny (model prog w) A (.call (.builtin "object.__setattr__") ⟨[.ref x, .str name tk, v], []⟩) R ⟨hp, g, d, t, os⟩ := by
  obtain ⟨oD, esD, epD, hoD, hdD, _⟩ := hns.count hw
  refine osa_openX (od := some oD) SF Y ⟨hx, rfl, rfl, hoD⟩ ov (taker_none ha) fun b => ?_
  obtain ⟨⟨nm, bs, mro, ns, qn, hdd, sn, sb, ab, col, del⟩, hc, hh⟩ := any_some hd
  have hcls := W.looks_clsIn (M := model prog w) Y hc
  dsimp only at hh
  subst hh
  show wpAny _ _ (storeInOwnDict (.ref x) (.ref C) (.str name tk) name v b) _ _ _
  unfold storeInOwnDict ownDictForStores
  repeat (first | with_reducible refine OEX.store_in_old hns hw hz ?_ | with_reducible refine wpAny_loadPart_at hx ?_ | with_reducible refine hcls.at ?_ | wp_step)
  intro h' tk' hn' hs
  exact hq h' tk' (fun b o hb ho => (hs.2 b hb).trans ho) hn'
end

open L2
/-- what the written part says of an exception class over the built-in B -/
structure XC (K : PySem.W.Frag) (C : Addr) (B newId initId : String) (bmB : List Value) : Prop where
  base : ExcBaseFacts B newId initId bmB
  st : StoreFacts B bmB "object.__setattr__" "object"
  ini : PySem.W.excInitIn K C bmB newId = true
  ov : PySem.W.excOver K C bmB = true
  sa : PySem.W.findIn K (.ref C) "__setattr__" = some (some (.builtin "object.__setattr__"))
  ex : ExcC K C
  tyC : PySem.W.typeIn K (.ref C) = some (.type "type")
  kC : PySem.W.keepIn K (.ref C) = true
def XCl (K : PySem.W.Frag) (C : Addr) : Prop := ∃ B newId initId bmB, XC K C B newId initId bmB
section
variable {X : Cx} {pins : List (Addr × Obj)} {σ : L2.St} {H : Hp} {s : Shared} {a C dx : Addr} {f : Str} {y : V} {u : Value} {fs : List (Str × V)} {Q : Unit → Shared → Prop} {E : Value → Shared → Prop} {A : Around}
theorem att_first (T : XCl X.K C) (I : Inv X pins σ H s) (e : H a = some (exo a C none)) (hno : PySem.W.findIn X.K (.ref C) f = some none) (ry : RelV y u)
    (h : ∀ dx s', H dx = none → dx ≠ a → Inv X pins σ (upd (upd H dx (exd dx [(f, y)])) a (exo a C (some dx))) s' → Q () s') : wpAny (model X.prog X.w) A (setAttr (.ref a) f u) Q E s := by
  obtain ⟨B, newId, initId, bmB, T⟩ := T
  obtain ⟨t1, ho⟩ := exo_at I.hok e
  obtain ⟨hp, g, d, t, os⟩ := s
  refine PySem.W.set_plain I.kIn (ox := { cls := .ref C, dict := none, data := .fields #[.ref t1, .none, .none, .none, .bool false, .none] }) (od := none) ⟨ho, rfl, rfl, trivial⟩ T.sa (osa_first T.st I.kIn ho T.ov T.ex.hd hno fun G tk' dx kp dn dne hx hn => ?_)
  have zd : H dx = none := I.hok.fresh dn
  have ud : ∀ {b : Addr} {o : Obj}, hp.get? b = some o → b ≠ dx := fun {b o} q => Nat.ne_of_lt (Nat.lt_of_lt_of_le (Heap.lt_size q) dn)
  have ua : ∀ {b : Addr}, H b = none → b ≠ a := fun {b} n z => by rw [z, e] at n; cases n
  have W1 : Un X.fs [] H (upd (upd H dx (exd dx [(f, y)])) a (exo a C (some dx))) hp G := ⟨fun b o q n _ _ => kp b o (ua n) q, fun b o q n _ _ => ⟨o.slots, kp b o (ua n) q⟩,
    fun b o q n _ => (upd_ne (ua n)).trans ((upd_ne (ud q)).trans n),
    fun b o q _ => (Classical.em (b = a)).elim (fun z => z ▸ ⟨_, hx⟩) (fun z => ⟨o, kp b o z q⟩),
    fun b xs q => (upd_ne (at_ne e q exo_tup)).trans ((upd_ne (ne_of_none q zd)).trans q),
    fun b o v q => (upd_ne (at_ne e q exo_frz)).trans ((upd_ne (ne_of_none q zd)).trans q),
    fun b ps q => ⟨#[], by rw [upd_ne (at_ne e q exo_tbl), upd_ne (ne_of_none q zd), q]; simp⟩⟩
  refine h dx _ zd dne (I.un (t' := tk') W1 fun b o q => ?_)
  by_cases hb : b = a
  · subst hb; rw [upd_same] at q; cases q; exact exo_ok hx
  rw [upd_ne hb] at q
  by_cases hd : b = dx
  · subst hd; rw [upd_same] at q; cases q; exact exd_ok hn (relO_put (fs := []) ry fun _ => True.intro)
  rw [upd_ne hd] at q
  have own : ∀ {c}, H c = some (.own b) → c ≠ a := fun {c} hc => at_ne e hc exo_own
  exact (I.hok b o q).stay (fun c v hc z => kp c v (hc.elim (fun w => w ▸ hb) own) z) (fun c hc => (upd_ne (own hc)).trans ((upd_ne (ne_of_none hc zd)).trans hc)) (fun c xs hc => (upd_ne (at_ne e hc exo_tup)).trans ((upd_ne (ne_of_none hc zd)).trans hc))
theorem att_next (T : XCl X.K C) (I : Inv X pins σ H s) (e : H a = some (exo a C (some dx))) (ed : H dx = some (exd dx fs)) (hl : fs.length ≤ 900) (hno : PySem.W.findIn X.K (.ref C) f = some none) (ry : RelV y u)
    (h : ∀ s', Inv X pins σ (upd H dx (exd dx ((f, y) :: fs))) s' → Q () s') : wpAny (model X.prog X.w) A (setAttr (.ref a) f u) Q E s := by
  obtain ⟨B, newId, initId, bmB, T⟩ := T
  obtain ⟨t1, ho⟩ := exo_at I.hok e
  obtain ⟨mA, hns, rel⟩ := exd_at I.hok ed
  have hw := within_of rel
  obtain ⟨hp, g, d, t, os⟩ := s
  obtain ⟨oD, _, _, hoD, _, _⟩ := hns.count hw
  refine PySem.W.set_plain I.kIn (ox := { cls := .ref C, dict := some dx, data := .fields #[.ref t1, .none, .none, .none, .bool false, .none] }) (od := some oD) ⟨ho, rfl, rfl, hoD⟩ T.sa (osa_next T.st I.kIn ho hns hw (by rw [List.length_map]; omega) T.ov T.ex.hd hno fun G tk' kp hn => ?_)
  have there : ∃ o, G.get? dx = some o := by obtain ⟨o, _, _, e', _⟩ := hn; exact ⟨o, e'⟩
  exact h _ (I.write (t' := tk') (x := dx) (e := dx) (o := exd dx ((f, y) :: fs)) (by rw [ed]; exact True.intro) (.inl rfl) kp there (exd_ok hn (relO_put ry rel)))
end
/-- self.f = e, self an exception -/
def tAtt (K : PySem.W.Frag) (f : Str) (to te : TE) : TS := fun D σ H => te σ H fun y H1 => to σ H1 fun x H2 => ∃ a C : Addr, x = .ref a ∧ XCl K C ∧ PySem.W.findIn K (.ref C) f = some none ∧
  ((H2 a = some (exo a C none) ∧ ∀ dx, H2 dx = none → dx ≠ a → D.nx σ (upd (upd H2 dx (exd dx [(f, y)])) a (exo a C (some dx)))) ∨
    ∃ (dx : Addr) (fs : List (Str × V)), H2 a = some (exo a C (some dx)) ∧ H2 dx = some (exd dx fs) ∧ fs.length ≤ 900 ∧ D.nx σ (upd H2 dx (exd dx ((f, y) :: fs))))
theorem ps_att {X : Cx} {o e : Expr} {to te : TE} {f : Str} {p' pos : Pos} (ho : PE X o to) (he : PE X e te) (hs : swapsWith e (some (.Attribute o f p')) pos.line X.env = pure false := by rfl) : PS X (.Assign [.Attribute o f p'] e pos) (tAtt X.K f to te) := by
  refine ⟨fun pins s σ H D I h => plainObj_wpAny_Assign_Attribute (thn (he.run pins s σ H _ I h) fun v s1 ⟨y, H1, I1, r1, q1⟩ => thn (ho.run pins s1 σ H1 _ I1 q1) fun u s2 ⟨x, H2, I2, r2, a, C, ex, T, hno, q⟩ => ?_) hs⟩
  subst ex
  cases (show u = Value.ref a from r2)
  rcases q with ⟨ea, q⟩ | ⟨dx, fs, ea, ed, hl, q⟩
  · exact att_first T I2 ea hno r1 fun dx s' n ne J => ⟨σ, _, J, q dx n ne⟩
  · exact att_next T I2 ea ed hl hno r1 fun s' J => ⟨σ, _, J, q⟩
/-- e.f, e an exception with attributes -/
def tGetE (K : PySem.W.Frag) (f : Str) (te : TE) : TE := fun σ H Q => te σ H fun x H1 => ∃ (a C dx : Addr) (fs : List (Str × V)) (v : V), x = .ref a ∧ H1 a = some (exo a C (some dx)) ∧ H1 dx = some (exd dx fs) ∧ ExcC K C ∧ PySem.W.findIn K (.ref C) f = some none ∧ fs.lookup f = some v ∧ Q v H1
theorem pe_getE {X : Cx} {e : Expr} {te : TE} {f : Str} {pos : Pos} (he : PE X e te) (hb : attributeBase e f X.env (eval e X.env) = eval e X.env := by rfl) : PE X (.Attribute e f pos) (tGetE X.K f te) := by
  refine ⟨fun pins s σ H Q I h => attr_of hb (thn (he.run pins s σ H _ I h) fun u s1 ⟨x, H1, I1, rx, a, C, dx, fs, v, ex, ha, hd, c, hno, hl, q⟩ => ?_)⟩
  subst ex
  cases (show u = Value.ref a from rx)
  obtain ⟨t1, ho⟩ := exo_at I1.hok ha
  obtain ⟨mA, hns, hr⟩ := exd_at I1.hok hd
  obtain ⟨od, hod, lk⟩ := lookIn_ns hns
  obtain ⟨w, hw, rw'⟩ := RelO.some_of (v := v) (o := mA f) (by rw [← hl]; exact hr f)
  exact PySem.HandSPX.exc_get I1.kIn (od := some od) ⟨ho, rfl, rfl, hod⟩ c.hg c.hk c.hs (PySem.W.findObj_own c.hd hno rfl (by rw [lk, hw])) (handed_of rw') ⟨v, H1, I1.tok _, rw', q⟩
end Ke

set_option Elab.async false
set_option linter.all false
set_option maxRecDepth 100000
set_option maxHeartbeats 4000000
/-! an exception made by its class, with places and keywords -/
namespace Ke
open PySem PySem.Spec PySem.W PySem.Calls PyProof.Rows PySem.HandSPX
section
variable {M : Model} {prog : Program} {w : World} {A : Around} {E : Value → Shared → Prop} {R : Result → Shared → Prop} {h : Heap} {g : Array GenState} {d : Drawn} {t : Nat} {os : OsState}
variable {nm q : Str} {C N : Addr} {bs bm bmB : List Value} {hdct : Bool} {sn : List Str} {sub : List Value} {ab : Bool} {col : Option Bool} {dd : Option Addr} {k0 k1 k2 k3 k5 : Option Value} {B newId initId : String} {rest : List Value} {kw : List (Str × Value)}
theorem chkNew (F : ExcBaseFacts B newId initId bmB) (hT : ∀ X : String, bm.contains (.type X) = bmB.contains (.type X)) {Q : Unit → Shared → Prop} (hC : h.get? C = some (excClassObj nm q C N bs bm hdct sn sub ab col dd k0 k1 k2 k3 k5 newId)) (z : Q () ⟨h, g, d, t, os⟩) :
    wpAny M A (checkBuiltinCall newId ⟨.ref C :: rest, kw⟩) Q E ⟨h, g, d, t, os⟩ := by
  have y1 : (Value.ref C :: bm).contains (.type B) = true := by rw [List.contains_cons, hT, F.hasB, Bool.or_true]
  have y2 := F.noStar
  simp only [checkBuiltinCall, F.newKind, F.newSplit, F.newRow]
  repeat (first | refine wpAny_loadPart_at hC ?_ | (refine wpAny_isSubtype_exc hC ?_; rw [y1]) | refine wpAny_staticBase_exc hC ?_ | refine wpAny_madeBy_exc hC ?_ | simp only [bne_self_eq_false, Bool.false_eq_true, if_false] | wp_step)
  all_goals exact z
theorem runNew (F : ExcBaseFacts B newId initId bmB) (hT : ∀ X : String, bm.contains (.type X) = bmB.contains (.type X)) (hC : h.get? C = some (excClassObj nm q C N bs bm hdct sn sub ab col dd k0 k1 k2 k3 k5 newId))
    (z : R (.ok (.ret (.ref (h.objs.size + 1)))) ⟨(h.push (W.kdv_tup rest)).push (excO C h.objs.size), g, d, t, os⟩) (hr : rest.length ≤ sizeLine) : codeAny (model prog w) A (.builtin newId ⟨.ref C :: rest, kw⟩) R ⟨h, g, d, t, os⟩ := by
  have y0 := F.ends
  have y1 : (Value.ref C :: bm).contains (.type B) = true := by rw [List.contains_cons, hT, F.hasB, Bool.or_true]
  have y2 : (Value.ref C :: bm).contains (.type "AttributeError") = false := by rw [List.contains_cons, hT, F.noAttr]; rfl
  have y3 : (Value.ref C :: bm).contains (.type "NameError") = false := by rw [List.contains_cons, hT, F.noName]; rfl
  refine codeAny_builtinAt F.entry ?_
  unfold Builtin.«BaseException.__new__»
  refine PySem.wpAt_bind ?_
  show PySem.wpAt _ _ _ (stack >>= _) _ _ _
  refine PySem.wpAt_bind (PySem.wpAt_stack fun p below => PySem.wpAt_of_wpAny ?_)
  wp_walk
  refine PySem.wpAt_of_wpAny ?_
  rw [F.owner]
  repeat (first | with_reducible refine wpAny_madeHere_exc F.canon hC ?_ | with_reducible refine wpAny_loadPart_at hC ?_ | (with_reducible refine wpAny_isSubtype_exc hC ?_; first | rw [y1] | rw [y2] | rw [y3]) | wp_step)
  show R _ _
  rw [Heap.size_push]
  exact z
theorem runType (F : ExcBaseFacts B newId initId bmB) (hT : ∀ X : String, bm.contains (.type X) = bmB.contains (.type X)) {fI : Addr} {Q : Fin → Shared → Prop} (hC : h.get? C = some (excClassObj nm q C N bs bm hdct sn sub ab col dd k0 k1 k2 k3 k5 newId))
    (hi : W.Looks (model prog w) h (typeLookup (.ref C) "__init__") (some (.ref fI))) (hb : ∀ self, W.Looks (model prog w) h (bindSpecial (.ref fI) self) (.ref fI, [self])) (hr : rest.length ≤ sizeLine)
    (z : codeAny (model prog w) A (.call (.ref fI) ⟨.ref (h.objs.size + 1) :: rest, kw⟩) (fun r s' => match r with | .ok (.ret v) => v = .none ∧ Q (.done (.ret (.ref (h.objs.size + 1)))) s' | .ok _ => False | .error e => E e s')
      ⟨(h.push (W.kdv_tup rest)).push (excO C h.objs.size), g, d, t, os⟩) : wpAny (model prog w) A (Builtin.«type.__call__» ⟨.ref C :: rest, kw⟩) Q E ⟨h, g, d, t, os⟩ := by
  repeat (first | with_reducible refine wpAny_loadPart_at hC ?_ | with_reducible refine wpAny_madeBy_exc hC ?_ | wp_step)
  refine codeAny_call_builtin_code (Code.quiet_builtin _ F.quiet) (chkNew F hT hC (runNew F hT hC ?_ hr))
  show wpAny _ _ _ _ _ _
  have kp : ∀ b o, h.get? b = some o → ((h.push (W.kdv_tup rest)).push (excO C h.objs.size)).get? b = some o := fun b o e => Heap.get?_push_of_some _ (Heap.get?_push_of_some _ e)
  have z1 := kp _ _ hC
  have z2 : ((h.push (W.kdv_tup rest)).push (excO C h.objs.size)).get? (h.objs.size + 1) = some (excO C h.objs.size) := by heap_get
  have z3 : (Value.ref C :: bm).contains (.ref C) = true := by simp
  have i1 := hi.keeps kp
  have b1 := (hb (.ref (h.objs.size + 1))).keeps kp
  unfold isInstance
  repeat (first | with_reducible refine wpAny_loadPart_at z2 ?_ | (with_reducible refine wpAny_isSubtype_exc z1 ?_; rw [z3]) | wp_step)
  show wpAny _ _ (typeLookup (.ref C) _) _ _ _
  refine i1.at (wpAny_holding (wpAny_bind (b1.at (wpAny_bind (wpAny_call (codeAny_mono z fun r s' y => ?_))))))
  rcases r with e | (v | _ | _ | _) <;> first | exact y | exact y.elim | skip
  obtain ⟨rfl, y⟩ := y
  first | exact wpAny_pure (wpAny_pure y) | (wp_walk; exact y)
theorem chkType {Q : Unit → Shared → Prop} (hC : h.get? C = some (excClassObj nm q C N bs bm hdct sn sub ab col dd k0 k1 k2 k3 k5 newId)) (z : Q () ⟨h, g, d, t, os⟩) : wpAny M A (checkBuiltinCall "type.__call__" ⟨.ref C :: rest, kw⟩) Q E ⟨h, g, d, t, os⟩ := by
  have y0 := tc_sub
  have y1 : (⟨h, g, d, t, os⟩ : Shared).TypeIs (.ref C) "type" := ⟨_, hC, rfl⟩
  simp only [checkBuiltinCall, tc_kind, tc_split]
  repeat (any_goals (first | assumption | with_reducible refine wpAny_loadPart_at hC ?_ | with_reducible refine wpAny_onRaise ?_ | with_reducible refine wpAny_map ?_ | wp_step))
theorem runClass (F : ExcBaseFacts B newId initId bmB) (hT : ∀ X : String, bm.contains (.type X) = bmB.contains (.type X)) {fI : Addr} (hC : h.get? C = some (excClassObj nm q C N bs bm hdct sn sub ab col dd k0 k1 k2 k3 k5 newId))
    (hi : W.Looks (model prog w) h (typeLookup (.ref C) "__init__") (some (.ref fI))) (hb : ∀ self, W.Looks (model prog w) h (bindSpecial (.ref fI) self) (.ref fI, [self])) (hr : rest.length ≤ sizeLine)
    (z : codeAny (model prog w) (A.under (.builtin "type.__call__" ⟨.ref C :: rest, kw⟩)) (.call (.ref fI) ⟨.ref (h.objs.size + 1) :: rest, kw⟩) (W.InitBack (h.objs.size + 1) R) ⟨(h.push (W.kdv_tup rest)).push (excO C h.objs.size), g, d, t, os⟩) :
    codeAny (model prog w) A (.call (.ref C) ⟨rest, kw⟩) R ⟨h, g, d, t, os⟩ := by
  have f1 := tc_lookup
  have f2 := tc_bind (.ref C)
  have hTy : (⟨h, g, d, t, os⟩ : Shared).TypeIs (.ref C) "type" := ⟨_, hC, rfl⟩
  refine codeAny_of_tree ?_
  show wpAny _ _ (callAny (.ref C) _) _ _ _
  repeat (any_goals (first | assumption | with_reducible refine wpAny_loadPart_at hC ?_ | wp_step))
  refine ⟨rfl, codeAny_call_builtin_at (Code.quiet_builtin _ (by decide +kernel)) entry_typeCall (chkType hC (runType F hT hC hi hb hr (codeAny_mono z fun r s' y => ?_)))⟩
  rcases r with e | (v | _ | _ | _) <;> exact y
end
end Ke

set_option Elab.async false
set_option linter.all false
set_option maxRecDepth 100000
set_option maxHeartbeats 4000000
/-! an exception as a value, and raised -/
namespace Ke
open PySem PySem.Spec PyProof.Rows L2
/-- what a class says of its maker: its own __init__ or one that it is given by its base -/
structure MkE (K : PySem.W.Frag) (C fI : Addr) : Prop where
  xc : XCl K C
  iC : PySem.W.findIn K (.ref C) "__init__" = some (some (.ref fI))
  tI : PySem.W.typeIn K (.ref fI) = some (.type "function")
theorem XCl.ex {K : PySem.W.Frag} {C : Addr} (h : XCl K C) : ExcC K C := by obtain ⟨_, _, _, _, h⟩ := h; exact h.ex
theorem XCl.keep {K : PySem.W.Frag} {C : Addr} (h : XCl K C) : PySem.W.keepIn K (.ref C) = true := by obtain ⟨_, _, _, _, h⟩ := h; exact h.kC
theorem XCl.tyC {K : PySem.W.Frag} {C : Addr} (h : XCl K C) : PySem.W.typeIn K (.ref C) = some (.type "type") := by obtain ⟨_, _, _, _, h⟩ := h; exact h.tyC
/-- C(.., k = v, ..): the new exception, then the promise of its __init__ -/
def tNew (C : Addr) (n m : Nat) (sp : Sp) (gV : List V → List V → List V) (t tk : TA) : TE := fun σ H Q => t σ H fun vs H1 => tk σ H1 fun zs H2 => vs.length = n ∧ zs.length = m ∧ ∀ a, H2 a = none →
  sp (gV (.ref a :: vs) zs) (upd H2 a (exo a C none)) (fun v H3 => v = .non ∧ Q (.ref a) H3) E0
section
variable {X : Cx} {k n : Nat} {f C : Addr} {fd : FuncData} {ps ks : List Str} {sp : Sp} {x : Str} {p pos : Pos} {e : Expr} {es : List Expr} {kws : List Keyword} {t tk : TA} {g : List Value → List Value → List Value} {gV : List V → List V → List V}
theorem run_new {pins : List (Addr × Obj)} {σ : L2.St} {H : Hp} {s : Shared} {Q : VK} {us ws : List Value} {vs zs : List V} (M : MkE X.K C f) (F : FnOk X.prog X.w X.K X.mg X.base CX0 k f fd ps sp) (hr : Room (k + 1) X.A) (hb : KBn X.K fd ps (n + 1) ks g gV) (hn : n ≤ 1000)
    (I : Inv X pins σ H s) (r : Vals vs us) (rz : Vals zs ws) (l1 : vs.length = n) (l2 : zs.length = ks.length)
    (h : ∀ a, H a = none → sp (gV (.ref a :: vs) zs) (upd H a (exo a C none)) (fun v H2 => v = .non ∧ Q (.ref a) H2) E0) : wpAny (model X.prog X.w) X.A (call (.ref C) us (ks.zip ws)) (EP X pins σ Q) X.xe s := by
  obtain ⟨⟨B, newId, initId, bmB, T⟩, iC, tI⟩ := M
  obtain ⟨nm, N', qn, bs, bm, hdct, sn, sub, ab, col, dd, k0, k1, k2, k3, k5, hC, hT⟩ := PySem.W.excInit_of I.kIn T.ini
  obtain ⟨hp, g0, dr, tk0, os⟩ := s
  have up : hp.objs.size ≤ hp.objs.size + 1 := Nat.le_succ _
  have hq := h (hp.objs.size + 1) (I.hok.fresh up)
  have kk : ∀ b o, hp.get? b = some o → ((hp.push (PySem.W.kdv_tup us)).push (PySem.HandSPX.excO C hp.objs.size)).get? b = some o := fun b o z => Heap.get?_push_of_some _ (Heap.get?_push_of_some _ z)
  have there : ((hp.push (PySem.W.kdv_tup us)).push (PySem.HandSPX.excO C hp.objs.size)).get? (hp.objs.size + 1) = some (PySem.HandSPX.excO C hp.objs.size) := by heap_get
  have I2 : Inv X pins σ (upd H (hp.objs.size + 1) (exo (hp.objs.size + 1) C none)) ⟨(hp.push (PySem.W.kdv_tup us)).push (PySem.HandSPX.excO C hp.objs.size), g0, dr, tk0, os⟩ := I.laid (t' := tk0) kk up (exo_ok there)
  have r1 : Vals (V.ref (hp.objs.size + 1) :: vs) (Value.ref (hp.objs.size + 1) :: us) := .cons rfl r
  have n1 : (Value.ref (hp.objs.size + 1) :: us).length = n + 1 := by rw [List.length_cons, ← r.length, l1]
  have hz : us.length ≤ sizeLine := by rw [← r.length, l1, sizeLine_eq]; omega
  refine wpAny_call (runClass T.base hT hC (PySem.W.looks_findIn I.kIn iC) (fun self => PySem.W.bind_fn I.kIn self tI) hz
    (codeAny_mono (F.run _ X.stack _ _ ⟨Value.ref (hp.objs.size + 1) :: us, ks.zip ws⟩ (g (Value.ref (hp.objs.size + 1) :: us) ws) _ _ E0 (hr.make C us (ks.zip ws)) (I2.env0.make C us (ks.zip ws)) (hb.to _ _ ws I2.kIn n1 (rz.length.symm.trans l2)) (hb.rel r1 rz) hq) fun r s' y => ?_))
  cases r with
  | error z => exact y.elim
  | ok fl =>
    cases fl with
    | ret u =>
      obtain ⟨v, H', I3, rv, rfl, q3⟩ := I2.after y
      exact ⟨rv, ⟨V.ref (hp.objs.size + 1), H', I3, rfl, q3⟩⟩
    | next => exact False.elim y
    | brk => exact False.elim y
    | cont => exact False.elim y
theorem pe_new (M : MkE X.K C f) (F : FnOk X.prog X.w X.K X.mg X.base CX0 k f fd ps sp) (hr : Room (k + 1) X.A) (hg : Gl X x) (hm : X.mg x = some (.ref C)) (hb : KBn X.K fd ps (n + 1) [] g gV) (hn : n ≤ 1000) (ha : PA X (e :: es) t) (hdb : (x == ("__debug__" : Str)) = false := by decide)
    (he : starEach (e :: es) X.env = (false, eval e X.env) :: starEach es X.env := by rfl) (hpl : (backTo pos (starEach es X.env)).any (·.1) = false := by rfl) : PE X (.Call (.Name x p) (e :: es) [] pos) (tNew C n 0 sp gV t tNil) := by
  refine ⟨fun pins s σ H Q I h => wpAny_Call_Name_kw (ld_glob I hg hm ?_ hdb)⟩
  refine PySem.W.callWith_K (h₀ := X.base) I.ok.mod.kin M.xc.keep (thn (ha.run pos pins s σ H _ I h) fun us s1 ⟨vs, H1, I1, r, l1, l2, q⟩ => ⟨I1.kIn, ?_⟩) he hpl
  exact run_new (ws := []) (zs := []) M F hr hb hn I1 r .nil l1 rfl q
theorem pe_new0 (M : MkE X.K C f) (F : FnOk X.prog X.w X.K X.mg X.base CX0 k f fd ps sp) (hr : Room (k + 1) X.A) (hg : Gl X x) (hm : X.mg x = some (.ref C)) (hb : KBn X.K fd ps 1 [] g gV) (hdb : (x == ("__debug__" : Str)) = false := by decide) : PE X (.Call (.Name x p) [] [] pos) (tNew C 0 0 sp gV tNil tNil) := by
  refine ⟨fun pins s σ H Q I h => wpAny_Call_Name_kw (ld_glob I hg hm ?_ hdb)⟩
  obtain ⟨_, _, q⟩ := h
  exact PySem.W.callWith_K0 (I.tok _).kIn M.xc.keep (run_new (us := []) (vs := []) (ws := []) (zs := []) M F hr hb (Nat.zero_le _) (I.tok _) .nil .nil rfl rfl q)
theorem pe_newK (M : MkE X.K C f) (F : FnOk X.prog X.w X.K X.mg X.base CX0 k f fd ps sp) (hr : Room (k + 1) X.A) (hg : Gl X x) (hm : X.mg x = some (.ref C)) (hb : KBn X.K fd ps 1 ks g gV) (hkw : PK X kws tk) (hall : (backToKw pos (keywordEach kws X.env)).all (·.1.isSome) = true := by rfl)
    (hks : (backToKw pos (keywordEach kws X.env)).filterMap (·.1) = ks := by rfl) (hdb : (x == ("__debug__" : Str)) = false := by decide) (hpl : ((backTo pos (starEach [] X.env)).any (·.1) || (backToKw pos (keywordEach kws X.env)).any (·.1.isNone)) = false := by rfl) :
    PE X (.Call (.Name x p) [] kws pos) (tNew C 0 ks.length sp gV tNil tk) := by
  refine ⟨fun pins s σ H Q I h => wpAny_Call_Name_kw (ld_glob I hg hm ?_ hdb)⟩
  refine PySem.W.callWith_KW0 (h₀ := X.base) I.ok.mod.kin M.xc.keep hall (thn (hkw.run pos pins s σ H _ I h) fun ws s2 ⟨zs, H2, I2, rz, l1, l2, q2⟩ => ⟨I2.kIn, ?_⟩) hpl
  rw [hks]
  exact run_new (us := []) (vs := []) M F hr hb (Nat.zero_le _) I2 .nil rz rfl l2 q2
/-- what is raised: a new exception is let go, its dict stands as an exception's -/
def tThrow (K : PySem.W.Frag) (H0 : Hp) (te : TE) : L2.St → Hp → XK → Prop := fun σ H Q => te σ H fun x H1 => ∃ (a C : Addr) (d : Option Addr), x = .ref a ∧ H1 a = some (exo a C d) ∧ H0 a = none ∧ XCl K C ∧
  match d with
  | none => Q (.ref C) none (delH H1 a)
  | some dx => ∃ fs, H1 dx = some (exd dx fs) ∧ Q (.ref C) (some dx) (upd (delH H1 a) dx (.xd fs))
theorem pmk_throw {te : TE} (hx : X.ex = []) (he : PE X e te) : PMk X e (tThrow X.K X.H_0 te) := by
  intro pins s σ H Q I h
  refine wpAny_mono (he.run pins s σ H _ I h) (fun u s1 hu => ?_) fun _ _ z => z
  obtain ⟨v, H1, I1, r1, a, C, d, rfl, ha, h0, hc, q⟩ := hu
  have hr : Raises X (.ref C) := raises_own hc.ex.hs hc.tyC
  cases (show u = Value.ref a from r1)
  obtain ⟨t1, ho⟩ := exo_at I1.hok ha
  obtain ⟨G, gs, ga, J⟩ := I1.untrack ha (fr0_none h0) hx
  cases d with
  | none => exact ⟨a, _, _, { s1 with heap := G }, delH H1 a, .ref C, none, rfl, J, gs, ga, ho, ⟨rfl, rfl⟩, rfl, rfl, delH_same, rfl, I1.bare, hr, q⟩
  | some dx =>
    obtain ⟨fs, hd, q⟩ := q
    have hda : dx ≠ a := fun z => by
      obtain ⟨mA, ⟨o, es, ep, e1, e2, _⟩, _⟩ := exd_at I1.hok hd
      rw [z, ho] at e1
      cases Option.some.inj e1
      cases e2
    have hd' : delH H1 a dx = some (exd dx fs) := by rw [delH_ne hda]; exact hd
    obtain ⟨mA, hns, rel⟩ := exd_at J.hok hd'
    have J2 : Inv X pins σ (upd (delH H1 a) dx (.xd fs)) { s1 with heap := G, toks := s1.toks } := J.write (t' := s1.toks) (x := dx) (e := dx) (o := .xd fs) (by rw [hd']; exact True.intro) (.inl rfl) (fun _ _ _ z => z) (by obtain ⟨o, _, _, e', _⟩ := hns; exact ⟨o, e'⟩) ⟨mA, hns, rel⟩
    exact ⟨a, _, _, { s1 with heap := G }, _, .ref C, some dx, rfl, J2, gs, ga, ho, ⟨rfl, rfl⟩, rfl, rfl, by rw [upd_ne (Ne.symm hda)]; exact delH_same, rfl, I1.bare, hr, q⟩
end
end Ke

set_option Elab.async false
set_option linter.all false
set_option maxRecDepth 100000
set_option maxHeartbeats 4000000
/-! super().__init__() of an exception class -/
namespace Ke
open PySem PySem.Spec PySem.W PySem.Calls PyProof.Rows PySem.HandSPX
section
variable {prog : Program} {w : World} {A : Around} {E : Value → Shared → Prop} {h : Heap} {g : Array GenState} {d : Drawn} {t : Nat} {os : OsState}
variable {nm q : Str} {C N : Addr} {bs bm bmB : List Value} {hdct : Bool} {sn : List Str} {sub : List Value} {ab : Bool} {col : Option Bool} {dd : Option Addr} {k0 k1 k2 k3 k5 : Option Value} {B newId initId : String}
/-- the bound __init__ called -/
theorem run_mw (F : ExcBaseFacts B newId initId bmB) {u e t0 : Addr} {rest : List Value} {Q : Value → Shared → Prop} (hC : h.get? C = some (excClassObj nm q C N bs bm hdct sn sub ab col dd k0 k1 k2 k3 k5 newId)) (he : h.get? e = some (excO C t0)) (hu : h.get? u = some (kxs_mw initId e)) (hr : rest.length ≤ sizeLine)
    (z : ∀ h' t1, (∀ b o, b ≠ e → h.get? b = some o → h'.get? b = some o) → h'.get? e = some (excO C t1) → Q .none ⟨h', g, d, t, os⟩) : wpAny (model prog w) A (call (.ref u) rest) Q E ⟨h, g, d, t, os⟩ := by
  refine wpAny_call (codeAny_of_tree ?_)
  show wpAny _ A.in1 (callAny (.ref u) ⟨rest, []⟩) _ _ _
  simp only [callAny]
  refine wpAny_bind (wpAny_load hu ?_)
  simp only [kxs_mw, show (Value.type "method-wrapper" == Value.type "method" || Value.type "method-wrapper" == Value.type "builtin_function_or_method" || Value.type "method-wrapper" == Value.type "method-wrapper") = true by decide, if_true]
  refine W.KFB.if_so (by decide) (wpAny_bind (check_bound_init F.toExcCallFacts hC he rfl (wpAny_bind (wpAny_pure (wpAny_pure ⟨plainId_quiet F.init.plain _, codeAny_builtin F.initEntry ?_⟩)))))
  rw [Around.under_plainId F.init.plain _]
  wp_walk
  refine z _ h.objs.size (fun b o hb ho => (Heap.get?_update_other _ _ (Ne.symm hb)).trans (Heap.get?_push_of_some _ ho)) ((Heap.get?_update_self _ (Heap.get?_push_of_some _ he) rfl).trans rfl)
end
/-- what the written part says of an upper class's __init__, at f; D the class -/
structure UpF (prog : Program) (K : Frag) (f D cc : Addr) (qual : Str) (params : Arguments) (body : List Stmt) (scope : Scope) (fd : FuncData) : Prop where
  fn : ∃ (oc : Value) (od : Option Addr) (kV doc pm ct : Value) (an : Option Addr) (cda : Addr) (osl : Array (Option Value)) (ccl : Value) (cdd : Option Addr) (vs : Array Value) (ccs : Array (Option Value)) (file : Str) (tf : Tok), K.lookup f = some ⟨oc, od, .func fd, osl⟩ ∧
    fd = ksFn "__init__" qual params body scope .none kV doc pm an (.ref cda) ct cc ∧ codeIn K (.ref cda) qual = true ∧ K.lookup cda = some ⟨ccl, cdd, .fields vs, ccs⟩ ∧ vs[2]? = some (.str file tf) ∧ ((prog.main.file : Str) == file) = true
  cell : ∃ (cl : Value) (cld : Option Addr) (csl : Array (Option Value)), K.lookup cc = some ⟨cl, cld, .cell (some (.ref D)), csl⟩
  cls : (clsIn K D).isSome = true
  sup : nsIn K mainGlobals "super" = some none
  opq : nsIn K cStatics "thirdparty.any" = some none
  top : (prog.main.scope.names.lookup ("super" : Str)).isSome = false
/-- what a class under it says -/
structure UpC (K : Frag) (C D : Addr) (B newId initId : String) (bmB : List Value) : Prop where
  xc : XC K C B newId initId bmB
  sub : mroIn K C (.ref D) = some true
  sup : ks_superIn K C D "__init__" = some (some (.builtin initId))
  isB : subIn K (.ref C) (.type B) = some true
theorem boot_super : bootBuiltins "super" = some (.type "super") := by decide +kernel
theorem run_up {prog : Program} {w : World} {A : Around} {R : Result → Shared → Prop} {s : Shared} {base : Heap} {K : Frag} {mg : Str → Option Value} {f D cc C x t0 : Addr} {qual : Str} {p0 p1 p2 p3 p4 pa : Pos} {scope : Scope} {fd : FuncData} {B newId initId : String} {bmB : List Value}
    (U : UpF prog K f D cc qual { posonlyargs := [], args := [{ arg := "self", annotation := none, pos := pa }], vararg := none, kwonlyargs := [], kw_defaults := [], kwarg := none, defaults := [] }
      [.Expr (.Call (.Attribute (.Call (.Name "super" p0) [] [] p1) "__init__" p2) [] [] p3) p4] { kind := .function, names := [(PySem.Str.ofString "self", .local), (PySem.Str.ofString "__class__", .free), (PySem.Str.ofString "super", .globalImplicit)], isGenerator := false, isCoroutine := false, more := [] } fd)
    (hev : ∀ env : Env, ∃ pl : Sem Bool, eval (.Call (.Attribute (.Call (.Name "super" p0) [] [] p1) "__init__" p2) [] [] p3) env = (do
      let ov ← attributeBase (.Call (.Name "super" p0) [] [] p1) "__init__" env (eval (.Call (.Name "super" p0) [] [] p1) env)
      standAt p2.atName
      let (f, first) ← holding [ov] (getMethod ov "__init__" pl)
      callWith p3 f first (backTo p3 (starEach [] env)) []))
    (KF : KxsFacts B initId) (T : UpC K C D B newId initId bmB) (M : L2.Mod K mg base) (bs : ∀ b o, base.get? b = some o → s.heap.get? b = some o) (hx : s.heap.get? x = some (excO C t0)) (hroom : A.depth < recursionLimit) (args : Args) (hb : BindsTo s fd args [("self", .ref x)])
    (z : ∀ h' tk t1, (∀ b o, b ≠ x → s.heap.get? b = some o → h'.get? b = some o) → h'.get? x = some (excO C t1) → R (.ok (.ret .none)) { s with heap := h', toks := tk }) : codeAny (model prog w) A (.call (.ref f) args) R s := by
  obtain ⟨oc, od, kV, doc, pm, ct, an, cda, osl, ccl, cdd, vs, ccs, file, tf, lk, rfl, hcode, lc, hvs, hfile⟩ := U.fn
  obtain ⟨cl, cld, csl, lcell⟩ := U.cell
  have Y : K.In s.heap := M.kin.keeps bs
  obtain ⟨cdD, hD⟩ := Option.isSome_iff_exists.mp U.cls
  obtain ⟨nm, N', qn, bss, bm, hdct, sn, sub, ab, col, dd, k0, k1, k2, k3, k5, hC, hT⟩ := excInit_of Y T.xc.ini
  obtain ⟨mb, mb1, mb2⟩ := M.blt
  have hlim : s.heap.NoLimit := M.nolimit.keeps bs
  refine ks_codeAny_call_defAt (binds := [("self", .ref x)]) hroom (Y _ _ lk) rfl hlim (codeRec_of Y hcode) rfl hb (fun y hy => ?_) (fun y hy => ?_) (fun h₁ hns k1' => ?_)
  · have all : ∀ y ∈ [(PySem.Str.ofString "self", NameKind.local), (PySem.Str.ofString "__class__", NameKind.free), (PySem.Str.ofString "super", NameKind.globalImplicit)], y.2 ≠ NameKind.cell := by decide
    exact all y hy
  · cases hy with
    | head => rfl
    | tail _ h => cases h
  have Y1 : K.In h₁ := Y.keeps k1'
  have hx1 := k1' _ _ hx
  show PySem.wpAt (model prog w) (A.deeper (ksEnv qual _ s.heap.objs.size f (.ref cda) cc)) (.func _ (ksEnv qual _ s.heap.objs.size f (.ref cda) cc)) (execs _ (ksEnv qual _ s.heap.objs.size f (.ref cda) cc)) _ _ _
  obtain ⟨pl, he⟩ := hev (ksEnv qual { kind := .function, names := [(PySem.Str.ofString "self", .local), (PySem.Str.ofString "__class__", .free), (PySem.Str.ofString "super", .globalImplicit)], isGenerator := false, isCoroutine := false, more := [] } s.heap.objs.size f (.ref cda) cc)
  refine ks_wpAt_execs_cons (ks_wpAt_Expr_any (ks_wpAt_MethodCall (pl := pl) ?_ he))
  obtain ⟨oD, hD1, hD2⟩ : ∃ oD, h₁.get? D = some oD ∧ oD.data = .cls cdD := by
    unfold clsIn at hD
    split at hD
    · rename_i ho
      cases hD
      exact ⟨_, Y1 _ _ ho, rfl⟩
    · cases hD
  have b1 : ∀ b o, base.get? b = some o → h₁.get? b = some o := fun b o e => k1' b o (bs b o e)
  obtain ⟨hp, g, d, tk, os⟩ := s
  refine ks_wpAt_super_base (cc := cda) (file := file) (tf := tf) rfl rfl (by decide) rfl (Y1 _ _ lk) rfl rfl rfl (Y1 _ _ lc) rfl hvs hfile U.top ?_
  refine ks_loadName_global rfl rfl (loadGlobal_builtin (M.glob.keeps b1) (mg_none_of M.kin M.glob U.sup) (mb1.keeps b1) ((mb2 _ (by decide +kernel)).trans boot_super) ⟨rfl, ?_⟩)
  refine wpAny_loadName_free rfl rfl rfl ⟨_, Y1 _ _ lcell, rfl⟩ (wpAny_loadName_local rfl rfl hns rfl (ks_wpAny_isType_cls hD1 hD2 ⟨rfl, ?_⟩))
  have Ix : W.InstAt h₁ x (excO C t0) C none := ⟨hx1, rfl, rfl, trivial⟩
  refine ks_wpAny_call_super hD1 hD2 Ix.at_ Ix.cls (fun c e => ?_) (looks_mroIn Y1 T.sub) (fun h2 e2 k2 => ?_)
  · cases e
  have Y2 : K.In h2 := Y1.keeps k2
  have Ix2 : W.InstAt h2 x (excO C t0) C none := ⟨k2 _ _ hx1, rfl, rfl, trivial⟩
  cases hc : clsIn K C with
  | none => have := T.sup; unfold ks_superIn at this; rw [hc] at this; cases this
  | some cd =>
    have hsup := T.sup
    unfold ks_superIn at hsup
    rw [hc] at hsup
    refine kxs_getMethod KF e2 (looks_opaque Y2 U.opq) (l₀ := cd.mro) ?_ rfl Y2 hsup (Ix2.type.andThen (looks_subIn Y2 T.isB)) (ks_ne Y2 Ix2 hc) (by decide) ?_
    · exact fun A Q E s k q => wpAny_bind ((looks_clsIn Y2 hc) A _ E s k (wpAny_pure q))
    · have k3 : ∀ b o, h2.get? b = some o → (h2.push (kxs_mw initId x)).get? b = some o := fun b o e => Heap.get?_push_of_some _ e
      refine kxs_callWith (i := initId) (x := x) rfl (evalArgs_empty ⟨Heap.get?_push_at rfl rfl, ?_⟩)
      refine run_mw T.xc.base (k3 _ _ (k2 _ _ (k1' _ _ hC))) (k3 _ _ (k2 _ _ hx1)) (Heap.get?_push_at rfl rfl) (Nat.zero_le _) fun h3 t1 k4 e4 => ?_
      exact PySem.wpAt_of_wpAny (wpAny_execs_nil (z h3 _ t1 (fun b o hb e => k4 b o hb (k3 _ _ (k2 _ _ (k1' b o e)))) e4))
open L2
def spUp (K : Frag) (D : Addr) (B newId initId : String) (bmB : List Value) : Sp := fun vs H Q _ => ∃ a C : Addr, vs = [.ref a] ∧ H a = some (exo a C none) ∧ UpC K C D B newId initId bmB ∧ Q .non H
theorem ok_up {prog : Program} {w : World} {base : Heap} {K : Frag} {mg : Str → Option Value} {f D cc : Addr} {qual : Str} {p0 p1 p2 p3 p4 pa : Pos} {fd : FuncData} {B newId initId : String} {bmB : List Value} {k : Nat}
    (U : UpF prog K f D cc qual { posonlyargs := [], args := [{ arg := "self", annotation := none, pos := pa }], vararg := none, kwonlyargs := [], kw_defaults := [], kwarg := none, defaults := [] }
      [.Expr (.Call (.Attribute (.Call (.Name "super" p0) [] [] p1) "__init__" p2) [] [] p3) p4] { kind := .function, names := [(PySem.Str.ofString "self", .local), (PySem.Str.ofString "__class__", .free), (PySem.Str.ofString "super", .globalImplicit)], isGenerator := false, isCoroutine := false, more := [] } fd)
    (hev : ∀ env : Env, ∃ pl : Sem Bool, eval (.Call (.Attribute (.Call (.Name "super" p0) [] [] p1) "__init__" p2) [] [] p3) env = (do
      let ov ← attributeBase (.Call (.Name "super" p0) [] [] p1) "__init__" env (eval (.Call (.Name "super" p0) [] [] p1) env)
      standAt p2.atName
      let (f, first) ← holding [ov] (getMethod ov "__init__" pl)
      callWith p3 f first (backTo p3 (starEach [] env)) []))
    (KF : KxsFacts B initId) : FnOk prog w K mg base CX0 (k + 1) f fd ["self"] (spUp K D B newId initId bmB) := by
  refine ⟨fun vs H Q E h => ?_, fun A outer s H args us vs Q E hr e0 hb r hsp => ?_⟩
  · obtain ⟨a, C, rfl, _⟩ := h
    rfl
  · obtain ⟨a, C, rfl, ha, T, q⟩ := hsp
    obtain ⟨u, rfl, ru⟩ := vals1 r
    cases (show u = Value.ref a from ru)
    obtain ⟨t0, hx⟩ := exo_at e0.hok ha
    refine run_up (scope := default) U hev KF T e0.mod (fun b o e => (e0.bs b o e).1) hx hr.depth args hb fun h' tk t1 kp e1 => ?_
    have Un1 : Un (frs outer) [] H H s.heap h' := ⟨fun b o q n _ _ => kp b o (fun z => by rw [z, ha] at n; cases n) q, fun b o q n _ _ => ⟨o.slots, kp b o (fun z => by rw [z, ha] at n; cases n) q⟩, fun b o q n _ => n,
      fun b o q _ => (Classical.em (b = a)).elim (fun z => z ▸ ⟨_, e1⟩) (fun z => ⟨o, kp b o z q⟩), fun b xs q => q, fun b o v q => q, fun b ps q => ⟨#[], by simpa using q⟩⟩
    refine ⟨.non, H, rfl, e0.bare, Un1, fun b o q => ?_, rfl, q⟩
    by_cases hb' : b = a
    · subst hb'; rw [ha] at q; cases q; exact exo_ok e1
    · exact (e0.hok b o q).stay (fun c v hc z => kp c v (hc.elim (fun w => w ▸ hb') (fun hc => at_ne ha hc exo_own)) z) (fun _ hc => hc) (fun _ _ hc => hc)
end Ke

set_option Elab.async false
set_option linter.all false
set_option maxRecDepth 100000
set_option maxHeartbeats 4000000
/-! Dv0: data by value. What a value and the objects behind it tell (D), the slots of a def by value (SD), the lifted judgements -/
namespace Dv
open PySem PySem.Spec PyProof.Rows
open L2
/-- a value with what stands behind it; bag: the one object that draws change; ref: a def, a class -/
inductive D where
  | non | bl (b : Bool) | int (i : Int) | str (s : Str) | ty (n : String) | ref (a : Addr) | bag
  | lst (xs : List D) | tup (xs : List D) | ins (C : Addr) (fs : List (Str × D)) | dk (kvs : List (Key × D)) | dt (kvs : List (List Key × D)) | exn (a x : Addr) (fs : List (Str × D))
  deriving Inhabited
def D.flat : D → Bool
  | .non | .bl _ | .int _ | .str _ | .ty _ | .ref _ => true
  | _ => false

/-! ### heaps in part -/
open Classical in
noncomputable def cut (O : Addr → Prop) (H : Hp) : Hp := fun a => if O a then none else H a
theorem cut_out {O : Addr → Prop} {H : Hp} {a : Addr} (h : ¬ O a) : cut O H a = H a := by unfold cut; rw [if_neg h]
theorem cut_in {O : Addr → Prop} {H : Hp} {a : Addr} (h : O a) : cut O H a = none := by unfold cut; rw [if_pos h]
theorem cut_some {O : Addr → Prop} {H : Hp} {a : Addr} {o : HO} (h : cut O H a = some o) : ¬ O a ∧ H a = some o := by
  by_cases z : O a
  · rw [cut_in z] at h; cases h
  · rw [cut_out z] at h; exact ⟨z, h⟩
theorem cut_le {O : Addr → Prop} {H : Hp} : Same (cut O H) H := fun a o h => (cut_some h).2
/-- what is cut less, of more -/
theorem cut_mono {O O' : Addr → Prop} {H H' : Hp} (h : ∀ a o, ¬ O a → H a = some o → ¬ O' a ∧ H' a = some o) : Same (cut O H) (cut O' H') := fun a o e => by
  obtain ⟨h1, h2⟩ := cut_some e
  obtain ⟨h3, h4⟩ := h a o h1 h2
  rw [cut_out h3]; exact h4
theorem cut_upd {O : Addr → Prop} {H : Hp} {a : Addr} {o : HO} (h : O a) : cut O (upd H a o) = cut O H := by
  funext b
  by_cases z : O b
  · rw [cut_in z, cut_in z]
  · rw [cut_out z, cut_out z, upd_ne (fun e => z (by rw [e]; exact h))]

/-- a text as Python makes it -/
structure GoodS (s : Str) : Prop where
  len : s.length ≤ sizeLine
  ok : PyData.strOk s = true
/-! ### what a value tells -/
mutual
inductive Rep (K : PySem.W.Frag) (bg : Option (Addr × Addr)) (H : Hp) : V → D → Prop
  | non : Rep K bg H .non .non
  | bl (b : Bool) : Rep K bg H (.bl b) (.bl b)
  | int (i : Int) : Rep K bg H (.int i) (.int i)
  | str {s : Str} (h : GoodS s) : Rep K bg H (.str s) (.str s)
  | ty (n : String) : Rep K bg H (.ty n) (.ty n)
  | ref (a : Addr) : Rep K bg H (.ref a) (.ref a)
  | bag {b l : Addr} (h : bg = some (b, l)) : Rep K bg H (.ref b) .bag
  | lst {a : Addr} {vs : List V} {ds : List D} (h : H a = some (.lst vs)) (hl : vs.length ≤ sizeLine) (r : RepL K bg H vs ds) : Rep K bg H (.ref a) (.lst ds)
  | tup {a : Addr} {vs : List V} {ds : List D} (h : SqT K H a vs) (hl : vs.length ≤ sizeLine) (r : RepL K bg H vs ds) : Rep K bg H (.ref a) (.tup ds)
  | ins {a C dx : Addr} {fv : List (Str × V)} {fs : List (Str × D)} (h : H a = some (.ins C dx fv)) (r : RepF K bg H fv fs) : Rep K bg H (.ref a) (.ins C fs)
  | dk {a : Addr} {kv : List (Key × V)} {kd : List (Key × D)} (h : H a = some (.dK kv)) (r : RepK K bg H kv kd) : Rep K bg H (.ref a) (.dk kd)
  | dt {a : Addr} {kv : List (List Key × V)} {kd : List (List Key × D)} (h : H a = some (.dT kv)) (r : RepT K bg H kv kd) : Rep K bg H (.ref a) (.dt kd)
  | exn {a x : Addr} {fv : List (Str × V)} {fs : List (Str × D)} (h : H x = some (.xd fv)) (r : RepF K bg H fv fs) : Rep K bg H (.ref a) (.exn a x fs)
inductive RepL (K : PySem.W.Frag) (bg : Option (Addr × Addr)) (H : Hp) : List V → List D → Prop
  | nil : RepL K bg H [] []
  | cons {v : V} {d : D} {vs : List V} {ds : List D} (h : Rep K bg H v d) (t : RepL K bg H vs ds) : RepL K bg H (v :: vs) (d :: ds)
inductive RepF (K : PySem.W.Frag) (bg : Option (Addr × Addr)) (H : Hp) : List (Str × V) → List (Str × D) → Prop
  | nil : RepF K bg H [] []
  | cons {f : Str} {v : V} {d : D} {vs : List (Str × V)} {ds : List (Str × D)} (h : Rep K bg H v d) (t : RepF K bg H vs ds) : RepF K bg H ((f, v) :: vs) ((f, d) :: ds)
inductive RepK (K : PySem.W.Frag) (bg : Option (Addr × Addr)) (H : Hp) : List (Key × V) → List (Key × D) → Prop
  | nil : RepK K bg H [] []
  | cons {f : Key} {v : V} {d : D} {vs : List (Key × V)} {ds : List (Key × D)} (h : Rep K bg H v d) (t : RepK K bg H vs ds) : RepK K bg H ((f, v) :: vs) ((f, d) :: ds)
inductive RepT (K : PySem.W.Frag) (bg : Option (Addr × Addr)) (H : Hp) : List (List Key × V) → List (List Key × D) → Prop
  | nil : RepT K bg H [] []
  | cons {f : List Key} {v : V} {d : D} {vs : List (List Key × V)} {ds : List (List Key × D)} (h : Rep K bg H v d) (t : RepT K bg H vs ds) : RepT K bg H ((f, v) :: vs) ((f, d) :: ds)
end
section
variable {K : PySem.W.Frag} {bg : Option (Addr × Addr)} {H H' : Hp}
theorem sqt_same {a : Addr} {xs : List V} (e : Same H H') (h : SqT K H a xs) : SqT K H' a xs := by
  rcases h with (h | ⟨o, h⟩) | h
  · exact .inl (.inl (e _ _ h))
  · exact .inl (.inr ⟨o, e _ _ h⟩)
  · exact .inr h
mutual
theorem Rep.same (e : Same H H') : ∀ {v : V} {d : D}, Rep K bg H v d → Rep K bg H' v d
  | _, _, .non => .non
  | _, _, .bl b => .bl b
  | _, _, .int i => .int i
  | _, _, .str h => .str h
  | _, _, .ty n => .ty n
  | _, _, .ref a => .ref a
  | _, _, .bag h => .bag h
  | _, _, .lst h hl r => .lst (e _ _ h) hl (RepL.same e r)
  | _, _, .tup h hl r => .tup (sqt_same e h) hl (RepL.same e r)
  | _, _, .ins h r => .ins (e _ _ h) (RepF.same e r)
  | _, _, .dk h r => .dk (e _ _ h) (RepK.same e r)
  | _, _, .dt h r => .dt (e _ _ h) (RepT.same e r)
  | _, _, .exn h r => .exn (e _ _ h) (RepF.same e r)
theorem RepL.same (e : Same H H') : ∀ {v : List V} {d : List D}, RepL K bg H v d → RepL K bg H' v d
  | _, _, .nil => .nil
  | _, _, .cons h t => .cons (Rep.same e h) (RepL.same e t)
theorem RepF.same (e : Same H H') : ∀ {v : List (Str × V)} {d : List (Str × D)}, RepF K bg H v d → RepF K bg H' v d
  | _, _, .nil => .nil
  | _, _, .cons h t => .cons (Rep.same e h) (RepF.same e t)
theorem RepK.same (e : Same H H') : ∀ {v : List (Key × V)} {d : List (Key × D)}, RepK K bg H v d → RepK K bg H' v d
  | _, _, .nil => .nil
  | _, _, .cons h t => .cons (Rep.same e h) (RepK.same e t)
theorem RepT.same (e : Same H H') : ∀ {v : List (List Key × V)} {d : List (List Key × D)}, RepT K bg H v d → RepT K bg H' v d
  | _, _, .nil => .nil
  | _, _, .cons h t => .cons (Rep.same e h) (RepT.same e t)
end
theorem RepL.len : ∀ {vs : List V} {ds : List D}, RepL K bg H vs ds → vs.length = ds.length
  | _, _, .nil => rfl
  | _, _, .cons _ t => congrArg (· + 1) (RepL.len t)
theorem RepL.get : ∀ {vs : List V} {ds : List D} {i : Nat} {v : V}, RepL K bg H vs ds → vs[i]? = some v → ∃ d, ds[i]? = some d ∧ Rep K bg H v d
  | _, _, 0, v, .cons h _, e => by
    simp at e
    subst e
    exact ⟨_, rfl, h⟩
  | _, _, i + 1, v, .cons _ t, e => by
    obtain ⟨d, h1, h2⟩ := RepL.get (i := i) t (by simpa using e)
    exact ⟨d, by simpa using h1, h2⟩
theorem RepL.getD : ∀ {vs : List V} {ds : List D} {i : Nat} {d : D}, RepL K bg H vs ds → ds[i]? = some d → ∃ v, vs[i]? = some v ∧ Rep K bg H v d
  | _, _, 0, v, .cons h _, e => by
    simp at e
    subst e
    exact ⟨_, rfl, h⟩
  | _, _, i + 1, v, .cons _ t, e => by
    obtain ⟨d, h1, h2⟩ := RepL.getD (i := i) t (by simpa using e)
    exact ⟨d, by simpa using h1, h2⟩
theorem RepL.app : ∀ {vs ws : List V} {ds es : List D}, RepL K bg H vs ds → RepL K bg H ws es → RepL K bg H (vs ++ ws) (ds ++ es)
  | _, _, _, _, .nil, h => h
  | _, _, _, _, .cons h t, k => .cons h (RepL.app t k)
theorem RepL.drop : ∀ {vs : List V} {ds : List D} (n : Nat), RepL K bg H vs ds → RepL K bg H (vs.drop n) (ds.drop n)
  | _, _, 0, h => h
  | _, _, _ + 1, .nil => .nil
  | _, _, n + 1, .cons _ t => RepL.drop n t
theorem RepL.take : ∀ {vs : List V} {ds : List D} (n : Nat), RepL K bg H vs ds → RepL K bg H (vs.take n) (ds.take n)
  | _, _, 0, _ => .nil
  | _, _, _ + 1, .nil => .nil
  | _, _, n + 1, .cons h t => .cons h (RepL.take n t)
theorem RepL.rev : ∀ {vs : List V} {ds : List D}, RepL K bg H vs ds → RepL K bg H vs.reverse ds.reverse
  | _, _, .nil => .nil
  | _, _, .cons h t => by
    rw [List.reverse_cons, List.reverse_cons]
    exact (RepL.rev t).app (.cons h .nil)
theorem RepL.set : ∀ {vs : List V} {ds : List D} {v : V} {d : D} (i : Nat), RepL K bg H vs ds → Rep K bg H v d → RepL K bg H (vs.set i v) (ds.set i d)
  | _, _, _, _, _, .nil, _ => .nil
  | _, _, _, _, 0, .cons _ t, k => .cons k t
  | _, _, _, _, i + 1, .cons h t, k => .cons h (RepL.set i t k)
theorem Rep.flat {v : V} {d : D} (h : Rep K bg H v d) (hf : d.flat = true) (H' : Hp) : Rep K bg H' v d := by
  cases h with
  | non => exact .non
  | bl b => exact .bl b
  | int i => exact .int i
  | str h => exact .str h
  | ty n => exact .ty n
  | ref a => exact .ref a
  | bag h => cases hf
  | lst h r => cases hf
  | tup h r => cases hf
  | ins h r => cases hf
  | dk h r => cases hf
  | dt h r => cases hf
  | exn h r => cases hf
end

/-! ### an object that a slot owns -/
inductive Ob where
  | lst (xs : List D) | dk (kvs : List (Key × D)) | dt (kvs : List (List Key × D)) | ins (x C : Addr) (fs : List (Str × D))
def Ob.d : Ob → D
  | .lst xs => .lst xs
  | .dk k => .dk k
  | .dt k => .dt k
  | .ins _ C fs => .ins C fs
inductive RepO (K : PySem.W.Frag) (bg : Option (Addr × Addr)) (H : Hp) : Addr → HO → Ob → Prop
  | lst {a : Addr} {vs : List V} {ds : List D} (hl : vs.length ≤ sizeLine) (r : RepL K bg H vs ds) : RepO K bg H a (.lst vs) (.lst ds)
  | dk {a : Addr} {kv : List (Key × V)} {kd : List (Key × D)} (r : RepK K bg H kv kd) : RepO K bg H a (.dK kv) (.dk kd)
  | dt {a : Addr} {kv : List (List Key × V)} {kd : List (List Key × D)} (r : RepT K bg H kv kd) : RepO K bg H a (.dT kv) (.dt kd)
  | ins {x C dx : Addr} {fv : List (Str × V)} {fs : List (Str × D)} (r : RepF K bg H fv fs) : RepO K bg H x (.ins C dx fv) (.ins x C fs)
theorem RepO.same {K : PySem.W.Frag} {bg : Option (Addr × Addr)} {H H' : Hp} (e : Same H H') {a : Addr} {u : HO} {o : Ob} (h : RepO K bg H a u o) : RepO K bg H' a u o := by
  cases h with
  | lst hl r => exact .lst hl (r.same e)
  | dk r => exact .dk (r.same e)
  | dt r => exact .dt (r.same e)
  | ins r => exact .ins (r.same e)
theorem RepO.rep {K : PySem.W.Frag} {bg : Option (Addr × Addr)} {H H' : Hp} {u : HO} {o : Ob} {a : Addr} (h : RepO K bg H a u o) (e : Same H H') (ha : H' a = some u) : Rep K bg H' (.ref a) o.d := by
  cases h with
  | lst hl r => exact .lst ha hl (r.same e)
  | dk r => exact .dk ha (r.same e)
  | dt r => exact .dt ha (r.same e)
  | ins r => exact .ins ha (r.same e)

/-! ### slots by value -/
inductive SD where
  | un | val (d : D) | own (o : Ob)
abbrev En := List SD
/-- what may not be leant on: O0; the objects that must stay: H0; the bag and its script -/
structure Ctx where
  H0 : Hp
  O0 : Addr → Prop
  bg : Option (Addr × Addr)
  /-- what stands, whatever it is by now -/
  X0 : Addr → Prop
def Ctx.isBag (c : Ctx) (a : Addr) : Prop := ∃ l, c.bg = some (a, l)
/-- what stands in a bag -/
structure BagOk (ns : List Int) (pos rest mixed cnt : Int) (n : Nat) : Prop where
  len : ns.length ≤ 63
  p0 : 0 ≤ pos
  r0 : 0 ≤ rest
  m0 : 0 ≤ mixed
  m1 : mixed < 2147483648
  c0 : 0 ≤ cnt
  c1 : cnt ≤ n
def bagL (l : Addr) (pos rest mixed cnt : Int) : HO := .lst [.ref l, .int pos, .int rest, .int mixed, .int cnt]
def BagAt (H : Hp) (b l : Addr) (n : Nat) : Prop := ∃ (ns : List Int) (pos rest mixed cnt : Int), H b = some (bagL l pos rest mixed cnt) ∧ H l = some (.lst (ns.map V.int)) ∧ BagOk ns pos rest mixed cnt n
theorem BagAt.ne {H : Hp} {b l : Addr} {n : Nat} (h : BagAt H b l n) : l ≠ b := fun e => by
  obtain ⟨ns, p, r, m, c, h1, h2, _⟩ := h
  subst e
  rw [h1] at h2
  have z := HO.lst.inj (Option.some.inj h2)
  cases ns with
  | nil => cases z
  | cons x r => cases z
def CW (c : Ctx) (n : Nat) (H : Hp) : Prop := ∀ b l, c.bg = some (b, l) → BagAt H b l n ∧ c.O0 b ∧ c.O0 l
structure EStp (c : Ctx) (H H' : Hp) (n : Nat) : Prop where
  keep : ∀ a o, H a = some o → ¬ c.isBag a → H' a = some o
  bag : CW c n H'
def Own (env : En) (i : Nat) : Prop := ∃ o, env[i]? = some (.own o)
def Oa (c : Ctx) (ad : Nat → Addr) (env : En) (a : Addr) : Prop := c.O0 a ∨ ∃ i, Own env i ∧ a = ad i
def SlotR (K : PySem.W.Frag) (c : Ctx) (ad : Nat → Addr) (H : Hp) (env : En) (σ : L2.St) (i : Nat) : SD → Prop
  | .un => True
  | .val d => ∃ v, σ[i]? = some (some v) ∧ Rep K c.bg (cut (Oa c ad env) H) v d
  | .own o => σ[i]? = some (some (.ref (ad i))) ∧ ∃ u, H (ad i) = some u ∧ RepO K c.bg (cut (Oa c ad env) H) (ad i) u o
structure Rel (K : PySem.W.Frag) (c : Ctx) (ad : Nat → Addr) (n : Nat) (σ : L2.St) (H : Hp) (env : En) : Prop where
  len : env.length ≤ σ.length
  base : ∀ a o, c.H0 a = some o → ¬ c.isBag a → H a = some o
  dom : ∀ a, c.O0 a → H a ≠ none
  bag : CW c n H
  inj : ∀ i j, Own env i → Own env j → ad i = ad j → i = j
  fresh : ∀ i, Own env i → c.H0 (ad i) = none
  notO : ∀ i, Own env i → ¬ c.O0 (ad i)
  slot : ∀ i sd, env[i]? = some sd → SlotR K c ad H env σ i sd
  ex0 : ∀ a, c.X0 a → H a ≠ none
section
variable {K : PySem.W.Frag} {c : Ctx} {ad : Nat → Addr} {n n' : Nat} {σ : L2.St} {H H' : Hp} {env : En}
theorem Rel.nbag (R : Rel K c ad n σ H env) {i : Nat} (h : Own env i) : ¬ c.isBag (ad i) := fun ⟨l, e⟩ => R.notO i h ((R.bag _ _ e).2.1)
theorem Rel.oaDom (R : Rel K c ad n σ H env) {a : Addr} (h : Oa c ad env a) : H a ≠ none := by
  rcases h with h | ⟨i, ⟨o, ho⟩, rfl⟩
  · exact R.dom a h
  · obtain ⟨_, u, hu, _⟩ := R.slot i _ ho
    rw [hu]; exact fun z => nomatch z
theorem Rel.free (R : Rel K c ad n σ H env) {p : Addr} (h : H p = none) : ¬ Oa c ad env p := fun z => R.oaDom z h
theorem oa_bag (hb : CW c n H) {a : Addr} (h : c.isBag a) : c.O0 a := by
  obtain ⟨l, e⟩ := h
  exact (hb _ _ e).2.1
theorem EStp.refl (hb : CW c n H) : EStp c H H n := ⟨fun _ _ h _ => h, hb⟩
theorem EStp.trans {H1 H2 : Hp} {n1 n2 : Nat} (a : EStp c H H1 n1) (b : EStp c H1 H2 n2) : EStp c H H2 n2 := ⟨fun x o h hb => b.keep x o (a.keep x o h hb) hb, b.bag⟩
/-- what is read off outside the forbidden part stays -/
theorem EStp.cut {O : Addr → Prop} (a : EStp c H H' n') (hO : ∀ x, c.isBag x → O x) : Same (cut O H) (cut O H') := cut_mono fun x o h1 h2 => ⟨h1, a.keep x o h2 fun z => h1 (hO x z)⟩
theorem EStp.new {p : Addr} {o : HO} (hb : CW c n H) (hp : H p = none) : EStp c H (upd H p o) n := by
  have hne : ∀ a u, H a = some u → a ≠ p := fun a u e z => by subst z; rw [hp] at e; cases e
  refine ⟨fun a u e _ => by rw [upd_ne (hne a u e)]; exact e, fun b l e => ?_⟩
  obtain ⟨⟨ns, q, r, m, k, h1, h2, h3⟩, h4⟩ := hb b l e
  exact ⟨⟨ns, q, r, m, k, by rw [upd_ne (hne _ _ h1)]; exact h1, by rw [upd_ne (hne _ _ h2)]; exact h2, h3⟩, h4⟩
/-- objects that stay, the bag among them -/
theorem EStp.of_same (hb : CW c n H) (e : Same H H') : EStp c H H' n := ⟨fun a o h _ => e a o h, fun b l z => by
  obtain ⟨⟨ns, q, r, m, k, h1, h2, h3⟩, h4⟩ := hb b l z
  exact ⟨⟨ns, q, r, m, k, e _ _ h1, e _ _ h2, h3⟩, h4⟩⟩
theorem Rel.step (R : Rel K c ad n σ H env) (a : EStp c H H' n') : Rel K c ad n' σ H' env := by
  have hO : ∀ x, c.isBag x → Oa c ad env x := fun x z => .inl (oa_bag R.bag z)
  have hs := a.cut hO
  refine ⟨R.len, fun x o h hb => a.keep x o (R.base x o h hb) hb, fun x hx => ?_, a.bag, R.inj, R.fresh, R.notO, fun i sd e => ?_, fun x hx => ?_⟩
  · by_cases z : c.isBag x
    · obtain ⟨l, e⟩ := z
      obtain ⟨⟨ns, q, r, m, k, h1, _⟩, _⟩ := a.bag _ _ e
      rw [h1]; exact fun z => nomatch z
    · cases q : H x with
      | none => exact absurd q (R.dom x hx)
      | some o => rw [a.keep x o q z]; exact fun z => nomatch z
  · have := R.slot i sd e
    cases sd with
    | un => trivial
    | val d => obtain ⟨v, h1, h2⟩ := this; exact ⟨v, h1, h2.same hs⟩
    | own o =>
      obtain ⟨h1, u, h2, h3⟩ := this
      exact ⟨h1, u, a.keep _ _ h2 (R.nbag ⟨o, e⟩), h3.same hs⟩
  · by_cases z : c.isBag x
    · obtain ⟨l, e⟩ := z
      obtain ⟨⟨ns, q, r', m, k, h1, _⟩, _⟩ := a.bag _ _ e
      rw [h1]; exact fun z => nomatch z
    · cases q : H x with
      | none => exact absurd q (R.ex0 x hx)
      | some o => rw [a.keep x o q z]; exact fun z => nomatch z
end

/-! ### the lifted judgements -/
abbrev WE := En → Nat → (D → Nat → Prop) → Prop
abbrev WT := En → Nat → (Bool → Nat → Prop) → Prop
abbrev WA := En → Nat → (List D → Nat → Prop) → Prop
abbrev WO := En → Nat → (Ob → Nat → Prop) → Prop
/-- an exception: its class, its fields -/
structure EX where
  C : Addr
  fs : Option (List (Str × D))
def ExR (K : PySem.W.Frag) (bg : Option (Addr × Addr)) (O : Addr → Prop) (H : Hp) (x : EX) : Option Addr → Prop
  | none => x.fs = none
  | some d => ∃ fs fv, x.fs = some fs ∧ cut O H d = some (.xd fv) ∧ RepF K bg (cut O H) fv fs
/-- where an exception goes, and the heap at the def's entry -/
structure XI where
  W : L2.WX
  H : Hp
structure DEnds where
  nx : En → Nat → Prop
  rt : D → Nat → Prop
  bk : En → Nat → Prop := fun _ _ => False
  ct : En → Nat → Prop := fun _ _ => False
  rf : Ob → Nat → Prop := fun _ _ => False
  ex : En → Nat → EX → Prop := fun _ _ _ => False
abbrev WS := DEnds → En → Nat → Prop
/-- what a borrowed value tells: its items lean on nothing forbidden -/
inductive Sh (K : PySem.W.Frag) (bg : Option (Addr × Addr)) (O : Addr → Prop) (H : Hp) : V → D → Prop
  | rep {v : V} {d : D} (h : Rep K bg (cut O H) v d) : Sh K bg O H v d
  | own {a : Addr} {u : HO} {o : Ob} (hb : ∀ p l, bg = some (p, l) → a ≠ p ∧ a ≠ l) (h : H a = some u) (r : RepO K bg (cut O H) a u o) : Sh K bg O H (.ref a) o.d
inductive ShL (K : PySem.W.Frag) (bg : Option (Addr × Addr)) (O : Addr → Prop) (H : Hp) : List V → List D → Prop
  | nil : ShL K bg O H [] []
  | cons {v : V} {d : D} {vs : List V} {ds : List D} (h : Sh K bg O H v d) (t : ShL K bg O H vs ds) : ShL K bg O H (v :: vs) (d :: ds)
def lE (K : PySem.W.Frag) (w : WE) : TE := fun σ H Q => ∃ c ad n env Q0, Rel K c ad n σ H env ∧ w env n Q0 ∧ ∀ d n', Q0 d n' → ∀ v H', EStp c H H' n' → Rep K c.bg (cut (Oa c ad env) H') v d → Q v H'
def lB (K : PySem.W.Frag) (w : WE) : TE := fun σ H Q => ∃ c ad n env Q0, Rel K c ad n σ H env ∧ w env n Q0 ∧ ∀ d n', Q0 d n' → ∀ v H', EStp c H H' n' → Sh K c.bg (Oa c ad env) H' v d → Q v H'
/-- a new object, whose items lean on nothing forbidden and not on itself -/
def lF (K : PySem.W.Frag) (w : WO) : TE := fun σ H Q => ∃ c ad n env Q0, Rel K c ad n σ H env ∧ w env n Q0 ∧ ∀ o n', Q0 o n' → ∀ p u H', H p = none → EStp c H H' n' → H' p = some u → RepO K c.bg (cut (fun a => Oa c ad env a ∨ a = p) H') p u o → Q (.ref p) H'
def lT (K : PySem.W.Frag) (w : WT) : TT := fun σ H Q => ∃ c ad n env Q0, Rel K c ad n σ H env ∧ w env n Q0 ∧ ∀ b n', Q0 b n' → ∀ H', EStp c H H' n' → Q b H'
def lA (K : PySem.W.Frag) (w : WA) : TA := fun σ H Q => ∃ c ad n env Q0, Rel K c ad n σ H env ∧ w env n Q0 ∧ ∀ ds n', Q0 ds n' → ∀ vs H', EStp c H H' n' → RepL K c.bg (cut (Oa c ad env) H') vs ds → Q vs H'
def lAB (K : PySem.W.Frag) (w : WA) : TA := fun σ H Q => ∃ c ad n env Q0, Rel K c ad n σ H env ∧ w env n Q0 ∧ ∀ ds n', Q0 ds n' → ∀ vs H', EStp c H H' n' → ShL K c.bg (Oa c ad env) H' vs ds → Q vs H'
structure SEnds (K : PySem.W.Frag) (Y : XI) (c : Ctx) (D0 : DEnds) (E : Ends) : Prop where
  nx : ∀ env n, D0.nx env n → ∀ σ H ad, Rel K c ad n σ H env → E.nx σ H
  bk : ∀ env n, D0.bk env n → ∀ σ H ad, Rel K c ad n σ H env → E.bk σ H
  ct : ∀ env n, D0.ct env n → ∀ σ H ad, Rel K c ad n σ H env → E.ct σ H
  rt : ∀ d n, D0.rt d n → ∀ v H, (∀ a o, c.H0 a = some o → ¬ c.isBag a → H a = some o) → CW c n H → Rep K c.bg (cut c.O0 H) v d → E.rt v H
  rf : ∀ o n, D0.rf o n → ∀ p u H, c.H0 p = none → (∀ a o, c.H0 a = some o → ¬ c.isBag a → H a = some o) → CW c n H → H p = some u → RepO K c.bg (cut (fun a => c.O0 a ∨ a = p) H) p u o → E.rt (.ref p) H
  ex : ∀ env n x, D0.ex env n x → ∀ σ H ad od, Rel K c ad n σ H env → ExR K c.bg (Oa c ad env) H x od → Y.W (.ref x.C) od σ H
  h0 : ∀ a, Y.H a ≠ none → c.H0 a ≠ none ∨ c.isBag a ∨ c.X0 a
def lS (K : PySem.W.Frag) (Y : XI) (w : WS) : TS := fun E σ H => ∃ c ad n env D0, Rel K c ad n σ H env ∧ w D0 env n ∧ SEnds K Y c D0 E
structure DE (X : Cx) (e : Expr) (w : WE) : Prop where
  pe : PE X e (lE X.K w)
structure DB (X : Cx) (e : Expr) (w : WE) : Prop where
  pe : PE X e (lB X.K w)
structure DF (X : Cx) (e : Expr) (w : WO) : Prop where
  pe : PE X e (lF X.K w)
structure DT (X : Cx) (e : Expr) (w : WT) : Prop where
  pt : PT X e (lT X.K w)
structure DW (X : Cx) (e : Expr) (w : WT) : Prop where
  pw : PW X e (lT X.K w)
structure DA (X : Cx) (es : List Expr) (w : WA) : Prop where
  pa : PA X es (lA X.K w)
structure DAB (X : Cx) (es : List Expr) (w : WA) : Prop where
  pa : PA X es (lAB X.K w)
structure DS (X : Cx) (Y : XI) (st : Stmt) (w : WS) : Prop where
  ps : PS X st (lS X.K Y w)
structure DSs (X : Cx) (Y : XI) (st : List Stmt) (w : WS) : Prop where
  ps : PSs X st (lS X.K Y w)
end Dv

set_option Elab.async false
set_option linter.all false
set_option maxRecDepth 100000
set_option maxHeartbeats 4000000
/-! exceptions made, in one form -/
namespace Ke
open PySem PySem.Spec PyProof.Rows L2
theorem same_new {H : Hp} {p : Addr} {o : HO} (h : H p = none) : Same H (upd H p o) := fun b u e => by rw [upd_ne (ne_of_none e h)]; exact e
/-- an exception of the class at C with attributes fs stands at a -/
def ExcAt (H : Hp) (a C : Addr) (fs : List (Str × V)) : Prop := (fs = [] ∧ H a = some (exo a C none)) ∨ ∃ d : Addr, d ≠ a ∧ H a = some (exo a C (some d)) ∧ H d = some (exd d fs)
theorem ExcAt.same {H H' : Hp} {a C : Addr} {fs : List (Str × V)} (e : Same H H') (h : ExcAt H a C fs) : ExcAt H' a C fs := by
  rcases h with ⟨h1, h2⟩ | ⟨d, h0, h1, h2⟩
  · exact .inl ⟨h1, e _ _ h2⟩
  · exact .inr ⟨d, h0, e _ _ h1, e _ _ h2⟩
theorem ExcAt.ty {K : PySem.W.Frag} {H : Hp} {a C : Addr} {fs : List (Str × V)} (c : ExcC K C) (h : ExcAt H a C fs) : TyE K H (.ref a) (.ref C) := by
  rcases h with ⟨_, h2⟩ | ⟨d, _, h1, h2⟩
  · exact .exc0 h2 c
  · exact .excD h1 h2 c
/-- the promise of an __init__ whose parameters are the attributes ns -/
def spCtor (K : PySem.W.Frag) (C : Addr) (ns : List Str) : Sp := fun vs H Q _ => ∃ (a : Addr) (xs : List V), vs = .ref a :: xs ∧ xs.length = ns.length ∧ H a = some (exo a C none) ∧
  (ns = [] → Q .non H) ∧ (ns ≠ [] → ∀ H' d, H d = none → d ≠ a → (∀ b, b ≠ a → b ≠ d → H' b = H b) → H' a = some (exo a C (some d)) → H' d = some (exd d (ns.zip xs).reverse) → Q .non H')
/-- how a class is called: its maker, by place and by name -/
structure CtorOk (P : Program) (w : World) (K : PySem.W.Frag) (mg : Str → Option Value) (base : Heap) (x : Str) (C : Addr) (ns : List Str) : Prop where
  gC : mg x = some (.ref C)
  xc : XCl K C
  att : ∀ f ∈ ns, PySem.W.findIn K (.ref C) f = some none
  run : ∃ (f : Addr) (fd : FuncData), MkE K C f ∧ FnOk P w K mg base CX0 1 f fd ("self" :: ns) (spCtor K C ns) ∧ (∀ (s : Shared) (us : List Value), us.length = ns.length + 1 → BindsTo s fd ⟨us, []⟩ ((("self" : Str) :: ns).zip us)) ∧
    ∀ (s : Shared) (u : Value) (ws : List Value), ws.length = ns.length → BindsTo s fd ⟨[u], ns.reverse.zip ws⟩ ((("self" : Str) :: ns).zip (u :: ws.reverse))
/-- .. and both were free ahead -/
def ExcNew (H1 H' : Hp) (a C : Addr) (fs : List (Str × V)) : Prop := (fs = [] ∧ H' a = some (exo a C none)) ∨ ∃ d : Addr, d ≠ a ∧ H1 d = none ∧ H' a = some (exo a C (some d)) ∧ H' d = some (exd d fs) ∧ fs ≠ []
theorem ExcNew.at {H1 H' : Hp} {a C : Addr} {fs : List (Str × V)} (h : ExcNew H1 H' a C fs) : ExcAt H' a C fs := by
  rcases h with h | ⟨d, h0, _, h1, h2, _⟩
  · exact .inl h
  · exact .inr ⟨d, h0, h1, h2⟩
/-- C(..) -/
def tCtor (C : Addr) (ns : List Str) (t : TA) : TE := fun σ H Q => t σ H fun vs H1 => vs.length = ns.length ∧ ∀ a H', H1 a = none → Same H1 H' → ExcNew H1 H' a C (ns.zip vs).reverse → Q (.ref a) H'
def tCtorK (C : Addr) (ns : List Str) (t : TA) : TE := fun σ H Q => t σ H fun zs H1 => zs.length = ns.length ∧ ∀ a H', H1 a = none → Same H1 H' → ExcNew H1 H' a C (ns.zip zs.reverse).reverse → Q (.ref a) H'
theorem ctor_to {K : PySem.W.Frag} {C : Addr} {ns : List Str} {vs : List V} {H1 : Hp} {Q : VK} (hl : vs.length = ns.length) (h : ∀ a H', H1 a = none → Same H1 H' → ExcNew H1 H' a C (ns.zip vs).reverse → Q (.ref a) H') (a : Addr) (na : H1 a = none) :
    spCtor K C ns (.ref a :: vs) (upd H1 a (exo a C none)) (fun v H2 => v = .non ∧ Q (.ref a) H2) E0 := by
  refine ⟨a, vs, rfl, hl, upd_same, fun e => ⟨rfl, ?_⟩, fun e H' d hd hda hk ha hd' => ⟨rfl, ?_⟩⟩
  · subst e
    exact h a _ na (same_new na) (.inl ⟨rfl, upd_same⟩)
  · have nd : H1 d = none := by rwa [upd_ne hda] at hd
    refine h a H' na (fun b o e => ?_) (.inr ⟨d, hda, nd, ha, hd', fun z => ?_⟩)
    · have ba : b ≠ a := ne_of_none e na
      have bd : b ≠ d := ne_of_none e nd
      rw [hk b ba bd, upd_ne ba]
      exact e
    · match ns, vs, e, hl with
      | f :: ns', v :: vs', _, _ =>
        have z2 := congrArg List.length z
        rw [List.length_reverse] at z2
        cases z2
section
variable {X : Cx} {C : Addr} {ns : List Str} {x : Str} {p pos : Pos} {e : Expr} {es : List Expr} {kws : List Keyword} {t : TA}
theorem kbn1 {K : PySem.W.Frag} {fd : FuncData} (b1 : ∀ (s : Shared) (us : List Value), us.length = ns.length + 1 → BindsTo s fd ⟨us, []⟩ ((("self" : Str) :: ns).zip us)) : KBn K fd ("self" :: ns) (ns.length + 1) [] (fun us _ => us) (fun vs _ => vs) :=
  ⟨fun s us ws _ l1 l2 => by
    match ws, l2 with
    | [], _ => exact b1 s us l1, fun r _ => r⟩
theorem vals_rev : ∀ {xs : List V} {us : List Value}, Vals xs us → Vals xs.reverse us.reverse
  | _, _, .nil => .nil
  | _, _, .cons r t => by
    rw [List.reverse_cons, List.reverse_cons]
    exact (vals_rev t).append (.cons r .nil)
theorem kbn2 {K : PySem.W.Frag} {fd : FuncData} (b2 : ∀ (s : Shared) (u : Value) (ws : List Value), ws.length = ns.length → BindsTo s fd ⟨[u], ns.reverse.zip ws⟩ ((("self" : Str) :: ns).zip (u :: ws.reverse))) : KBn K fd ("self" :: ns) 1 ns.reverse (fun us ws => us ++ ws.reverse) (fun vs zs => vs ++ zs.reverse) :=
  ⟨fun s us ws _ l1 l2 => by
    match us, l1 with
    | [u], _ => exact b2 s u ws (by rw [l2, List.length_reverse]), fun r r2 => r.append (vals_rev r2)⟩
theorem pe_ctor (O : CtorOk X.prog X.w X.K X.mg X.base x C ns) (hr : Room 2 X.A) (hg : Gl X x) (ha : PA X (e :: es) t) (hdb : (x == ("__debug__" : Str)) = false := by decide) (hz : ns.length ≤ 1000 := by decide)
    (he : starEach (e :: es) X.env = (false, eval e X.env) :: starEach es X.env := by rfl) (hpl : (backTo pos (starEach es X.env)).any (·.1) = false := by rfl) : PE X (.Call (.Name x p) (e :: es) [] pos) (tCtor C ns t) := by
  obtain ⟨f, fd, M, F, b1, _⟩ := O.run
  refine ⟨fun pins s σ H Q I h => wpAny_Call_Name_kw (ld_glob I hg O.gC ?_ hdb)⟩
  refine PySem.W.callWith_K (h₀ := X.base) I.ok.mod.kin M.xc.keep (thn (ha.run pos pins s σ H _ I h) fun us s1 ⟨vs, H1, I1, r, l1, q⟩ => ⟨I1.kIn, ?_⟩) he hpl
  exact run_new (ws := []) (zs := []) M F hr (kbn1 b1) hz I1 r .nil l1 rfl fun a na => ctor_to l1 q a na
theorem pe_ctor0 (O : CtorOk X.prog X.w X.K X.mg X.base x C []) (hr : Room 2 X.A) (hg : Gl X x) (hdb : (x == ("__debug__" : Str)) = false := by decide) : PE X (.Call (.Name x p) [] [] pos) (tCtor C [] tNil) := by
  obtain ⟨f, fd, M, F, b1, _⟩ := O.run
  refine ⟨fun pins s σ H Q I h => wpAny_Call_Name_kw (ld_glob I hg O.gC ?_ hdb)⟩
  obtain ⟨_, q⟩ := h
  exact PySem.W.callWith_K0 (I.tok _).kIn M.xc.keep (run_new (us := []) (vs := []) (ws := []) (zs := []) M F hr (kbn1 b1) (Nat.zero_le _) (I.tok _) .nil .nil rfl rfl fun a na => ctor_to rfl q a na)
theorem pe_ctorK (O : CtorOk X.prog X.w X.K X.mg X.base x C ns) (hr : Room 2 X.A) (hg : Gl X x) (hkw : PK X kws t) (hall : (backToKw pos (keywordEach kws X.env)).all (·.1.isSome) = true := by rfl)
    (hks : (backToKw pos (keywordEach kws X.env)).filterMap (·.1) = ns.reverse := by rfl) (hdb : (x == ("__debug__" : Str)) = false := by decide) (hpl : ((backTo pos (starEach [] X.env)).any (·.1) || (backToKw pos (keywordEach kws X.env)).any (·.1.isNone)) = false := by rfl) :
    PE X (.Call (.Name x p) [] kws pos) (tCtorK C ns t) := by
  obtain ⟨f, fd, M, F, _, b2⟩ := O.run
  refine ⟨fun pins s σ H Q I h => wpAny_Call_Name_kw (ld_glob I hg O.gC ?_ hdb)⟩
  refine PySem.W.callWith_KW0 (h₀ := X.base) I.ok.mod.kin M.xc.keep hall (thn (hkw.run pos pins s σ H _ I h) fun ws s2 ⟨zs, H2, I2, rz, l2, q2⟩ => ⟨I2.kIn, ?_⟩) hpl
  rw [hks]
  exact run_new (us := []) (vs := []) M F hr (kbn2 b2) (Nat.zero_le _) I2 .nil rz rfl (by rw [l2, List.length_reverse]) fun a na => ctor_to (by rw [List.length_reverse]; exact l2) q2 a na
end
end Ke

set_option Elab.async false
set_option linter.all false
set_option maxRecDepth 100000
set_option maxHeartbeats 4000000
/-! several clauses, some with a name -/
namespace Ke
open PySem PySem.Spec PyProof.Rows L2
abbrev Suite := Addr → Value → Option Addr → TS
/-- what behind a clause with the name of slot i follows -/
def nameless (i : Nat) (D : Ends) : Ends := { nx := fun σ H => D.nx (σ.set i none) H, rt := D.rt, bk := fun σ H => D.bk (σ.set i none) H, ct := fun σ H => D.ct (σ.set i none) H }
def wMix (K : PySem.W.Frag) (Wout : WX) (D : Ends) : List (Value × Option Nat × Suite) → WX
  | [] => Wout
  | (c, none, ts) :: r => fun cls d σ H => ∃ b, PySem.W.exmOne K cls c = some b ∧ (b = true → ∀ a, H a = none → ts a cls d D σ H) ∧ (b = false → wMix K Wout D r cls d σ H)
  | (c, some i, ts) :: r => fun cls d σ H => ∃ b, PySem.W.exmOne K cls c = some b ∧ (b = true → ∀ a, H a = none → ts a cls d (nameless i D) (σ.set i (some (.ref a))) H) ∧ (b = false → wMix K Wout D r cls d σ H)
inductive Clauses (X : Cx) : List ExceptHandler → List (Value × Option Nat × Suite) → Prop
  | done : Clauses X [] []
  | bare {x : Str} {c : Value} {ts : Suite} {b₀ : Stmt} {su : List Stmt} {np p' : Pos} {hds : List ExceptHandler} {l : List (Value × Option Nat × Suite)} (hc : Names X x c)
      (hsu : ∀ (a : Addr) (oe : Obj) (cls : Value) (d : Option Addr) (pn : List (Addr × Obj)), Zc cls d oe → (∃ vs, oe.data = .fields vs) → PSs (X.suite a ((a, oe) :: pn)) (b₀ :: su) (ts a cls d)) (r : Clauses X hds l) : Clauses X (.ExceptHandler (some (.Name x np)) none (b₀ :: su) p' :: hds) ((c, none, ts) :: l)
  | named {x n : Str} {c : Value} {i : Nat} {ts : Suite} {b₀ : Stmt} {su : List Stmt} {np p' : Pos} {hds : List ExceptHandler} {l : List (Value × Option Nat × Suite)} (hi : X.N[i]? = some n) (hln : X.env.kindOf n = some .local) (hc : Names X x c)
      (hsu : ∀ (a : Addr) (oe : Obj) (cls : Value) (d : Option Addr) (pn : List (Addr × Obj)), Zc cls d oe → (∃ vs, oe.data = .fields vs) → PSs (X.suite a ((a, oe) :: pn)) (b₀ :: su) (ts a cls d)) (r : Clauses X hds l) : Clauses X (.ExceptHandler (some (.Name x np)) (some n) (b₀ :: su) p' :: hds) ((c, some i, ts) :: l)
section
variable {X : Cx} {body : List Stmt} {h₀ : ExceptHandler} {hds : List ExceptHandler} {l : List (Value × Option Nat × Suite)} {pos : Pos} {tb : WX → TS} {Wout : WX}
theorem ps_tryMix (hst : X.stack = X.env :: X.outer) (hfl : X.env.frame = some X.env.locals) (hN : X.N.Nodup) (tk : Takes X Wout)
    (hb : ∀ (W : WX) (pn : List (Addr × Obj)) (xe : Value → Shared → Prop), Takes (X.tr pn xe) W → PassesOwn (model X.prog X.w) X.A X.env xe → PSs (X.tr pn xe) body (tb W))
    (hh : Clauses X (h₀ :: hds) l) : PS X (.Try body (h₀ :: hds) [] [] pos) (fun D σ H => tb (wMix X.K Wout D l) D σ H) := by
  refine ⟨fun pins s σ H D I hw => wpAny_Try_except ?_⟩
  have kk := I.ok
  have frm : X.A.frames = some (X.env :: X.outer) := by rw [kk.frames, hst]
  refine wpAny_mono ((hb (wMix X.K Wout D l) (X.pn ++ pins) (fun e y1 => wpAny (model X.prog X.w) X.A (noteFrame e X.env) (fun _ y2 => wpAny (model X.prog X.w) X.A (setFlight e none) (fun _ y3 => wpAny (model X.prog X.w) X.A (handleBy e X.env (h₀ :: hds)) (SP X pins D) X.xe y3) X.xe y2) X.xe y1)
    (fun u z xx => ?_) PassesOwn.looking).run [] s σ H D (I.toTry _) hw) (fun fl z out => ?_) (fun _ _ he => he)
  · obtain ⟨a, B, y0, pins', σ', H', cls, d, rfl, G', nb, up, sky, na, os, ag, w⟩ := xx
    have G : Inv X pins σ' H' y0 := G'.ofTry kk
    have sk : Sky B (X.env :: X.outer) a (Zc cls d) X.env.locals z.heap := by rw [← hst]; exact sky
    show wpAny (model X.prog X.w) X.A (noteFrame (.ref a) X.env) _ _ _
    refine Sky.land Zc.steady frm hfl sk fun g3 f3 u3 => ?_
    have G3 : Inv X pins σ' H' { z with heap := g3 } := G.landed nb f3.1 (up.trans u3) os ag
    obtain ⟨o3, w3, e3, z3, d3⟩ := f3.there
    have off : a ∉ frs (X.env :: X.outer) := fun hm => by
      obtain ⟨_, o', e', hnf⟩ := f3.2.2.1.mem hm
      rw [e3] at e'; cases e'
      exact hnf _ d3
    have offL : a ≠ X.env.locals := fun y => off (List.mem_filterMap.mpr ⟨X.env, List.mem_cons_self, by rw [hfl, y]⟩)
    have offF : a ∉ X.fs := fun hm => by
      obtain ⟨e, he, q⟩ := List.mem_filterMap.mp hm
      exact off (List.mem_filterMap.mpr ⟨e, List.mem_cons_of_mem _ he, q⟩)
    have S3 := G3.suite e3 d3 na offL offF
    have LT : PySem.W.Looks (model X.prog X.w) g3 (typeOf (.ref a)) cls := fun A Q E s k q => wpAny_typeOf_ref (k _ _ e3) (by rw [z3.1]; exact q)
    have ask : ∀ {x : Str} {c : Value} {np : Pos} {Q : Value → Shared → Prop} {E : Value → Shared → Prop}, Names X x c → Q c { z with heap := g3 } → wpAny (model X.prog X.w) (X.A.mark (some (.ref a))) (eval (.Name x np) X.env) Q E { z with heap := g3 } := fun {x c np Q E} hc q => by
      obtain ⟨g1, g2, g3' | ⟨g3', g4, g5⟩⟩ := hc
      · exact ld_glob (X := X.suite a ((a, o3) :: (X.pn ++ pins))) S3 g1 g3' q g2
      · exact ld_blt (X := X.suite a ((a, o3) :: (X.pn ++ pins))) S3 g1 g3' g4 q g5 g2
    have go : ∀ {hs : List ExceptHandler} {l' : List (Value × Option Nat × Suite)}, Clauses X hs l' → wMix X.K Wout D l' cls d σ' H' → wpAny (model X.prog X.w) X.A (handleBy (.ref a) X.env hs) (SP X pins D) X.xe { z with heap := g3 } := by
      intro hs l' hk
      induction hk with
      | done =>
        intro w
        refine wpAny_handleBy_nil ?_
        obtain ⟨k1, k2, k3, oe, vs, T, oT, ts', he, hz, hd, h1, hr⟩ := id f3
        unfold PySem.passOn
        refine wpAny_bind (wpAny_field he hd h1 ?_)
        rw [if_neg (show ¬ ((Value.ref T == Value.none) = true) by simp)]
        have rest : wpAny (model X.prog X.w) X.A (setFlight (.ref a) X.env.frame) (fun _ y4 => wpAny (model X.prog X.w) X.A (throw (.ref a) : Sem Flow) (SP X pins D) X.xe y4) X.xe { z with heap := g3 } := by
          rw [hfl]
          exact HandSPX.setFlight_upZ f3 fun g4 hh4 u4 => wpAny_throw (tk _ _ ⟨a, B, y0, pins, σ', H', cls, d, rfl, G, nb, (up.trans u3).trans u4, .inr (.inr (by rw [hst]; exact hh4)), na, os, ag, w⟩)
        first | exact wpAny_bind (wpAny_pure (wpAny_bind rest)) | exact wpAny_bind rest
      | @bare x c ts b₀ su np p' hds2 l2 hc hsu r ih =>
        intro w
        obtain ⟨b, b1, yes, no⟩ := w
        refine wpAny_handleBy_cons (codeAny_handlers_test (ask hc ((PySem.W.exm_one (M := model X.prog X.w) G3.kIn LT b1).here ?_))) (by intro q; cases q)
        cases b with
        | false => exact ih (no rfl)
        | true =>
          refine codeAny_handlers_suite (HandSPX.lands_againZ f3 fun g4 f4 u4 => ?_)
          have G4 : Inv X pins σ' H' { z with heap := g4 } := G.landed nb f4.1 ((up.trans u3).trans u4) os ag
          obtain ⟨o4, w4, e4, z4, d4⟩ := f4.there
          refine wpAny_mono ((hsu a o4 cls d (X.pn ++ pins) z4 ⟨_, d4⟩).run [] _ _ H' _ (G4.suite e4 d4 na offL offF) (yes rfl a na)) (fun fl z6 out => ?_) (fun _ _ y => False.elim y)
          cases fl with
          | next => obtain ⟨σ6, H6, S6, q6⟩ := out; exact ⟨_, _, S6.unsuite kk, q6⟩
          | brk => obtain ⟨σ6, H6, S6, q6⟩ := out; exact ⟨_, _, S6.unsuite kk, q6⟩
          | cont => obtain ⟨σ6, H6, S6, q6⟩ := out; exact ⟨_, _, S6.unsuite kk, q6⟩
          | ret u => obtain ⟨v6, σ6, H6, S6, r6, q6⟩ := out; exact ⟨_, _, _, S6.unsuite kk, r6, q6⟩
      | @named x n c i ts b₀ su np p' hds2 l2 hi hln hc hsu r ih =>
        intro w
        obtain ⟨b, b1, yes, no⟩ := w
        refine wpAny_handleBy_cons (codeAny_handlers_test (ask hc ((PySem.W.exm_one (M := model X.prog X.w) G3.kIn LT b1).here ?_))) (by intro q; cases q)
        cases b with
        | false => exact ih (no rfl)
        | true =>
          refine codeAny_handlers_suite_as (HandSPX.lands_againZ f3 fun g4 f4 u4 => ?_)
          have G4 : Inv X pins σ' H' { z with heap := g4 } := G.landed nb f4.1 ((up.trans u3).trans u4) os ag
          obtain ⟨o4, w4, e4, z4, d4⟩ := f4.there
          refine store_ok (X := X.suite a ((a, o4) :: (X.pn ++ pins))) (v := .ref a) (G4.suite e4 d4 na offL offF) hN hi (.inl hln) rfl (fun y5 S5 => ?_) (.inr hln)
          refine wpAny_mono ((hsu a o4 cls d (X.pn ++ pins) z4 ⟨_, d4⟩).run [] y5 _ H' _ S5 (yes rfl a na)) (fun fl z6 out => ?_) (fun _ _ y => False.elim y)
          have gone : ∀ {σ6 : L2.St} {H6 : Hp} {Q : Shared → Prop}, Inv (X.suite a ((a, o4) :: (X.pn ++ pins))) [] σ6 H6 z6 → (∀ y7, Inv X pins (σ6.set i none) H6 y7 → Q y7) → wpAny (model X.prog X.w) X.A (do bindName X.env n .none; unbindBehindTheSuite X.env n p') (fun _ y7 => Q y7) X.xe z6 :=
            fun {σ6 H6 Q} S6 hq => gone_ok (S6.unsuite kk) hN hi hln hq
          cases fl with
          | next => obtain ⟨σ6, H6, S6, q6⟩ := out; exact gone S6 fun y7 J7 => ⟨_, _, J7, q6⟩
          | brk => obtain ⟨σ6, H6, S6, q6⟩ := out; exact gone S6 fun y7 J7 => ⟨_, _, J7, q6⟩
          | cont => obtain ⟨σ6, H6, S6, q6⟩ := out; exact gone S6 fun y7 J7 => ⟨_, _, J7, q6⟩
          | ret u => obtain ⟨v6, σ6, H6, S6, r6, q6⟩ := out; exact gone S6 fun y7 J7 => ⟨_, _, _, J7, r6, q6⟩
    exact go hh w
  · cases fl with
    | next => obtain ⟨σ', H', J', q⟩ := out; exact wpAny_execs_nil ⟨σ', H', J'.ofTry kk, q⟩
    | brk => obtain ⟨σ', H', J', q⟩ := out; exact ⟨σ', H', J'.ofTry kk, q⟩
    | cont => obtain ⟨σ', H', J', q⟩ := out; exact ⟨σ', H', J'.ofTry kk, q⟩
    | ret u => obtain ⟨v, σ', H', J', r, q⟩ := out; exact ⟨v, σ', H', J'.ofTry kk, r, q⟩
end
end Ke

set_option Elab.async false
set_option linter.all false
set_option maxRecDepth 100000
set_option maxHeartbeats 4000000
/-! sorted(xs) of texts, of tuples of an int and a text, any number of them -/
namespace So
open PySem PySem.Spec PySem.W PyProof.Rows L2
theorem each_str {us : List Value} : ∀ {zs : List Str}, Vals (zs.map V.str) us → EachIs (fun v b => ∃ t, v = Value.str b t) us zs := by
  intro zs
  induction zs generalizing us with
  | nil => intro h; cases h; exact .nil
  | cons z zs ih =>
    intro h
    cases h with
    | cons r h => exact .cons r (ih h)
theorem vals_str {us : List Value} : ∀ {zs : List Str}, EachIs (fun v b => ∃ t, v = Value.str b t) us zs → Vals (zs.map V.str) us := by
  intro zs
  induction zs generalizing us with
  | nil => intro h; cases h; exact .nil
  | cons z zs ih =>
    intro h
    cases h with
    | cons r h => exact .cons r (ih h)
def leStr : Str → Str → Bool := dataLe false PyData.str
def rSortedStr (K : PySem.W.Frag) : List V → Hp → VK → Prop := fun vs H Q => ∃ (a : Addr) (zs : List Str), vs = [V.ref a] ∧ SqL K H a (zs.map V.str) ∧
  ∀ p, H p = none → Q (.ref p) (upd H p (.lst ((zs.mergeSort leStr).map V.str)))
theorem cr_sortedStr {X : Cx} (hu : X.A.units + 2 < cLine) : CallR X (.builtin "sorted") (rSortedStr X.K) := by
  intro pins s σ H vs us Q I r h
  obtain ⟨a, zs, rfl, hs, q⟩ := h
  obtain ⟨its, rv, hl, hz⟩ := I.list hs
  rw [Vals.ref1 r]
  have ei := each_str rv
  refine sorted_data (R := fun v b => ∃ t, v = Value.str b t) (enc := PyData.str) hl.isList ei (ei.mono fun v b ⟨t, e⟩ => ⟨[], by subst e; exact .str _ _⟩) (AllAlike.of fun b b' => by simp [alike]) (Sortable.others fun b => ⟨(fun z => by cases z), (fun xs z => by cases z)⟩) (by rw [List.length_map] at hz; exact hz) (fun b _ => hu) fun out h1 h2 => ?_
  obtain ⟨ep, he'⟩ := PyProof.Rows.sortedAll_at s.heap its out.toArray
  have hlen : ((zs.mergeSort leStr).map V.str).length ≤ sizeLine := by
    rw [List.length_map, List.length_mergeSort]
    rw [List.length_map] at hz
    exact hz
  exact ⟨.ref _, upd H (s.heap.objs.size + 1) (.lst ((zs.mergeSort leStr).map V.str)), I.laid (t' := s.toks) (fun _ _ => PyProof.Rows.sortedAll_old) (Nat.le_succ _) ⟨hlen, out, ep, vals_str h2, he'⟩, rfl, q _ (I.hok.fresh (Nat.le_succ _))⟩
/-! ### tuples of an int and a text -/
def encP (p : Int × Str) : PyData := .tuple [.int p.1, .str p.2]
def leP : Int × Str → Int × Str → Bool := dataLe false encP
/-- the objects ts are tuples of an int and a text -/
def IsAt (H : Hp) : List Addr → List (Int × Str) → Prop
  | r :: rs, p :: row => H r = some (.tup [.int p.1, .str p.2]) ∧ IsAt H rs row
  | [], [] => True
  | _, _ => False
theorem each_tup {H : Hp} : ∀ {us : List Value} {ts : List Addr} {row : List (Int × Str)}, Vals (ts.map V.ref) us → IsAt H ts row → EachIs (fun v b => ∃ r, v = Value.ref r ∧ H r = some (.tup [.int b.1, .str b.2])) us row
  | us, [], [], h, _ => by cases h; exact .nil
  | us, t :: ts, p :: row, h, k => by
    cases h with
    | cons r h => exact .cons ⟨t, r, k.1⟩ (each_tup h k.2)
  | _, [], _ :: _, _, k => k.elim
  | _, _ :: _, [], _, k => k.elim
theorem tup_each {H : Hp} : ∀ {us : List Value} {row : List (Int × Str)}, EachIs (fun v b => ∃ r, v = Value.ref r ∧ H r = some (.tup [.int b.1, .str b.2])) us row → ∃ ts : List Addr, Vals (ts.map V.ref) us ∧ IsAt H ts row
  | _, _, .nil => ⟨[], .nil, trivial⟩
  | _, _, .cons ⟨r, e, k⟩ h => by
    obtain ⟨ts, h1, h2⟩ := tup_each h
    exact ⟨r :: ts, .cons e h1, k, h2⟩
theorem IsAt.len {H : Hp} : ∀ {rs : List Addr} {row : List (Int × Str)}, IsAt H rs row → rs.length = row.length
  | _ :: _, _ :: _, h => congrArg (· + 1) (IsAt.len h.2)
  | [], [], _ => rfl
  | [], _ :: _, h => h.elim
  | _ :: _, [], h => h.elim
def rSortedTup (K : PySem.W.Frag) : List V → Hp → VK → Prop := fun vs H Q => ∃ (a : Addr) (ts : List Addr) (row : List (Int × Str)), vs = [V.ref a] ∧ SqL K H a (ts.map V.ref) ∧ IsAt H ts row ∧
  ∀ p ts', H p = none → IsAt H ts' (row.mergeSort leP) → Q (.ref p) (upd H p (.lst (ts'.map V.ref)))
theorem cr_sortedTup {X : Cx} (hu : X.A.units + 3 < cLine) : CallR X (.builtin "sorted") (rSortedTup X.K) := by
  intro pins s σ H vs us Q I r h
  obtain ⟨a, ts, row, rfl, hs, hk, q⟩ := h
  obtain ⟨its, rv, hl, hz⟩ := I.list hs
  rw [Vals.ref1 r]
  have hlen := hk.len
  have ei := each_tup rv hk
  have er : EachIs (fun v b => ∃ as, Reads s.heap v (encP b) as) its row := ei.mono fun v b hv => by
    obtain ⟨r, e, k⟩ := hv
    subst e
    obtain ⟨_, its2, r2, o, ho, hc, n, hd⟩ := I.hok _ _ k
    obtain ⟨u1, u2, rfl, ri, rj⟩ := vals2 r2
    obtain ⟨t1, rfl⟩ := ri
    obtain ⟨t2, rfl⟩ := rj
    exact ⟨_, .tuple ho hc hd (.cons (.int _ _) (.cons (.str _ _) .nil))⟩
  refine sorted_data (R := fun v b => ∃ r, v = Value.ref r ∧ H r = some (.tup [.int b.1, .str b.2])) (enc := encP) hl.isList ei er (AllAlike.of fun b b' => by simp [encP, alike, alikeAll]) (Sortable.tuples fun b => ⟨_, _, rfl⟩) (by rw [List.length_map] at hz; omega) (fun b _ => show X.A.units + 2 + 1 < cLine from hu) fun out h1 h2 => ?_
  · obtain ⟨ts', h3, h4⟩ := tup_each h2
    obtain ⟨ep, he'⟩ := PyProof.Rows.sortedAll_at s.heap its out.toArray
    have hlen' : (ts'.map V.ref).length ≤ sizeLine := by
      rw [List.length_map, h4.len, List.length_mergeSort, ← hlen]
      rw [List.length_map] at hz
      exact hz
    exact ⟨.ref _, upd H (s.heap.objs.size + 1) (.lst (ts'.map V.ref)), I.laid (t' := s.toks) (fun _ _ => PyProof.Rows.sortedAll_old) (Nat.le_succ _) ⟨hlen', out, ep, h3, he'⟩, rfl, q _ _ (I.hok.fresh (Nat.le_succ _)) h4⟩
/-- the order of the tuples in plain words -/
theorem leP_iff (p q : Int × Str) : leP p q = true ↔ (p.1 < q.1 ∨ (p.1 = q.1 ∧ p.2.cps.toList ≤ q.2.cps.toList)) := by
  show (!dataLt (encP q) (encP p)) = true ↔ _
  unfold encP
  rw [dataLt_pair (by simp [alike]) (by simp [alike]), Bool.not_eq_true']
  have e1 : PyData.eqv (.int q.1) (.int p.1) = (q.1 == p.1) := by simp [PyData.eqv]
  have e2 : PyData.eqv (.str q.2) (.str p.2) = (q.2 == p.2) := by simp [PyData.eqv]
  rw [e1, e2, dataLt_int, dataLt_str]
  by_cases h : q.1 = p.1
  · rw [if_pos (by simp [h])]
    by_cases g : q.2 = p.2
    · rw [if_pos (by simp [g])]
      exact ⟨fun _ => .inr ⟨h.symm, by rw [g]; exact List.le_refl _⟩, fun _ => rfl⟩
    · rw [if_neg (by simp [g])]
      refine ⟨fun z => .inr ⟨h.symm, List.not_lt.1 (of_decide_eq_false z)⟩, fun z => decide_eq_false (List.not_lt.2 ?_)⟩
      rcases z with z | z
      · omega
      · exact z.2
  · rw [if_neg (by simp [h])]
    refine ⟨fun z => .inl (by have := of_decide_eq_false z; omega), fun z => decide_eq_false ?_⟩
    rcases z with z | z
    · omega
    · exact absurd z.1.symm h
end So

set_option Elab.async false
set_option linter.all false
set_option maxRecDepth 100000
set_option maxHeartbeats 4000000
/-! SetS: set(xs) of texts, any number below the scan's bound; sorted of it -/
namespace Ss
open PySem PySem.Spec PyProof.Rows L2
def keyS (e : Int × Value) : Str := match e.2 with | .str k _ => k | _ => Str.empty
def OkE (w : World) (e : Int × Value) : Prop := ∃ k tk, e.2 = Value.str k tk ∧ e.1 = hashStr w k
/-- the set of texts at a, as its table stands -/
structure SetTab (w : World) (S : List Str) (es : Array (Int × Value)) (t : SetTable) : Prop where
  good : ∀ e ∈ es.toList, OkE w e
  nodup : (es.toList.map keyS).Nodup
  mem : ∀ k, k ∈ S ↔ k ∈ es.toList.map keyS
  small : es.size ≤ S.length
  bound : es.size < scanBound
  fits : t.fits es.size = true
  ris : Ris t.place.toList
  led : w.params.followText "set-order" = true ∨ t.led = true
def SetRS (w : World) (h : Heap) (a : Addr) (S : List Str) : Prop := ∃ o es ep t, h.get? a = some o ∧ o.ExactSet ∧ o.data = .set es ep t ∧ SetTab w S es t
section
variable {P : Program} {w : World} {A : Around} {E : Value → Shared → Prop} {s : Shared} {a : Addr} {S : List Str}
theorem ok_elems {l : List (Int × Value)} (g : ∀ e ∈ l, OkE w e) : ElemsOf (PySem.strKind P w) l := fun e he => by
  obtain ⟨k, tk, h1, h2⟩ := g e he
  exact ⟨⟨k, by rw [h1]; exact strKind_is P w k tk, h2⟩, by rw [h1] <;> rfl⟩
theorem ok_is {e : Int × Value} (g : OkE w e) (k : Str) : (PySem.strKind P w).is k e.2 = true ↔ keyS e = k := by
  obtain ⟨k0, tk, h1, _⟩ := g
  unfold keyS
  rw [h1]
  show (Value.isStrOf k (.str k0 tk)) = true ↔ k0 = k
  simp [Value.isStrOf]
theorem ok_mem {l : List (Int × Value)} (g : ∀ e ∈ l, OkE w e) (k : Str) : k ∈ l.map keyS ↔ ∃ e ∈ l, (PySem.strKind P w).is k e.2 = true := by
  rw [List.mem_map]
  constructor
  · rintro ⟨e, he, q⟩
    exact ⟨e, he, (ok_is (g e he) k).2 q⟩
  · rintro ⟨e, he, q⟩
    exact ⟨e, he, (ok_is (g e he) k).1 q⟩
/-- behind the laying of one more -/
theorem add_end {g : Bool → Sem Unit} (hg : ∀ (b : Bool) (s₁ : Shared) (Q' : Unit → Shared → Prop), Q' () s₁ → wpAny (model P w) A (g b) Q' E s₁)
    {o : Obj} {es : Array (Int × Value)} {ep : Nat} {t : SetTable} (ho : s.heap.get? a = some o) (hex : o.ExactSet) (hd : o.data = .set es ep t)
    {es1 : Array (Int × Value)} {t2 : SetTable} (T : SetTab w S es1 t2) {wasDummy : Bool} {R : Option Bool → Shared → Prop}
    (hR : ∀ h', Heap.SameBut a s.heap h' → SetRS w h' a S → R (some true) { s with heap := h' }) :
    wpAny (model P w) A (do
        storeSet a es1 t2
        if (!wasDummy && t2.tooFull) = true then do
            g (relayAll t2 es1 (SetTable.grown es1.size)).2.2
            storeSet a (relayAll t2 es1 (SetTable.grown es1.size)).1 (relayAll t2 es1 (SetTable.grown es1.size)).2.1
            pure (some true)
          else pure (some true)) R E s := by
  refine wpAny_bind (wpAny_storeSet_of ho hd ?_ (fits_of_scanBound T.bound))
  have ho1 := L2.store_at (es' := es1) (t' := t2) ho hd
  have sb1 := Heap.SameBut.update s.heap a (Obj.putSet es1 t2)
  split
  · have pm := relayAll_perm t2 es1 (SetTable.grown es1.size)
    have f3 := relayAll_fits t2 es1 (SetTable.grown es1.size)
    have r3 := relayAll_ris t2 es1 (SetTable.grown es1.size)
    have l3 := relayAll_led t2 es1 (SetTable.grown es1.size)
    generalize relayAll t2 es1 (SetTable.grown es1.size) = Z at pm f3 r3 l3 ⊢
    obtain ⟨es2, t3, gave⟩ := Z
    dsimp only at pm f3 r3 l3 ⊢
    have hsz : es2.size = es1.size := by rw [← Array.length_toList, pm.length_eq, Array.length_toList]
    refine wpAny_bind (hg _ _ _ ?_)
    refine wpAny_bind (wpAny_storeSet_of ho1 rfl ?_ (fits_of_scanBound (by rw [hsz]; exact T.bound)))
    have ho2 := L2.store_at (es' := es2) (t' := t3) ho1 rfl
    refine wpAny_pure (hR _ (sb1.trans (Heap.SameBut.update _ a _)) ⟨_, es2, _, t3, ho2, hex, rfl, ?_⟩)
    exact ⟨fun e he => T.good e (pm.mem_iff.mp he), (pm.map keyS).nodup_iff.mpr T.nodup, fun k => (T.mem k).trans (pm.map keyS).mem_iff.symm, by rw [hsz]; exact T.small, by rw [hsz]; exact T.bound, f3, r3, T.led.imp id fun z => by rw [l3]; exact z⟩
  · exact wpAny_pure (hR _ sb1 ⟨_, es1, _, t2, ho1, hex, rfl, T⟩)
theorem add_str {k : Str} {tk : Tok} {Q : Bool → Shared → Prop} (R : SetRS w s.heap a S) (room : S.length + 1 < scanBound)
    (hQ : ∀ h' b, Heap.SameBut a s.heap h' → SetRS w h' a (S ++ [k]) → Q b { s with heap := h' }) :
    wpAny (model P w) A (setAddHashed a (.str k tk) ((PySem.strKind P w).hash k)) Q E s := by
  obtain ⟨o, es, ep, t, ho, hex, hd, T⟩ := R
  have hkey : (PySem.strKind P w).is k (.str k tk) = true := strKind_is P w k tk
  have hsc : (Value.str k tk).scannable = true := rfl
  have hel : ElemsOf (PySem.strKind P w) es.toList := ok_elems T.good
  have hb := T.bound
  have hf := T.fits
  unfold setAddHashed setAddHashedIn
  refine wpAny_holding (wpAny_bind (wpAny_setState_of ho hd hf ?_))
  dsimp only
  rw [byScan_of hsc hb hel]
  simp only [↓reduceIte]
  unfold setAddByScan
  refine wpAny_bind ?_
  refine wpAny_bind (wpAny_rule ?_)
  refine wpAny_bind (wpAny_setScan_of hkey ho hd hf hel ?_)
  cases hfi : List.findIdx? (fun e => (PySem.strKind P w).is k e.2) es.toList with
  | some j =>
    dsimp only
    obtain ⟨hj, pj, _⟩ := List.findIdx?_eq_some_iff_getElem.mp hfi
    have hk : k ∈ es.toList.map keyS := (ok_mem (P := P) T.good k).2 ⟨es.toList[j], List.getElem_mem hj, pj⟩
    refine wpAny_pure (wpAny_pure ?_)
    refine hQ s.heap _ (Heap.SameBut.refl a s.heap) ⟨o, es, ep, t, ho, hex, hd, T.good, T.nodup, fun i => ?_, by rw [List.length_append]; exact Nat.le_trans T.small (Nat.le_add_right _ _), hb, hf, T.ris, T.led⟩
    rw [List.mem_append, List.mem_singleton, T.mem i]
    exact ⟨fun z => z.elim id (fun e => e ▸ hk), .inl⟩
  | none =>
    dsimp only
    have hnk : k ∉ es.toList.map keyS := fun z => by
      obtain ⟨e, he, q⟩ := (ok_mem (P := P) T.good k).1 z
      have c := List.findIdx?_eq_none_iff.mp hfi e he
      rw [q] at c
      cases c
    have hgw : ∀ (b : Bool) {s₁ : Shared} {Q' : Unit → Shared → Prop}, Q' () s₁ → wpAny (model P w) A (match b with | true => rule "set.scan.the-table-gave-way" | false => pure ()) Q' E s₁ :=
      fun b s₁ Q' q => by cases b <;> first | exact wpAny_pure q | exact wpAny_rule q
    have pm := layNew_perm t es ((PySem.strKind P w).hash k) (.str k tk)
    have f1 := layNew_fits t es ((PySem.strKind P w).hash k) (.str k tk)
    have r1 := layNew_ris t es ((PySem.strKind P w).hash k) (.str k tk) T.ris
    have l1 := layNew_led t es ((PySem.strKind P w).hash k) (.str k tk)
    generalize layNew t es ((PySem.strKind P w).hash k) (.str k tk) = Z at pm f1 r1 l1 ⊢
    obtain ⟨es1, t1, wasDummy, gave⟩ := Z
    dsimp only at pm f1 r1 l1 ⊢
    rw [Array.toList_push] at pm
    have pc : es1.toList.Perm (((PySem.strKind P w).hash k, Value.str k tk) :: es.toList) := pm.trans (List.perm_append_singleton _ _)
    have pk : (es1.toList.map keyS).Perm (k :: es.toList.map keyS) := pc.map keyS
    have hsz : es1.size = es.size + 1 := by rw [← Array.length_toList, pc.length_eq, List.length_cons, Array.length_toList]
    have T1 : ∀ t' : SetTable, t'.fits es1.size = true → Ris t'.place.toList → (w.params.followText "set-order" = true ∨ t'.led = true) → SetTab w (S ++ [k]) es1 t' := fun t' a1 a2 a3 => ⟨fun e he => by
        rcases List.mem_cons.mp (pc.mem_iff.mp he) with z | z
        · rw [z]; exact ⟨k, tk, rfl, rfl⟩
        · exact T.good e z, pk.nodup_iff.mpr (List.nodup_cons.mpr ⟨hnk, T.nodup⟩), fun i => by
        rw [pk.mem_iff, List.mem_cons, List.mem_append, List.mem_singleton, T.mem i]
        exact Or.comm, by rw [hsz, List.length_append]; exact Nat.succ_le_succ T.small, by rw [hsz]; have := T.small; omega, a1, a2, a3⟩
    have hled : w.params.followText "set-order" = true ∨ t1.led = true := T.led.imp id fun z => by rw [l1]; exact z
    refine wpAny_bind (hgw _ ?_)
    split
    · refine wpAny_bind ?_
      rw [hashByValue_scannable 8 hsc]
      refine wpAny_pure ?_
      refine add_end ?_ ho hex hd (T1 _ ?_ ?_ ?_) ?_
      · intro b s₁ Q' q; cases b <;> first | exact wpAny_pure q | exact wpAny_rule q
      · first | (split <;> first | exact f1 | exact SetTable.fits_plain_off f1) | exact f1
      · first | (split <;> exact r1) | exact r1
      · first | (split <;> exact hled) | exact hled
      · intro h' sb r; dsimp only; exact wpAny_pure (hQ h' _ sb r)
    · refine wpAny_bind (wpAny_pure ?_)
      simp only [↓reduceIte]
      refine add_end ?_ ho hex hd (T1 _ f1 r1 hled) ?_
      · intro b s₁ Q' q; cases b <;> first | exact wpAny_pure q | exact wpAny_rule q
      · intro h' sb r; dsimp only; exact wpAny_pure (hQ h' _ sb r)
end
section
variable {prog : Program} {w : World} {A : Around} {R : Result → Shared → Prop} {I : Addr} {fp wr : List Addr} {G : Array GenState → Array GenState → Prop} {n : Nat} {P : Nat → Value → Prop} {St : Nat → Shared → Prop}
/-- set.update's loop over n texts -/
theorem loop_strs (W : WalksS prog w A.in1 I fp wr G n P St) (S : Addr) (hSf : S ∉ fp) (xs : List Str) (hsz : xs.length = n) (hn : n + 1 < scanBound)
    (hval : ∀ i v, P i v → ∃ t, v = .str (xs.getD i Str.empty) t) :
    ∀ (k i : Nat) (s : Shared), n - i = k → i ≤ n → St i s →
      SetRS w s.heap S (xs.take i) →
      (∀ s', Moved (S :: wr) G s s' → SetRS w s'.heap S xs → R (.ok (.ret .none)) s') →
      codeAny (model prog w) A (.builtin "set.update.loop" ⟨[.ref S, .ref I], []⟩) R s := by
  have hSw : S ∉ wr := fun h => hSf (W.sub _ h)
  have hsub : ∀ b ∈ wr, b ∈ S :: wr := fun b hb => List.mem_cons_of_mem _ hb
  intro k
  induction k with
  | zero =>
    intro i s hk hi hst hS hR
    have hin : i = n := by omega
    subst hin
    refine codeAny_builtin PyProof.Rows.F.entry_set_update_loop ?_
    rw [Around.under_plainId PyProof.Rows.F.plain_set_update_loop _]
    show wpAny _ A.in1 (pyNext (.ref I) >>= _) _ _ s
    refine wpAny_bind (W.done s _ _ hst fun s' hm => ?_)
    show wpAny _ A.in1 (ret Value.none) _ _ s'
    rw [show xs.take i = xs from by rw [← hsz]; exact List.take_length] at hS
    exact wpAny_pure (hR s' (hm.mono hsub) (by
      obtain ⟨o, es, ep, t, ho, rest⟩ := hS
      exact ⟨o, es, ep, t, hm.heap S _ hSw ho, rest⟩))
  | succ k ih =>
    intro i s hk hi hst hS hR
    have hlt : i < n := by omega
    refine codeAny_builtin PyProof.Rows.F.entry_set_update_loop ?_
    rw [Around.under_plainId PyProof.Rows.F.plain_set_update_loop _]
    show wpAny _ A.in1 (pyNext (.ref I) >>= _) _ _ s
    refine wpAny_bind (W.item i s _ _ hlt hst fun v s' hP hst' hm => ?_)
    obtain ⟨t, rfl⟩ := hval i v hP
    have hS' : SetRS w s'.heap S (xs.take i) := by
      obtain ⟨o, es, ep, tb, ho, rest⟩ := hS
      exact ⟨o, es, ep, tb, hm.heap S _ hSw ho, rest⟩
    show wpAny _ A.in1 (holding [Value.str (xs.getD i Str.empty) t] (setAdd S (.str (xs.getD i Str.empty) t)) >>= _) _ _ s'
    refine wpAny_bind (wpAny_holding ?_)
    unfold setAdd
    refine wpAny_holding ?_
    refine wpAny_bind ((PySem.strKind prog w).pyHash (k := xs.getD i Str.empty) (strKind_is _ _ _ _) ?_)
    refine add_str (s := { s' with toks := s'.toks + 1 }) hS' (by rw [List.length_take]; omega) fun h' b hsb hS2 => ?_
    have hSi : SetRS w h' S (xs.take (i + 1)) := by
      have e : xs.take (i + 1) = xs.take i ++ [xs.getD i Str.empty] := by
        rw [List.take_add_one, List.getD_eq_getElem?_getD, List.getElem?_eq_getElem (by omega)]
        rfl
      rw [e]; exact hS2
    refine wpAny_pure ⟨plainId_quiet PyProof.Rows.F.plain_set_update_loop _, ih (i + 1) _ (by omega) hlt (W.frame _ s' _ _ hst' (Nat.le_succ _) fun b hb o e => ?_) hSi fun s'' hm'' hS'' => ?_⟩
    · rw [hsb.2 b (fun h : b = S => hSf (by rw [← h]; exact hb))]; exact e
    · refine hR s'' (Moved.trans W.gtrans ((hm.mono hsub).then_heap (Nat.le_succ _) fun b o hb e => ?_) hm'') hS''
      rw [hsb.2 b (fun h : b = S => hb (by rw [h]; exact List.mem_cons_self))]; exact e
end
section
variable {prog : Program} {w : World} {A : Around} {E : Value → Shared → Prop} {s : Shared}
abbrev newSet (w : World) : Obj := { cls := .type "set", dict := none, data := .set #[] 0 (.fresh 0 0 (!w.params.followText "set-order")) }
theorem new_set1 (a : Value) {Q₁ : Value → Shared → Prop} (h : Q₁ (.ref s.heap.objs.size) { s with heap := s.heap.push (newSet w) }) :
    codeAny (model prog w) A (.call (.builtin "set.__new__") ⟨[.type "set", a], []⟩) (wants Q₁ E) s := by
  refine codeAny_of_tree ?_
  show wpAny _ A.in1 (do checkBuiltinCall "set.__new__" ⟨[.type "set", a], []⟩; again (.builtin "set.__new__" ⟨[.type "set", a], []⟩)) _ _ s
  refine wpAny_bind (wpAny_of_eq (PySem.F.newCall_set_1 a) (wpAny_pure ⟨plainId_quiet PySem.F.plain_set_new _, codeAny_builtin PySem.F.entry_set_new ?_⟩))
  rw [Around.under_plainId PySem.F.plain_set_new _]
  unfold Builtin.«set.__new__» Builtin.Frozenset.newClass
  have hsub := sub_set_self
  obtain ⟨hp, g, d, tk, os⟩ := s
  dsimp only
  wp_walk
  refine wpAny_askSetting (wpAny_pure ?_)
  dsimp only
  simp only [newObj]
  refine wpAny_bind (wpAny_alloc (wpAny_pure ?_))
  exact wpAny_pure h
theorem fresh_strs {h : Heap} (w : World) : SetRS w (h.push (newSet w)) h.objs.size [] :=
  ⟨_, #[], 0, _, Heap.get?_push_size _ rfl, ⟨rfl, rfl, rfl⟩, rfl, ⟨(fun e he => by simp at he), (by simp), (fun k => by simp), (by simp), (by decide), (by rfl), List.Pairwise.nil, by
    show _ ∨ (!w.params.followText "set-order") = true
    cases w.params.followText "set-order"
    · exact .inr rfl
    · exact .inl rfl⟩⟩
theorem set_list {l : Addr} {items : Array Value} {xs : List Str} {Q : Value → Shared → Prop}
    (hh : A.handled = none) (hl : s.heap.IsList l items) (hi : PyProof.Rows.StrsAre items.toList xs) (hn : xs.length + 1 < scanBound)
    (h : ∀ (h' : Heap) (tk : Nat), SetRS w h' s.heap.objs.size xs → (∀ b o, b < s.heap.objs.size → s.heap.get? b = some o → h'.get? b = some o) → Q (.ref s.heap.objs.size) { s with heap := h', toks := tk }) :
    wpAny (model prog w) A (call (.type "set") [.ref l]) Q E s := by
  obtain ⟨c, tl, hmro⟩ := PySem.F.called_set.mro
  have hmade := PySem.F.called_set.made
  have hsub := PySem.F.called_set.sub
  refine wpAny_call (codeAny_of_tree ?_)
  show wpAny _ _ (callAny (.type "set") _) _ _ _
  refine wpAny_pure ⟨Code.quiet_builtin _ (by decide +kernel), codeAny_builtin PySem.F.entry_type_call ?_⟩
  rw [Around.under_plain (weight_type_call_type "set" [.ref l] []) rfl]
  have h1 := PySem.F.called_set.notType
  have h2 := PySem.F.called_set.canCreate
  have hct := PySem.F.typeCall_set_1 (.ref l)
  repeat (any_goals (first | assumption | wp_step))
  refine codeAny_mono (new_set1 (.ref l) (E := E) (Q₁ := fun obj s₁ => obj = .ref s.heap.objs.size ∧ s₁ = { s with heap := s.heap.push (newSet w) }) ⟨rfl, rfl⟩) fun r s₁ hr => ?_
  cases r with
  | error e => exact hr
  | ok fl =>
    cases fl with
    | ret obj =>
      obtain ⟨rfl, rfl⟩ := hr
      have hS : (s.heap.push (newSet w)).get? s.heap.objs.size = some (newSet w) := Heap.get?_push_size _ rfl
      have hT : Shared.TypeIs { s with heap := s.heap.push (newSet w) } (.ref s.heap.objs.size) "set" := ⟨_, hS, rfl⟩
      have hli := PySem.F.called_set.init.lookup
      have hbi := PySem.F.called_set.init.bind (.ref s.heap.objs.size)
      repeat (any_goals (first | assumption | wp_step))
      refine codeAny_mono (codeAny_call_builtin (R := wants (fun r s₂ => r = .none ∧ ∃ h' tk, s₂ = { s with heap := h', toks := tk } ∧
          SetRS w h' s.heap.objs.size xs ∧ (∀ b o, b < s.heap.objs.size → s.heap.get? b = some o → h'.get? b = some o)) E) PySem.F.called_set.init.plain PySem.F.entry_set_init (check_set_init_1 hT ?_)) fun r₂ s₂ hr₂ => ?_
      · obtain ⟨ol, hol, hcl, nl, hdl⟩ := hl
        obtain ⟨ocls, odict, odata, oslots⟩ := ol
        simp only at hcl hdl
        subst hcl; subst hdl
        have hol' : (s.heap.push (newSet w)).get? l = some { cls := .type "list", dict := odict, data := .seq items nl, slots := oslots } := Heap.get?_push_of_some _ hol
        have hsls := PySem.F.sub_list_set
        have hslf := PySem.F.sub_list_frozenset
        have hne : (Value.type "list" == Value.type "dict") = false := by decide
        have hl1 : (s.heap.push (newSet w)).IsList l items := ⟨_, hol', rfl, nl, rfl⟩
        unfold Builtin.«set.__init__» noKeywords Builtin.Frozenset.updateFrom
        generalize hPI : pyIter = PI
        wp_walk
        subst hPI
        refine wpAny_pyIter_list hl1 ?_
        refine wpAny_bind (wpAny_runValue ?_)
        have hlS : l < s.heap.objs.size := Heap.lt_size hol
        have hh3 : A.in1.in1.in1.handled = none := by simp [hh]
        have hneI : l ≠ (s.heap.push (newSet w)).objs.size := by
          rw [Heap.size_push]; exact Nat.ne_of_lt (Nat.lt_succ_of_lt hlS)
        have hSf : s.heap.objs.size ∉ [(s.heap.push (newSet w)).objs.size, l] := by
          rw [Heap.size_push]; simp only [List.mem_cons, List.mem_singleton, List.not_mem_nil, or_false, not_or]
          exact ⟨Nat.ne_of_lt (Nat.lt_succ_self _), Nat.ne_of_gt hlS⟩
        have hsz : xs.length = items.size := by rw [← StrsAre.len_eq hi, Array.length_toList]
        have hval : ∀ (i : Nat) (v : Value), items[i]? = some v → ∃ t, v = .str (xs.getD i Str.empty) t := fun i v hv => SS.strs_at hi i v (by rw [Array.getElem?_toList]; exact hv)
        refine loop_strs ((Walks.list hh3 _ l hneI items).toS) s.heap.objs.size hSf xs hsz (by rw [← hsz]; exact hn) hval (items.size - 0) 0 _ (by omega) (Nat.zero_le _)
          ⟨⟨_, Heap.get?_push_size _ rfl, rfl, rfl⟩, (hl1.push _)⟩ ?hS0 ?hR
        case hS0 =>
          obtain ⟨o, es, ep, t, ho, r⟩ := fresh_strs (h := s.heap) w
          exact ⟨o, es, ep, t, Heap.get?_push_of_some _ ho, r⟩
        case hR =>
          intro s' hm hS'
          obtain ⟨h', g', d', tk', os'⟩ := s'
          have eg : g' = s.gens := hm.gens
          have ed : d' = s.drawn := hm.drawn
          have eo : os' = s.os := hm.os
          subst eg; subst ed; subst eo
          show wpAny _ _ _ _ _ _
          refine wpAny_pure ?_
          show wpAny _ _ (ret Value.none) _ _ _
          refine wpAny_pure ⟨rfl, h', tk', rfl, hS', fun b o hb e => ?_⟩
          have hb1 : b ≠ s.heap.objs.size := Nat.ne_of_lt hb
          have hb2 : b ≠ (s.heap.push (newSet w)).objs.size := by
            rw [Heap.size_push]; exact Nat.ne_of_lt (Nat.lt_succ_of_lt hb)
          exact hm.heap b o (by simp only [List.mem_cons, List.mem_singleton, List.not_mem_nil, or_false, not_or]; exact ⟨hb1, hb2⟩) (Heap.get?_push_of_some _ (Heap.get?_push_of_some _ e))
      · cases r₂ with
        | error e => exact hr₂
        | ok fl₂ =>
          cases fl₂ with
          | ret r =>
            obtain ⟨rfl, h', tk, rfl, hS', hk'⟩ := hr₂
            repeat (any_goals (first | assumption | wp_step))
            exact h _ _ hS' hk'
          | _ => exact hr₂.elim
    | _ => exact hr.elim
theorem set_tuple {l : Addr} {items : Array Value} {xs : List Str} {Q : Value → Shared → Prop}
    (hh : A.handled = none) (hl : s.heap.IsTuple l items) (hi : PyProof.Rows.StrsAre items.toList xs) (hn : xs.length + 1 < scanBound)
    (h : ∀ (h' : Heap) (tk : Nat), SetRS w h' s.heap.objs.size xs → (∀ b o, b < s.heap.objs.size → s.heap.get? b = some o → h'.get? b = some o) → Q (.ref s.heap.objs.size) { s with heap := h', toks := tk }) :
    wpAny (model prog w) A (call (.type "set") [.ref l]) Q E s := by
  obtain ⟨c, tl, hmro⟩ := PySem.F.called_set.mro
  have hmade := PySem.F.called_set.made
  have hsub := PySem.F.called_set.sub
  refine wpAny_call (codeAny_of_tree ?_)
  show wpAny _ _ (callAny (.type "set") _) _ _ _
  refine wpAny_pure ⟨Code.quiet_builtin _ (by decide +kernel), codeAny_builtin PySem.F.entry_type_call ?_⟩
  rw [Around.under_plain (weight_type_call_type "set" [.ref l] []) rfl]
  have h1 := PySem.F.called_set.notType
  have h2 := PySem.F.called_set.canCreate
  have hct := PySem.F.typeCall_set_1 (.ref l)
  repeat (any_goals (first | assumption | wp_step))
  refine codeAny_mono (new_set1 (.ref l) (E := E) (Q₁ := fun obj s₁ => obj = .ref s.heap.objs.size ∧ s₁ = { s with heap := s.heap.push (newSet w) }) ⟨rfl, rfl⟩) fun r s₁ hr => ?_
  cases r with
  | error e => exact hr
  | ok fl =>
    cases fl with
    | ret obj =>
      obtain ⟨rfl, rfl⟩ := hr
      have hS : (s.heap.push (newSet w)).get? s.heap.objs.size = some (newSet w) := Heap.get?_push_size _ rfl
      have hT : Shared.TypeIs { s with heap := s.heap.push (newSet w) } (.ref s.heap.objs.size) "set" := ⟨_, hS, rfl⟩
      have hli := PySem.F.called_set.init.lookup
      have hbi := PySem.F.called_set.init.bind (.ref s.heap.objs.size)
      repeat (any_goals (first | assumption | wp_step))
      refine codeAny_mono (codeAny_call_builtin (R := wants (fun r s₂ => r = .none ∧ ∃ h' tk, s₂ = { s with heap := h', toks := tk } ∧
          SetRS w h' s.heap.objs.size xs ∧ (∀ b o, b < s.heap.objs.size → s.heap.get? b = some o → h'.get? b = some o)) E) PySem.F.called_set.init.plain PySem.F.entry_set_init (check_set_init_1 hT ?_)) fun r₂ s₂ hr₂ => ?_
      · obtain ⟨ol, hol, hcl, nl, hdl⟩ := hl
        obtain ⟨ocls, odict, odata, oslots⟩ := ol
        simp only at hcl hdl
        subst hcl; subst hdl
        have hol' : (s.heap.push (newSet w)).get? l = some { cls := .type "tuple", dict := odict, data := .seq items nl, slots := oslots } := Heap.get?_push_of_some _ hol
        have hsls := PySem.F.sub_tuple_set
        have hslf := PySem.F.sub_tuple_frozenset
        have hne : (Value.type "tuple" == Value.type "dict") = false := by decide
        have hl1 : (s.heap.push (newSet w)).IsTuple l items := ⟨_, hol', rfl, nl, rfl⟩
        unfold Builtin.«set.__init__» noKeywords Builtin.Frozenset.updateFrom
        generalize hPI : pyIter = PI
        wp_walk
        subst hPI
        refine wpAny_pyIter_tuple hl1 ?_
        refine wpAny_bind (wpAny_runValue ?_)
        have hlS : l < s.heap.objs.size := Heap.lt_size hol
        have hh3 : A.in1.in1.in1.handled = none := by simp [hh]
        have hneI : l ≠ (s.heap.push (newSet w)).objs.size := by
          rw [Heap.size_push]; exact Nat.ne_of_lt (Nat.lt_succ_of_lt hlS)
        have hSf : s.heap.objs.size ∉ [(s.heap.push (newSet w)).objs.size, l] := by
          rw [Heap.size_push]; simp only [List.mem_cons, List.mem_singleton, List.not_mem_nil, or_false, not_or]
          exact ⟨Nat.ne_of_lt (Nat.lt_succ_self _), Nat.ne_of_gt hlS⟩
        have hsz : xs.length = items.size := by rw [← StrsAre.len_eq hi, Array.length_toList]
        have hval : ∀ (i : Nat) (v : Value), items[i]? = some v → ∃ t, v = .str (xs.getD i Str.empty) t := fun i v hv => SS.strs_at hi i v (by rw [Array.getElem?_toList]; exact hv)
        refine loop_strs ((Walks.tuple hh3 _ l hneI items).toS) s.heap.objs.size hSf xs hsz (by rw [← hsz]; exact hn) hval (items.size - 0) 0 _ (by omega) (Nat.zero_le _)
          ⟨⟨_, Heap.get?_push_size _ rfl, rfl, rfl⟩, (hl1.push _)⟩ ?hS0 ?hR
        case hS0 =>
          obtain ⟨o, es, ep, t, ho, r⟩ := fresh_strs (h := s.heap) w
          exact ⟨o, es, ep, t, Heap.get?_push_of_some _ ho, r⟩
        case hR =>
          intro s' hm hS'
          obtain ⟨h', g', d', tk', os'⟩ := s'
          have eg : g' = s.gens := hm.gens
          have ed : d' = s.drawn := hm.drawn
          have eo : os' = s.os := hm.os
          subst eg; subst ed; subst eo
          show wpAny _ _ _ _ _ _
          refine wpAny_pure ?_
          show wpAny _ _ (ret Value.none) _ _ _
          refine wpAny_pure ⟨rfl, h', tk', rfl, hS', fun b o hb e => ?_⟩
          have hb1 : b ≠ s.heap.objs.size := Nat.ne_of_lt hb
          have hb2 : b ≠ (s.heap.push (newSet w)).objs.size := by
            rw [Heap.size_push]; exact Nat.ne_of_lt (Nat.lt_succ_of_lt hb)
          exact hm.heap b o (by simp only [List.mem_cons, List.mem_singleton, List.not_mem_nil, or_false, not_or]; exact ⟨hb1, hb2⟩) (Heap.get?_push_of_some _ (Heap.get?_push_of_some _ e))
      · cases r₂ with
        | error e => exact hr₂
        | ok fl₂ =>
          cases fl₂ with
          | ret r =>
            obtain ⟨rfl, h', tk, rfl, hS', hk'⟩ := hr₂
            repeat (any_goals (first | assumption | wp_step))
            exact h _ _ hS' hk'
          | _ => exact hr₂.elim
    | _ => exact hr.elim
end
end Ss

set_option Elab.async false
set_option linter.all false
set_option maxRecDepth 100000
set_option maxHeartbeats 4000000
/-! SetT: sorted of a set of texts; sorted(set(e)) as one rule -/
namespace Ss
open PySem PySem.Spec PySem.W PyProof.Rows L2
/-- what sorted(set(xs)) is -/
structure Ascending (xs ns : List Str) : Prop where
  sorted : ns.Pairwise fun a b => So.leStr a b = true
  nodup : ns.Nodup
  mem : ∀ k, k ∈ ns ↔ k ∈ xs
  len : ns.length ≤ xs.length
section
variable {P : Program} {w : World} {A : Around} {E : Value → Shared → Prop} {s : Shared} {a : Addr} {S : List Str}
theorem strs_of : ∀ (l : List Value), (∀ v ∈ l, ∃ k tk, v = Value.str k tk) → ∃ ks : List Str, EachIs (fun v b => ∃ t, v = Value.str b t) l ks
  | [], _ => ⟨[], .nil⟩
  | v :: l, h => by
    obtain ⟨k, tk, e⟩ := h v List.mem_cons_self
    obtain ⟨ks, hk⟩ := strs_of l fun u hu => h u (List.mem_cons_of_mem _ hu)
    exact ⟨k :: ks, .cons ⟨tk, e⟩ hk⟩
theorem each_keys : ∀ {l : List Value} {ks : List Str}, EachIs (fun v b => ∃ t, v = Value.str b t) l ks → l.map (fun v => keyS (0, v)) = ks
  | _, _, .nil => rfl
  | _, _, .cons ⟨t, e⟩ h => by
    subst e
    rw [List.map_cons, each_keys h]
    rfl
theorem leStr_iff (p q : Str) : So.leStr p q = true ↔ p.cps.toList ≤ q.cps.toList := by
  show (!dataLt (.str q) (.str p)) = true ↔ _
  rw [Bool.not_eq_true', dataLt_str, decide_eq_false_iff_not, List.not_lt]
theorem sorted_strs {Q : Value → Shared → Prop} (R : SetRS w s.heap a S) (hh : A.handled = none) (hu : A.units + 4 < cLine)
    (hQ : ∀ s' p (out : Array Value) (c : Nat) (ns : List Str), (∀ b o, s.heap.get? b = some o → s'.heap.get? b = some o) → s'.gens = s.gens → s'.os = s.os → s.heap.objs.size ≤ p →
      s'.heap.get? p = some (seqObj "list" out c) → EachIs (fun v b => ∃ t, v = Value.str b t) out.toList ns → Ascending S ns → Q (.ref p) s') :
    wpAny (model P w) A (call (.builtin "sorted") [.ref a]) Q E s := by
  obtain ⟨o, es, ep, t, ho, hex, hd, T⟩ := R
  refine Calls.call_function_entry kind_sorted plain_sorted entry_sorted (args_sorted1 _) ?_
  unfold Builtin.«sorted»
  refine wpAny_bind (m := checkCount "sorted" 1 1 _) (wpAny_pure ?_)
  refine wpAny_bind (collect_set (A := A.in1) hh ⟨o, ho, hex.1, hd⟩ T.fits T.bound T.ris T.led fun s1 vs k1 hz g1 o1 pm => ?_)
  have hvl : vs.length = es.size := by rw [pm.length_eq, List.length_map, Array.length_toList]
  obtain ⟨ks, ek⟩ := strs_of vs fun v hv => by
    obtain ⟨e, he, q⟩ := List.mem_map.mp (pm.mem_iff.mp hv)
    obtain ⟨k, tk, h1, _⟩ := T.good e he
    exact ⟨k, tk, by rw [← q]; exact h1⟩
  have hkl : vs.length = ks.length := ek.length
  have pk : ks.Perm (es.toList.map keyS) := by
    have q := pm.map fun v => keyS (0, v)
    rw [each_keys ek, List.map_map] at q
    exact q
  have hline : vs.length ≤ sizeLine := by rw [hvl]; exact fits_of_scanBound T.bound
  refine wpAny_bind (wpAny_newList ?_ hline)
  have hoL : (s1.heap.push (seqObj "list" vs.toArray 0)).get? s1.heap.objs.size = some (seqObj "list" vs.toArray 0) := Heap.get?_push_size _ rfl
  refine wpAny_bind (wpAny_holding (list_sort_data (R := fun v b => ∃ t, v = Value.str b t) (enc := PyData.str) hoL ek (ek.mono fun v b ⟨t, e⟩ => ⟨[], by subst e; exact .str _ _, fun z => nomatch z⟩) (AllAlike.of fun b b' => by simp [alike]) (Sortable.others fun b => ⟨(fun z => by cases z), (fun xs z => by cases z)⟩) (by rw [← hkl]; exact hline) (fun b _ => ?_) fun out h1 h2 => ?_))
  · show A.in1.units + 1 + 0 < cLine
    show A.units + 1 + 1 + 0 < cLine
    omega
  obtain ⟨c, hc⟩ := sortedHeap_at (vs := vs) (out := out.toArray) hoL
  have pn : (ks.mergeSort (dataLe false PyData.str)).Perm (es.toList.map keyS) := (List.mergeSort_perm _ _).trans pk
  refine wpAny_pure ⟨_, rfl, hQ { s1 with heap := sortedHeap (s1.heap.push (seqObj "list" vs.toArray 0)) s1.heap.objs.size vs out.toArray } s1.heap.objs.size out.toArray c _ (fun b u e => ?_) g1 o1 hz hc h2 ⟨?_, pn.nodup_iff.mpr T.nodup, fun k => by rw [pn.mem_iff, ← T.mem k], ?_⟩⟩
  · have q := k1 b u e
    have hlt := Heap.lt_size q
    show (sortedHeap (s1.heap.push (seqObj "list" vs.toArray 0)) s1.heap.objs.size vs out.toArray).get? b = some u
    rw [sortedHeap_old (Nat.ne_of_lt hlt) (by rw [size_push']; exact Nat.lt_succ_of_lt hlt)]
    exact Heap.get?_push_of_some _ q
  · refine List.pairwise_mergeSort (fun x y z hxy hyz => ?_) (fun x y => ?_) ks
    · exact (leStr_iff x z).2 (List.le_trans ((leStr_iff x y).1 hxy) ((leStr_iff y z).1 hyz))
    · rcases List.le_total x.cps.toList y.cps.toList with h | h
      · exact (Bool.or_eq_true _ _).mpr (.inl ((leStr_iff x y).2 h))
      · exact (Bool.or_eq_true _ _).mpr (.inr ((leStr_iff y x).2 h))
  · rw [pn.length_eq, List.length_map, Array.length_toList]
    exact T.small
end
end Ss

set_option Elab.async false
set_option linter.all false
set_option maxRecDepth 100000
set_option maxHeartbeats 4000000
/-! Dv1: names, constants, operators, tests by value -/
namespace Dv
open PySem PySem.Spec PyProof.Rows L2
/-! ### to weaken a reading -/
section
variable {X : Cx}
theorem peImp {e : Expr} {t t' : TE} (h : PE X e t) (k : ∀ σ H Q, t' σ H Q → t σ H Q) : PE X e t' := ⟨fun pins s σ H Q I q => h.run pins s σ H Q I (k _ _ _ q)⟩
theorem ptImp {e : Expr} {t t' : TT} (h : PT X e t) (k : ∀ σ H Q, t' σ H Q → t σ H Q) : PT X e t' := ⟨fun pins s σ H Q I q => h.run pins s σ H Q I (k _ _ _ q)⟩
theorem pwImp {e : Expr} {t t' : TT} (h : PW X e t) (k : ∀ σ H Q, t' σ H Q → t σ H Q) : PW X e t' := ⟨fun wh pins s σ H Q I q => h.run wh pins s σ H Q I (k _ _ _ q)⟩
theorem paImp {e : List Expr} {t t' : TA} (h : PA X e t) (k : ∀ σ H Q, t' σ H Q → t σ H Q) : PA X e t' := ⟨fun po pins s σ H Q I q => h.run po pins s σ H Q I (k _ _ _ q)⟩
theorem psImp {e : Stmt} {t t' : TS} (h : PS X e t) (k : ∀ D σ H, t' D σ H → t D σ H) : PS X e t' := ⟨fun pins s σ H D I q => h.run pins s σ H D I (k _ _ _ q)⟩
theorem pssImp {e : List Stmt} {t t' : TS} (h : PSs X e t) (k : ∀ D σ H, t' D σ H → t D σ H) : PSs X e t' := ⟨fun pins s σ H D I q => h.run pins s σ H D I (k _ _ _ q)⟩
end
section
variable {K : PySem.W.Frag} {bg : Option (Addr × Addr)} {O : Addr → Prop} {H H' : Hp} {c : Ctx} {n n' : Nat} {ad : Nat → Addr} {σ : L2.St} {env : En}
theorem Sh.step {v : V} {d : D} (h : Sh K c.bg O H v d) (a : EStp c H H' n') (hO : ∀ x, c.isBag x → O x) : Sh K c.bg O H' v d := by
  cases h with
  | rep h => exact .rep (h.same (a.cut hO))
  | own hb h r => exact .own hb (a.keep _ _ h (fun ⟨l, e⟩ => (hb _ l e).1 rfl)) (r.same (a.cut hO))
theorem ShL.step (a : EStp c H H' n') (hO : ∀ x, c.isBag x → O x) : ∀ {v : List V} {d : List D}, ShL K c.bg O H v d → ShL K c.bg O H' v d
  | _, _, .nil => .nil
  | _, _, .cons h t => .cons (h.step a hO) (ShL.step a hO t)
theorem ShL.of : ∀ {v : List V} {d : List D}, RepL K bg (cut O H) v d → ShL K bg O H v d
  | _, _, .nil => .nil
  | _, _, .cons h t => .cons (.rep h) (ShL.of t)
theorem Sh.int' {v : V} {i : Int} (h : Sh K bg O H v (.int i)) : v = .int i := by
  generalize e : D.int i = d at h
  cases h with
  | rep h => subst e; cases h; rfl
  | @own a u o hb h r => cases o <;> cases e
theorem Sh.bl' {v : V} {i : Bool} (h : Sh K bg O H v (.bl i)) : v = .bl i := by
  generalize e : D.bl i = d at h
  cases h with
  | rep h => subst e; cases h; rfl
  | @own a u o hb h r => cases o <;> cases e
theorem Sh.non' {v : V} (h : Sh K bg O H v .non) : v = .non := by
  generalize e : D.non = d at h
  cases h with
  | rep h => subst e; cases h; rfl
  | @own a u o hb h r => cases o <;> cases e
theorem Sh.ty' {v : V} {i : String} (h : Sh K bg O H v (.ty i)) : v = .ty i := by
  generalize e : D.ty i = d at h
  cases h with
  | rep h => subst e; cases h; rfl
  | @own a u o hb h r => cases o <;> cases e
theorem Sh.ref' {v : V} {i : Addr} (h : Sh K bg O H v (.ref i)) : v = .ref i := by
  generalize e : D.ref i = d at h
  cases h with
  | rep h => subst e; cases h; rfl
  | @own a u o hb h r => cases o <;> cases e
theorem Sh.str' {v : V} {i : Str} (h : Sh K bg O H v (.str i)) : v = .str i ∧ GoodS i := by
  generalize e : D.str i = d at h
  cases h with
  | rep h =>
    subst e
    cases h with
    | str h => exact ⟨rfl, h⟩
  | @own a u o hb h r => cases o <;> cases e
theorem Sh.bag' {v : V} (h : Sh K bg O H v .bag) : ∃ b l, v = .ref b ∧ bg = some (b, l) := by
  generalize e : D.bag = d at h
  cases h with
  | rep h =>
    subst e
    cases h with
    | bag h => exact ⟨_, _, rfl, h⟩
  | @own a u o hb h r => cases o <;> cases e
theorem Sh.lst' {v : V} {ds : List D} (h : Sh K bg O H v (.lst ds)) : ∃ a vs, v = .ref a ∧ H a = some (.lst vs) ∧ vs.length ≤ sizeLine ∧ RepL K bg (cut O H) vs ds := by
  generalize e : D.lst ds = d at h
  cases h with
  | rep h =>
    subst e
    cases h with
    | lst h hl r => exact ⟨_, _, rfl, cut_le _ _ h, hl, r⟩
  | @own a u o hb h r =>
    cases o with
    | lst xs =>
      cases e
      cases r with
      | lst hl r => exact ⟨_, _, rfl, h, hl, r⟩
    | dk k => cases e
    | dt k => cases e
    | ins x C fs => cases e
theorem Sh.tup' {v : V} {ds : List D} (h : Sh K bg O H v (.tup ds)) : ∃ a vs, v = .ref a ∧ SqT K H a vs ∧ vs.length ≤ sizeLine ∧ RepL K bg (cut O H) vs ds := by
  generalize e : D.tup ds = d at h
  cases h with
  | rep h =>
    subst e
    cases h with
    | tup h hl r => exact ⟨_, _, rfl, sqt_same cut_le h, hl, r⟩
  | @own a u o hb h r => cases o <;> cases e
theorem Sh.tupRep {v : V} {ds : List D} (h : Sh K bg O H v (.tup ds)) : Rep K bg (cut O H) v (.tup ds) := by
  generalize e : D.tup ds = d at h
  cases h with
  | rep h => subst e; exact h
  | @own a u o hb h r => cases o <;> cases e
theorem Sh.flat {v : V} {d : D} (h : Sh K bg O H v d) (hf : d.flat = true) : Rep K bg (cut O H) v d := by
  cases h with
  | rep h => exact h
  | @own a u o hb h r => cases o <;> cases hf
/-- a new list, a new tuple -/
theorem rep_new {p : Addr} {vs : List V} {ds : List D} (hO : ∀ a, O a → H a ≠ none) (hp : H p = none) (hl : vs.length ≤ sizeLine) (r : RepL K bg (cut O H) vs ds) :
    Same H (upd H p (.lst vs)) ∧ Rep K bg (cut O (upd H p (.lst vs))) (.ref p) (.lst ds) := by
  have hn : ¬ O p := fun z => hO p z hp
  have sm : Same H (upd H p (.lst vs)) := fun a o e => by
    by_cases z : a = p
    · subst z; rw [hp] at e; cases e
    · rw [upd_ne z]; exact e
  refine ⟨sm, .lst (by rw [cut_out hn]; exact upd_same) hl (r.same (cut_mono fun a o h1 h2 => ⟨h1, sm _ _ h2⟩))⟩
theorem rep_newT {p : Addr} {vs : List V} {ds : List D} (hO : ∀ a, O a → H a ≠ none) (hp : H p = none) (hl : vs.length ≤ sizeLine) (r : RepL K bg (cut O H) vs ds) :
    Same H (upd H p (.tup vs)) ∧ Rep K bg (cut O (upd H p (.tup vs))) (.ref p) (.tup ds) := by
  have hn : ¬ O p := fun z => hO p z hp
  have sm : Same H (upd H p (.tup vs)) := fun a o e => by
    by_cases z : a = p
    · subst z; rw [hp] at e; cases e
    · rw [upd_ne z]; exact e
  refine ⟨sm, .tup (.inl (.inl (by rw [cut_out hn]; exact upd_same))) hl (r.same (cut_mono fun a o h1 h2 => ⟨h1, sm _ _ h2⟩))⟩
theorem Rel.oaB (R : Rel K c ad n σ H env) : ∀ x, c.isBag x → Oa c ad env x := fun x z => .inl (oa_bag R.bag z)
theorem Rel.oaD (R : Rel K c ad n σ H env) : ∀ a, Oa c ad env a → H a ≠ none := fun a h => R.oaDom h
end

/-! ### names and constants -/
def SD.get : SD → Option D
  | .un => none
  | .val d => some d
  | .own o => some o.d
def wVar (i : Nat) : WE := fun env n Q => ∃ d, env[i]? = some (.val d) ∧ Q d n
def wVarB (i : Nat) : WE := fun env n Q => ∃ s d, env[i]? = some s ∧ s.get = some d ∧ Q d n
def wC (d : D) : WE := fun _ n Q => Q d n
section
variable {X : Cx}
theorem DE.of {e : Expr} {t : TE} {w : WE} (h : PE X e t) (k : ∀ σ H Q, lE X.K w σ H Q → t σ H Q) : DE X e w := ⟨peImp h k⟩
theorem DE.b {e : Expr} {w : WE} (h : DE X e w) : DB X e w := ⟨peImp h.pe fun σ H Q ⟨c, ad, n, env, Q0, R, q0, q⟩ => ⟨c, ad, n, env, Q0, R, q0, fun d n' hd v H' e r => q d n' hd v H' e (.rep r)⟩⟩
theorem dv (i : Nat) {x : Str} {pos : Pos} (hN : X.N[i]? = some x := by rfl) (hv : Vis X.env.scope x := by first | exact Or.inl rfl | exact Or.inr (Or.inl rfl) | exact Or.inr (Or.inr rfl)) (hd : (x == ("__debug__" : Str)) = false := by decide)
    (hcd : (x == ("__classdict__" : Str)) = false := by decide) : DE X (.Name x pos) (wVar i) := .of (pe_var hN hv hd hcd) fun σ H Q ⟨c, ad, n, env, Q0, R, ⟨d, e, q0⟩, q⟩ => by
  obtain ⟨v, h1, h2⟩ := R.slot i _ e
  exact ⟨v, h1, q d n q0 v H (.refl R.bag) h2⟩
theorem dvb (i : Nat) {x : Str} {pos : Pos} (hN : X.N[i]? = some x := by rfl) (hv : Vis X.env.scope x := by first | exact Or.inl rfl | exact Or.inr (Or.inl rfl) | exact Or.inr (Or.inr rfl)) (hd : (x == ("__debug__" : Str)) = false := by decide)
    (hcd : (x == ("__classdict__" : Str)) = false := by decide) : DB X (.Name x pos) (wVarB i) := ⟨peImp (pe_var hN hv hd hcd) fun σ H Q ⟨c, ad, n, env, Q0, R, ⟨s, d, e, g, q0⟩, q⟩ => by
  have sl := R.slot i _ e
  cases s with
  | un => cases g
  | val d' =>
    cases g
    obtain ⟨v, h1, h2⟩ := sl
    exact ⟨v, h1, q d n q0 v H (.refl R.bag) (.rep h2)⟩
  | own o =>
    cases g
    obtain ⟨h1, u, h2, h3⟩ := sl
    exact ⟨_, h1, q o.d n q0 _ H (.refl R.bag) (.own (fun p l z => ⟨fun w => R.nbag ⟨o, e⟩ ⟨l, by rw [w]; exact z⟩, fun w => R.notO i ⟨o, e⟩ (by rw [w]; exact (R.bag _ _ z).2.2)⟩) h2 h3)⟩⟩
theorem de_c {e : Expr} {v : V} {d : D} (h : PE X e (tC v)) (r : ∀ bg H, Rep X.K bg H v d) : DE X e (wC d) := .of h fun σ H Q ⟨c, ad, n, env, Q0, R, q0, q⟩ => q d n q0 v H (.refl R.bag) (r _ _)
theorem de_int {i : Int} {j pos} : DE X (.Constant (.int i) j pos) (wC (.int i)) := de_c pe_int fun _ _ => .int i
theorem de_bl {b j pos} : DE X (.Constant (.bool b) j pos) (wC (.bl b)) := de_c pe_bl fun _ _ => .bl b
theorem de_non {j pos} : DE X (.Constant .none j pos) (wC .non) := de_c pe_non fun _ _ => .non
theorem de_str {x : Str} {j pos} (h : GoodS x := by exact ⟨by decide +kernel, by decide +kernel⟩) : DE X (.Constant (.str x) j pos) (wC (.str x)) := de_c pe_str fun _ _ => .str h
/-- a module's constant -/
theorem de_glob {x : Str} {v : V} {d : D} {u : Value} {pos : Pos} (hg : Gl X x) (hm : X.mg x = some u) (r : RelV v u) (hr : ∀ bg H, Rep X.K bg H v d) (hd : (x == ("__debug__" : Str)) = false := by decide) : DE X (.Name x pos) (wC d) := de_c (pe_glob hg hm r hd) hr
theorem de_gstr {x s : Str} {pos : Pos} (hm : ∃ t, X.mg x = some (.str s t)) (hg : Gl X x := by rfl) (h : GoodS s := by exact ⟨by decide +kernel, by decide +kernel⟩) (hd : (x == ("__debug__" : Str)) = false := by decide) : DE X (.Name x pos) (wC (.str s)) := by
  obtain ⟨t, e⟩ := hm
  exact de_c (pe_glob (v := .str s) hg e ⟨t, rfl⟩ hd) fun _ _ => .str h
theorem de_gint {x : Str} {i : Int} {pos : Pos} (hm : ∃ t, X.mg x = some (.int i t)) (hg : Gl X x := by rfl) (hd : (x == ("__debug__" : Str)) = false := by decide) : DE X (.Name x pos) (wC (.int i)) := by
  obtain ⟨t, e⟩ := hm
  exact de_c (pe_glob (v := .int i) hg e ⟨t, rfl⟩ hd) fun _ _ => .int i
/-- a built-in type's name as a value -/
theorem de_ty {x : Str} {T : String} {pos : Pos} (hm : X.mg x = none) (hg : Gl X x := by rfl) (hv : bootBuiltins x = some (.type T) := by decide +kernel) (hn : x ≠ "__name__" := by decide) (hd : (x == ("__debug__" : Str)) = false := by decide) : DE X (.Name x pos) (wC (.ty T)) :=
  de_c (pe_bltn (v := .ty T) hg hm hv rfl hn hd) fun _ _ => .ty T
end

/-! ### operators -/
abbrev RR := D → D → (D → Prop) → Prop
def LinkD (K : PySem.W.Frag) (r : R2) (Rd : RR) : Prop := ∀ (bg : Option (Addr × Addr)) (O : Addr → Prop) (H : Hp) (v1 v2 : V) (d1 d2 : D) (Q0 : D → Prop) (Q : VK), (∀ a, O a → H a ≠ none) → Sh K bg O H v1 d1 → Sh K bg O H v2 d2 → Rd d1 d2 Q0 →
  (∀ d, Q0 d → ∀ v H', Same H H' → Rep K bg (cut O H') v d → Q v H') → r v1 v2 H Q
structure OpD (X : Cx) (f : Value → Value → Sem Value) (Rd : RR) : Prop where
  ex : ∃ r, OpR X f r ∧ LinkD X.K r Rd
def wOp (Rd : RR) (wa wb : WE) : WE := fun env n Q => wa env n fun d1 n1 => wb env n1 fun d2 n2 => Rd d1 d2 fun d => Q d n2
section
variable {X : Cx} {a b e : Expr} {wa wb wc : WE} {pos : Pos} {Rd Rd' : RR}
/-- two operands, then what is done of their values -/
theorem two {σ : L2.St} {H : Hp} {c : Ctx} {ad : Nat → Addr} {n : Nat} {env : En} {K : PySem.W.Frag} {P0 : D → D → Nat → Prop} {R : V → V → Hp → Prop} (RL : Rel K c ad n σ H env) (q0 : wa env n fun d1 n1 => wb env n1 fun d2 n2 => P0 d1 d2 n2)
    (h : ∀ v1 v2 d1 d2 n2 H2, EStp c H H2 n2 → Sh K c.bg (Oa c ad env) H2 v1 d1 → Sh K c.bg (Oa c ad env) H2 v2 d2 → P0 d1 d2 n2 → R v1 v2 H2) : lB K wa σ H fun x H1 => lB K wb σ H1 fun y H2 => R x y H2 := by
  refine ⟨c, ad, n, env, _, RL, q0, fun d1 n1 q1 v1 H1 e1 s1 => ⟨c, ad, n1, env, _, RL.step e1, q1, fun d2 n2 q2 v2 H2 e2 s2 => ?_⟩⟩
  exact h v1 v2 d1 d2 n2 H2 (e1.trans e2) (s1.step e2 RL.oaB) s2 q2
theorem de_op {op : Operator} (ho : OpD X (binaryOp op) Rd) (ha : DB X a wa) (hb : DB X b wb) : DE X (.BinOp a op b pos) (wOp Rd wa wb) := by
  obtain ⟨r, hr, hl⟩ := ho.ex
  refine .of (pe_op hr ha.pe hb.pe) fun σ H Q ⟨c, ad, n, env, Q0, R, q0, q⟩ => ?_
  exact two (P0 := fun d1 d2 n2 => Rd d1 d2 fun d => Q0 d n2) R q0 fun v1 v2 d1 d2 n2 H2 e s1 s2 q2 => hl c.bg _ H2 v1 v2 d1 d2 _ _ (R.step e).oaD s1 s2 q2 fun d hd v H3 sm rp => q d n2 hd v H3 (e.trans (.of_same e.bag sm)) rp
theorem de_cmp {op : CmpOp} (ho : OpD X (compareOp op) Rd) (ha : DB X a wa) (hb : DB X b wb) (hm : behindInMarks op b = false := by first | exact nomark _ | rfl | with_unfolding_all rfl) : DE X (.Compare a [op] [b] pos) (wOp Rd wa wb) := by
  obtain ⟨r, hr, hl⟩ := ho.ex
  refine .of (pe_cmpR hr ha.pe hb.pe hm) fun σ H Q ⟨c, ad, n, env, Q0, R, q0, q⟩ => ?_
  exact two (P0 := fun d1 d2 n2 => Rd d1 d2 fun d => Q0 d n2) R q0 fun v1 v2 d1 d2 n2 H2 e s1 s2 q2 => hl c.bg _ H2 v1 v2 d1 d2 _ _ (R.step e).oaD s1 s2 q2 fun d hd v H3 sm rp => q d n2 hd v H3 (e.trans (.of_same e.bag sm)) rp
/-- a value that is a bool, as a test -/
def wTest (w : WE) : WT := fun env n Q => w env n fun d n1 => ∃ k, d = .bl k ∧ Q k n1
theorem dt_cmp {op : CmpOp} (ho : OpD X (compareOp op) Rd) (ha : DB X a wa) (hb : DB X b wb) (hm : behindInMarks op b = false := by first | exact nomark _ | rfl | with_unfolding_all rfl) : DT X (.Compare a [op] [b] pos) (wTest (wOp Rd wa wb)) := by
  obtain ⟨r, hr, hl⟩ := ho.ex
  refine ⟨ptImp (pt_cmpR hr ha.pe hb.pe hm) fun σ H Q ⟨c, ad, n, env, Q0, R, q0, q⟩ => ?_⟩
  refine two (P0 := fun d1 d2 n2 => Rd d1 d2 fun d => ∃ k, d = .bl k ∧ Q0 k n2) R q0 fun v1 v2 d1 d2 n2 H2 e s1 s2 q2 => hl c.bg _ H2 v1 v2 d1 d2 _ _ (R.step e).oaD s1 s2 q2 fun d hd v H3 sm rp => ?_
  obtain ⟨k, rfl, hk⟩ := hd
  cases rp
  exact ⟨k, rfl, q k n2 hk H3 (e.trans (.of_same e.bag sm))⟩
/-- a op1 b op2 c -/
def wChain (Rd Rd' : RR) (wa wb wc : WE) : WE := fun env n Q => wa env n fun d1 n1 => wb env n1 fun d2 n2 => Rd d1 d2 fun d => ∃ k, d = .bl k ∧ if k = true then wc env n2 fun d3 n3 => Rd' d2 d3 fun d => Q d n3 else Q (.bl false) n2
theorem lchain {op op' : CmpOp} {r r' : R2} (hl : LinkD X.K r Rd) (hl' : LinkD X.K r' Rd') {σ : L2.St} {H : Hp} {c : Ctx} {ad : Nat → Addr} {n : Nat} {env : En} {Q0 : D → Nat → Prop} {Q : VK} (R : Rel X.K c ad n σ H env) (q0 : wChain Rd Rd' wa wb wc env n Q0)
    (q : ∀ d n', Q0 d n' → ∀ v H', EStp c H H' n' → Rep X.K c.bg (cut (Oa c ad env) H') v d → Q v H') : tChain r r' (lB X.K wa) (lB X.K wb) (lB X.K wc) σ H Q := by
  refine two (P0 := fun d1 d2 n2 => Rd d1 d2 fun d => ∃ k, d = .bl k ∧ if k = true then wc env n2 fun d3 n3 => Rd' d2 d3 fun d => Q0 d n3 else Q0 (.bl false) n2) R q0 fun v1 v2 d1 d2 n2 H2 e s1 s2 q2 => ?_
  refine hl c.bg _ H2 v1 v2 d1 d2 _ _ (R.step e).oaD s1 s2 q2 fun d hd v H3 sm rp => ?_
  have e3 := e.trans (.of_same e.bag sm)
  obtain ⟨k, rfl, hk⟩ := hd
  cases rp
  refine ⟨k, rfl, ?_⟩
  cases k with
  | false =>
    rw [if_neg Bool.false_ne_true] at hk ⊢
    exact q _ _ hk _ H3 e3 (.bl _)
  | true =>
    rw [if_pos rfl] at hk ⊢
    refine ⟨c, ad, n2, env, _, R.step e3, hk, fun d3 n3 q3 v3 H4 e4 s4 => ?_⟩
    refine hl' c.bg _ H4 v2 v3 d2 d3 _ _ ((R.step e3).step e4).oaD ((s2.step (.of_same e.bag sm) R.oaB).step e4 R.oaB) s4 q3 fun d hd v H5 sm5 rp5 => q d n3 hd v H5 ((e3.trans e4).trans (.of_same e4.bag sm5)) rp5
theorem de_chain {op op' : CmpOp} (ho : OpD X (compareOp op) Rd) (ho' : OpD X (compareOp op') Rd') (ha : DB X a wa) (hb : DB X b wb) (hc : DB X e wc) (hm : lastMarks [op, op'] [b, e] = false := by with_unfolding_all rfl) : DE X (.Compare a [op, op'] [b, e] pos) (wChain Rd Rd' wa wb wc) := by
  obtain ⟨r, hr, hl⟩ := ho.ex
  obtain ⟨r', hr', hl'⟩ := ho'.ex
  exact .of (pe_chain hr hr' ha.pe hb.pe hc.pe hm) fun σ H Q ⟨c, ad, n, env, Q0, R, q0, q⟩ => lchain (op := op) (op' := op') hl hl' R q0 q
theorem dt_chain {op op' : CmpOp} (ho : OpD X (compareOp op) Rd) (ho' : OpD X (compareOp op') Rd') (ha : DB X a wa) (hb : DB X b wb) (hc : DB X e wc) (hm : lastMarks [op, op'] [b, e] = false := by with_unfolding_all rfl) : DT X (.Compare a [op, op'] [b, e] pos) (wTest (wChain Rd Rd' wa wb wc)) := by
  obtain ⟨r, hr, hl⟩ := ho.ex
  obtain ⟨r', hr', hl'⟩ := ho'.ex
  refine ⟨ptImp (pt_chain hr hr' ha.pe hb.pe hc.pe hm) fun σ H Q ⟨c, ad, n, env, Q0, R, q0, q⟩ => ?_⟩
  refine lchain (op := op) (op' := op') (Q0 := fun d n1 => ∃ k, d = .bl k ∧ Q0 k n1) hl hl' R q0 fun d n' hd v H' e rp => ?_
  obtain ⟨k, rfl, hk⟩ := hd
  cases rp
  exact ⟨k, rfl, q k n' hk H' e⟩
/-- the answers of operators: each by the kinds of the two -/
def rAddD : RR := fun x y Q => match x, y with
  | .int i, .int j => Q (.int (i + j))
  | .int i, .bl k => Q (.int (i + b2i k))
  | .str s, .str t => s.length + t.length ≤ sizeLine ∧ Q (.str (s ++ t))
  | .lst xs, .lst ys => xs.length + ys.length ≤ sizeLine ∧ Q (.lst (xs ++ ys))
  | .tup xs, .tup ys => xs.length + ys.length ≤ sizeLine ∧ Q (.tup (xs ++ ys))
  | _, _ => False
theorem RepL.nil_iff {K : PySem.W.Frag} {bg : Option (Addr × Addr)} {H : Hp} {vs : List V} {ds : List D} (h : RepL K bg H vs ds) : vs = [] ↔ ds = [] := by
  cases h <;> simp
theorem str_len_add (s t : Str) : (s ++ t).length = s.length + t.length := by
  show (s.cps ++ t.cps).size = _
  exact Array.size_append
theorem good_iff {s : Str} : PyData.strOk s = true ↔ ∀ c ∈ s.cps.toList, c < 0x110000 := by
  unfold PyData.strOk
  rw [← Array.all_toList, List.all_eq_true]
  exact ⟨fun h c hc => by simpa using h c hc, fun h c hc => by simpa using h c hc⟩
theorem GoodS.add {s t : Str} (h : GoodS s) (k : GoodS t) (z : s.length + t.length ≤ sizeLine) : GoodS (s ++ t) := by
  refine ⟨by rw [str_len_add]; exact z, good_iff.2 fun c hc => ?_⟩
  have e : (s ++ t).cps.toList = s.cps.toList ++ t.cps.toList := by
    show (s.cps ++ t.cps).toList = _
    simp
  rw [e, List.mem_append] at hc
  exact hc.elim (good_iff.1 h.ok c) (good_iff.1 k.ok c)
theorem od_add : OpD X (binaryOp .Add) rAddD := by
  refine ⟨⟨_, OpR.or op_add (OpR.or op_add_ib (OpR.or op_add_str (OpR.or op_cat op_catA))), ?_⟩⟩
  intro bg O H v1 v2 d1 d2 Q0 Q hO s1 s2 h q
  unfold rAddD at h
  split at h
  · cases s1.int'; cases s2.int'
    exact .inl ⟨_, _, rfl, rfl, q _ h _ _ (.refl _) (.int _)⟩
  · cases s1.int'; cases s2.bl'
    exact .inr (.inl ⟨_, _, rfl, rfl, q _ h _ _ (.refl _) (.int _)⟩)
  · have g1 := s1.str'.2
    have g2 := s2.str'.2
    cases s1.str'.1; cases s2.str'.1
    exact .inr (.inr (.inl ⟨_, _, rfl, rfl, h.1, q _ h.2 _ _ (.refl _) (.str (g1.add g2 h.1))⟩))
  · obtain ⟨a, vs, rfl, ha, _, ra⟩ := s1.lst'
    obtain ⟨b, ws, rfl, hb, _, rb⟩ := s2.lst'
    refine .inr (.inr (.inr (.inl ⟨a, b, vs, ws, rfl, rfl, ha, hb, by rw [ra.len, rb.len]; exact h.1, fun p hp => ?_⟩)))
    obtain ⟨sm, rp⟩ := rep_new hO hp (by rw [List.length_append, ra.len, rb.len]; exact h.1) (ra.app rb)
    exact q _ h.2 _ _ sm rp
  · obtain ⟨a, vs, rfl, ha, hva, ra⟩ := s1.tup'
    obtain ⟨b, ws, rfl, hb, hvb, rb⟩ := s2.tup'
    refine .inr (.inr (.inr (.inr ⟨a, b, vs, ws, rfl, rfl, ha, hb, by rw [ra.len, rb.len]; exact h.1, fun z => ?_, fun _ z => ?_, fun _ _ p hp => ?_⟩)))
    · cases ra.nil_iff.1 z
      exact q _ h.2 _ _ (.refl _) s2.tupRep
    · cases rb.nil_iff.1 z
      rename_i xs ys _
      have := q _ h.2 (.ref a) _ (.refl _)
      rw [List.append_nil] at this
      exact this s1.tupRep
    · obtain ⟨sm, rp⟩ := rep_newT hO hp (by rw [List.length_append, ra.len, rb.len]; exact h.1) (ra.app rb)
      exact q _ h.2 _ _ sm rp
  · exact h.elim
def rI2 (C : Int → Int → Prop) (f : Int → Int → D) : RR := fun x y Q => match x, y with
  | .int i, .int j => C i j ∧ Q (f i j)
  | _, _ => False
theorem od_int {g : Value → Value → Sem Value} {C : Int → Int → Prop} {f : Int → Int → Int} (h : OpR X g (rI C fun i j => .int (f i j))) : OpD X g (rI2 C fun i j => .int (f i j)) := by
  refine ⟨⟨_, h, ?_⟩⟩
  intro bg O H v1 v2 d1 d2 Q0 Q hO s1 s2 h q
  unfold rI2 at h
  split at h
  · cases s1.int'; cases s2.int'
    exact ⟨_, _, rfl, rfl, h.1, q _ h.2 _ _ (.refl _) (.int _)⟩
  · exact h.elim
theorem od_intB {g : Value → Value → Sem Value} {f : Int → Int → Bool} (h : OpR X g (rI0 fun i j => .bl (f i j))) : OpD X g (rI2 (fun _ _ => True) fun i j => .bl (f i j)) := by
  refine ⟨⟨_, h, ?_⟩⟩
  intro bg O H v1 v2 d1 d2 Q0 Q hO s1 s2 h q
  unfold rI2 at h
  split at h
  · cases s1.int'; cases s2.int'
    exact ⟨_, _, rfl, rfl, q _ h.2 _ _ (.refl _) (.bl _)⟩
  · exact h.elim
theorem od_int0 {g : Value → Value → Sem Value} {f : Int → Int → Int} (h : OpR X g (rI0 fun i j => .int (f i j))) : OpD X g (rI2 (fun _ _ => True) fun i j => .int (f i j)) := by
  refine ⟨⟨_, h, ?_⟩⟩
  intro bg O H v1 v2 d1 d2 Q0 Q hO s1 s2 h q
  unfold rI2 at h
  split at h
  · cases s1.int'; cases s2.int'
    exact ⟨_, _, rfl, rfl, q _ h.2 _ _ (.refl _) (.int _)⟩
  · exact h.elim
theorem od_sub : OpD X (binaryOp .Sub) (rI2 (fun _ _ => True) fun i j => .int (i - j)) := od_int0 op_sub
theorem od_modN : OpD X (binaryOp .Mod) (rI2 (fun _ j => j ≠ 0) fun i j => .int (i.fmod j)) := od_int op_modN
theorem od_fdivN : OpD X (binaryOp .FloorDiv) (rI2 CDivN fun i j => .int (i.fdiv j)) := od_int op_fdivN
theorem od_pow : OpD X (binaryOp .Pow) (rI2 CPow fun i j => .int (i ^ j.toNat)) := od_int op_pow
end
end Dv

set_option Elab.async false
set_option linter.all false
set_option maxRecDepth 100000
set_option maxHeartbeats 4000000
/-! Dv2: == of data, order, in, times, places, slices -/
namespace Dv
open PySem PySem.Spec PyProof.Rows L2
/-! ### data, and == -/
mutual
def D.py : D → PyData
  | .non => .none
  | .bl b => .bool b
  | .int i => .int i
  | .str s => .str s
  | .lst xs => .list (D.pys xs)
  | .tup xs => .tuple (D.pys xs)
  | _ => .none
def D.pys : List D → List PyData
  | [] => []
  | x :: xs => D.py x :: D.pys xs
end
mutual
def D.data : D → Bool
  | .non => true
  | .bl _ => true
  | .int _ => true
  | .str _ => true
  | .lst xs => D.datas xs
  | .tup xs => D.datas xs
  | _ => false
def D.datas : List D → Bool
  | [] => true
  | x :: xs => D.data x && D.datas xs
end
mutual
def D.dep : D → Nat
  | .lst xs => D.deps xs + 1
  | .tup xs => D.deps xs + 1
  | _ => 0
def D.deps : List D → Nat
  | [] => 0
  | x :: xs => max (D.dep x) (D.deps xs)
end
def D.eqv (x y : D) : Bool := PyData.eqv x.py y.py
theorem datas_all : ∀ {xs : List D}, D.datas xs = true ↔ ∀ x ∈ xs, x.data = true
  | [] => by simp [D.datas]
  | x :: xs => by simp [D.datas, datas_all (xs := xs)]
theorem deps_le : ∀ {xs : List D} {k : Nat}, D.deps xs ≤ k ↔ ∀ x ∈ xs, x.dep ≤ k
  | [], k => by simp [D.deps]
  | x :: xs, k => by
    rw [D.deps, Nat.max_le, deps_le (xs := xs)]
    simp
theorem pys_map : ∀ {xs : List D}, D.pys xs = xs.map D.py
  | [] => rfl
  | x :: xs => by rw [D.pys, pys_map (xs := xs)]; rfl
section
variable {K : PySem.W.Frag} {bg : Option (Addr × Addr)} {O : Addr → Prop} {H H' : Hp}
mutual
theorem Rep.dp (e : Same H H') : ∀ {v : V} {d : D}, Rep K bg H v d → d.data = true → Dp K H' v d.py ∧ d.py.canLay0 = true
  | _, _, .non, _ => ⟨.non, by simp [D.py, PyData.canLay0]⟩
  | _, _, .bl b, _ => ⟨.bl b, by simp [D.py, PyData.canLay0]⟩
  | _, _, .int i, _ => ⟨.int i, by simp [D.py, PyData.canLay0]⟩
  | _, _, .str h, _ => ⟨.str _, by simp [D.py, PyData.canLay0, h.ok]⟩
  | _, _, .ty n, h => by simp [D.data] at h
  | _, _, .ref a, h => by simp [D.data] at h
  | _, _, .bag _, h => by simp [D.data] at h
  | _, _, .lst h hl r, z => by
    rw [D.data] at z
    obtain ⟨h1, h2⟩ := RepL.dp e r z
    exact ⟨.lst (.inl (.inl (e _ _ h))) h1, by rw [D.py, PyData.canLay0]; exact h2⟩
  | _, _, .tup h hl r, z => by
    rw [D.data] at z
    obtain ⟨h1, h2⟩ := RepL.dp e r z
    exact ⟨.tup (sqt_same e h) h1, by rw [D.py, PyData.canLay0]; exact h2⟩
  | _, _, .ins _ _, h => by simp [D.data] at h
  | _, _, .dk _ _, h => by simp [D.data] at h
  | _, _, .dt _ _, h => by simp [D.data] at h
  | _, _, .exn _ _, h => by simp [D.data] at h
theorem RepL.dp (e : Same H H') : ∀ {v : List V} {d : List D}, RepL K bg H v d → D.datas d = true → DpAll K H' v (D.pys d) ∧ PyData.canLayAll0 (D.pys d) = true
  | _, _, .nil, _ => ⟨.nil, by simp [D.pys, PyData.canLayAll0]⟩
  | _, _, .cons h t, z => by
    rw [D.datas, Bool.and_eq_true] at z
    obtain ⟨h1, h2⟩ := Rep.dp e h z.1
    obtain ⟨h3, h4⟩ := RepL.dp e t z.2
    exact ⟨.cons h1 h3, by rw [D.pys, PyData.canLayAll0, h2, h4]; rfl⟩
end
theorem Sh.dp {v : V} {d : D} (h : Sh K bg O H v d) (z : d.data = true) : Dp K H v d.py ∧ d.py.canLay0 = true := by
  cases h with
  | rep h => exact h.dp cut_le z
  | @own a u o hb h r =>
    cases r with
    | lst hl r =>
      rw [Ob.d, D.data] at z
      obtain ⟨h1, h2⟩ := r.dp (H' := H) cut_le z
      exact ⟨.lst (.inl (.inl h)) h1, by rw [Ob.d, D.py, PyData.canLay0]; exact h2⟩
    | dk r => simp [Ob.d, D.data] at z
    | dt r => simp [Ob.d, D.data] at z
    | ins r => simp [Ob.d, D.data] at z
end
mutual
theorem dep_py : ∀ (d : D), d.py.depth = d.dep
  | .non => by simp [D.py, D.dep, PyData.depth]
  | .bl b => by simp [D.py, D.dep, PyData.depth]
  | .int i => by simp [D.py, D.dep, PyData.depth]
  | .str s => by simp [D.py, D.dep, PyData.depth]
  | .lst xs => by rw [D.py, D.dep, PyData.depth, deps_py xs]
  | .tup xs => by rw [D.py, D.dep, PyData.depth, deps_py xs]
  | .ty n => by simp [D.py, D.dep, PyData.depth]
  | .ref a => by simp [D.py, D.dep, PyData.depth]
  | .bag => by simp [D.py, D.dep, PyData.depth]
  | .ins C fs => by simp [D.py, D.dep, PyData.depth]
  | .dk k => by simp [D.py, D.dep, PyData.depth]
  | .dt k => by simp [D.py, D.dep, PyData.depth]
  | .exn a x fs => by simp [D.py, D.dep, PyData.depth]
theorem deps_py : ∀ (d : List D), PyData.depthAll (D.pys d) = D.deps d
  | [] => by simp [D.pys, D.deps, PyData.depthAll]
  | x :: xs => by rw [D.pys, D.deps, PyData.depthAll, dep_py x, deps_py xs]
end
theorem shaped_py {d : D} (h : d.py.canLay0 = true) (k : d.dep ≤ 64) : SeqAt.shaped d.py = true := by
  unfold SeqAt.shaped
  rw [h, dep_py]
  simp [k]
def rEqD (neg : Bool) : RR := fun x y Q => (x.data = true ∧ y.data = true ∧ x.dep ≤ 64 ∧ y.dep ≤ 64) ∧ Q (.bl (if neg then !x.eqv y else x.eqv y))
section
variable {X : Cx}
theorem od_eq (hu : X.A.units + 64 < cLine) : OpD X (compareOp .Eq) (rEqD false) := by
  refine ⟨⟨_, op_eqD hu, ?_⟩⟩
  rintro bg O H v1 v2 d1 d2 Q0 Q hO s1 s2 ⟨⟨h1, h2, h3, h4⟩, h⟩ q
  obtain ⟨p1, l1⟩ := s1.dp h1
  obtain ⟨p2, l2⟩ := s2.dp h2
  exact ⟨_, _, p1, p2, shaped_py l1 h3, shaped_py l2 h4, q _ h _ _ (.refl _) (.bl _)⟩
theorem od_ne (hu : X.A.units + 64 < cLine) : OpD X (compareOp .NotEq) (rEqD true) := by
  refine ⟨⟨_, op_neD hu, ?_⟩⟩
  rintro bg O H v1 v2 d1 d2 Q0 Q hO s1 s2 ⟨⟨h1, h2, h3, h4⟩, h⟩ q
  obtain ⟨p1, l1⟩ := s1.dp h1
  obtain ⟨p2, l2⟩ := s2.dp h2
  exact ⟨_, _, p1, p2, shaped_py l1 h3, shaped_py l2 h4, q _ h _ _ (.refl _) (.bl _)⟩
/-! ### order of ints and of texts -/
def ltS (s t : Str) : Bool := decide (s.cps.toList < t.cps.toList)
def rOrd (f : Int → Int → Bool) (g : Str → Str → Bool) : RR := fun x y Q => match x, y with
  | .int i, .int j => Q (.bl (f i j))
  | .str s, .str t => Q (.bl (g s t))
  | _, _ => False
theorem od_ord {op : CmpOp} {f : Int → Int → Bool} {g : Str → Str → Bool} (h1 : OpR X (compareOp op) (rI0 fun i j => .bl (f i j))) (h2 : OpR X (compareOp op) (fun x y H Q => ∃ i j, x = .str i ∧ y = .str j ∧ Q (.bl (g i j)) H)) : OpD X (compareOp op) (rOrd f g) := by
  refine ⟨⟨_, OpR.or h1 h2, ?_⟩⟩
  intro bg O H v1 v2 d1 d2 Q0 Q hO s1 s2 h q
  unfold rOrd at h
  split at h
  · cases s1.int'; cases s2.int'
    exact .inl ⟨_, _, rfl, rfl, q _ h _ _ (.refl _) (.bl _)⟩
  · cases s1.str'.1; cases s2.str'.1
    exact .inr ⟨_, _, rfl, rfl, q _ h _ _ (.refl _) (.bl _)⟩
  · exact h.elim
theorem od_lt : OpD X (compareOp .Lt) (rOrd (fun i j => decide (i < j)) (fun s t => ltS s t)) := od_ord op_lt op_lt_str
theorem od_le : OpD X (compareOp .LtE) (rOrd (fun i j => decide (i ≤ j)) (fun s t => !ltS t s)) := od_ord op_le op_le_str
theorem od_gt : OpD X (compareOp .Gt) (rOrd (fun i j => decide (j < i)) (fun s t => ltS t s)) := od_ord op_gt op_gt_str
theorem od_ge : OpD X (compareOp .GtE) (rOrd (fun i j => decide (j ≤ i)) (fun s t => !ltS s t)) := od_ord op_ge op_ge_str
/-! ### is None -/
def D.isNon : D → Bool
  | .non => true
  | _ => false
theorem Sh.isNon {K : PySem.W.Frag} {bg : Option (Addr × Addr)} {O : Addr → Prop} {H : Hp} {v : V} {d : D} (h : Sh K bg O H v d) : decide (v = .non) = d.isNon := by
  cases h with
  | rep h => cases h <;> first | rfl | exact decide_eq_false (fun z => nomatch z)
  | @own a u o hb h r => cases o <;> exact decide_eq_false (fun z => nomatch z)
def rIsN (neg : Bool) : RR := fun x y Q => match y with
  | .non => Q (.bl (if neg then !x.isNon else x.isNon))
  | _ => False
theorem od_isN : OpD X (compareOp .Is) (rIsN false) := by
  refine ⟨⟨_, op_isN, ?_⟩⟩
  intro bg O H v1 v2 d1 d2 Q0 Q hO s1 s2 h q
  unfold rIsN at h
  split at h
  · cases s2.non'
    refine ⟨rfl, ?_⟩
    rw [s1.isNon]
    exact q _ h _ _ (.refl _) (.bl _)
  · exact h.elim
theorem od_notN : OpD X (compareOp .IsNot) (rIsN true) := by
  refine ⟨⟨_, op_notN, ?_⟩⟩
  intro bg O H v1 v2 d1 d2 Q0 Q hO s1 s2 h q
  unfold rIsN at h
  split at h
  · cases s2.non'
    refine ⟨rfl, ?_⟩
    rw [s1.isNon]
    exact q _ h _ _ (.refl _) (.bl _)
  · exact h.elim
/-! ### in -/
def inS (s t : Str) : Bool := !(Builtin.Str.occurrences t s 0 t.length 1).isEmpty
def D.flatD : D → Bool
  | .non | .bl _ | .int _ | .str _ => true
  | _ => false
def rInD (neg : Bool) : RR := fun x y Q => match y with
  | .str t => ∃ s, x = .str s ∧ Q (.bl (if neg then !inS s t else inS s t))
  | .lst ys => (x.data = true ∧ D.datas ys = true ∧ x.dep ≤ 63 ∧ D.deps ys ≤ 63) ∧ Q (.bl (if neg then !ys.any fun z => z.eqv x else ys.any fun z => z.eqv x))
  | .tup ys => (x.flatD = true ∧ ys.all D.flatD = true) ∧ Q (.bl (if neg then !ys.any fun z => z.eqv x else ys.any fun z => z.eqv x))
  | _ => False
theorem flat_v {K : PySem.W.Frag} {bg : Option (Addr × Addr)} {H : Hp} {v : V} {d : D} (h : Rep K bg H v d) (z : d.flatD = true) : flatV v = true := by
  cases h <;> first | rfl | exact absurd z Bool.false_ne_true
theorem flat_eq {K : PySem.W.Frag} {bg : Option (Addr × Addr)} {H : Hp} {v w : V} {d e : D} (h : Rep K bg H v d) (k : Rep K bg H w e) (z : d.flatD = true) (y : e.flatD = true) : eqV v w = d.eqv e := by
  cases h <;> first | exact absurd z Bool.false_ne_true | (cases k <;> first | exact absurd y Bool.false_ne_true | rfl)
theorem flats_v {K : PySem.W.Frag} {bg : Option (Addr × Addr)} {H : Hp} : ∀ {v : List V} {d : List D}, RepL K bg H v d → d.all D.flatD = true → v.all flatV = true
  | _, _, .nil, _ => rfl
  | _, _, .cons h t, z => by
    rw [List.all_cons, Bool.and_eq_true] at z
    rw [List.all_cons, flat_v h z.1, flats_v t z.2]
    rfl
theorem flats_in {K : PySem.W.Frag} {bg : Option (Addr × Addr)} {H : Hp} {w : V} {e : D} (k : Rep K bg H w e) (y : e.flatD = true) : ∀ {v : List V} {d : List D}, RepL K bg H v d → d.all D.flatD = true → inV w v = d.any fun z => z.eqv e
  | _, _, .nil, _ => rfl
  | _, _, .cons h t, z => by
    rw [List.all_cons, Bool.and_eq_true] at z
    have ih := flats_in k y t z.2
    unfold inV at ih ⊢
    rw [List.any_cons, List.any_cons, flat_eq h k z.1 y, ih]
theorem flatD_flat {d : D} (h : d.flatD = true) : d.flat = true := by cases d <;> first | rfl | exact absurd h Bool.false_ne_true
theorem any_py {x : D} : ∀ {ys : List D}, ((D.pys ys).any fun z => PyData.eqv z x.py) = ys.any fun z => z.eqv x
  | [] => rfl
  | y :: ys => by rw [D.pys, List.any_cons, List.any_cons, any_py (ys := ys)]; rfl
theorem Sh.toRep {K : PySem.W.Frag} {bg : Option (Addr × Addr)} {O : Addr → Prop} {H : Hp} {v : V} {d : D} (h : Sh K bg O H v d) (z : d.flatD = true) : Rep K bg (cut O H) v d := h.flat (flatD_flat z)
theorem link_in {K : PySem.W.Frag} (neg : Bool) : LinkD K (fun x y H Q => (∃ i j, x = .str i ∧ y = .str j ∧ Q (.bl (if neg then !inS i j else inS i j)) H) ∨ (∃ d ds, Dp K H x d ∧ Dp K H y (.list ds) ∧ SeqAt.shaped d = true ∧ SeqAt.shaped (.list ds) = true ∧ Q (.bl (if neg then !ds.any fun z => PyData.eqv z d else ds.any fun z => PyData.eqv z d)) H) ∨ rIn K neg x y H Q) (rInD neg) := by
  intro bg O H v1 v2 d1 d2 Q0 Q hO s1 s2 h q
  unfold rInD at h
  split at h
  · obtain ⟨s, rfl, h⟩ := h
    cases s1.str'.1; cases s2.str'.1
    exact .inl ⟨_, _, rfl, rfl, q _ h _ _ (.refl _) (.bl _)⟩
  · rename_i ys
    obtain ⟨⟨h1, h2, h3, h4⟩, h⟩ := h
    obtain ⟨p1, l1⟩ := s1.dp h1
    obtain ⟨p2, l2⟩ := s2.dp (show (D.lst ys).data = true by rw [D.data]; exact h2)
    rw [D.py] at p2
    refine .inr (.inl ⟨_, _, p1, p2, shaped_py l1 (by omega), ?_, ?_⟩)
    · exact shaped_py (d := .lst ys) l2 (by rw [D.dep]; omega)
    · rw [any_py]
      exact q _ h _ _ (.refl _) (.bl _)
  · rename_i ys
    obtain ⟨⟨h1, h2⟩, h⟩ := h
    obtain ⟨a, vs, rfl, ha, hl, r⟩ := s2.tup'
    have k := s1.toRep h1
    refine .inr (.inr ⟨a, vs, rfl, .inr ha, flat_v k h1, flats_v r h2, ?_⟩)
    rw [flats_in k h1 r h2]
    exact q _ h _ _ (.refl _) (.bl _)
  · exact h.elim
theorem od_in (hu : X.A.units + 65 < cLine) : OpD X (compareOp .In) (rInD false) := by
  refine ⟨⟨_, OpR.or op_in_str (OpR.or (op_inD hu) op_in_seq), ?_⟩⟩
  exact link_in (K := X.K) false
theorem od_notIn (hu : X.A.units + 65 < cLine) : OpD X (compareOp .NotIn) (rInD true) := by
  refine ⟨⟨_, OpR.or op_notIn_str (OpR.or (op_notInD hu) op_notIn_seq), ?_⟩⟩
  exact link_in (K := X.K) true
/-! ### times -/
theorem op_mulSt : OpR X (binaryOp .Mult) (fun x y H Q => ∃ (s : Str) (n : Int), x = .str s ∧ y = .int n ∧ s.length ≤ 4096 ∧ -4096 ≤ n ∧ n ≤ 4096 ∧ Q (.str (Txt.mul s n)) H) := by
  intro pins s σ H x y v u Q I rx ry h
  obtain ⟨z, n, rfl, rfl, h1, h2, h3, q⟩ := h
  obtain ⟨t, rfl⟩ := rx
  obtain ⟨t', rfl⟩ := ry
  exact PySem.SB.mul (mulOk_of 4096 4096 h1 (by omega) (by omega) (by decide) (by decide)) fun t' tk => ⟨.str (Txt.mul z n), H, I.tok _, ⟨_, rfl⟩, q⟩
def rMulD : RR := fun x y Q => match x, y with
  | .int i, .int j => CMulW i j ∧ Q (.int (i * j))
  | .str s, .int n => (s.length ≤ 4096 ∧ -4096 ≤ n ∧ n ≤ 4096) ∧ Q (.str (Txt.mul s n))
  | .lst xs, .int n => (0 ≤ n ∧ n < 2 ^ 63 ∧ xs.length * n.toNat ≤ sizeLine) ∧ Q (.lst (List.replicate n.toNat xs).flatten)
  | _, _ => False
theorem RepL.rep {K : PySem.W.Frag} {bg : Option (Addr × Addr)} {H : Hp} {vs : List V} {ds : List D} (h : RepL K bg H vs ds) : ∀ n : Nat, RepL K bg H (List.replicate n vs).flatten (List.replicate n ds).flatten
  | 0 => .nil
  | n + 1 => by
    rw [List.replicate_succ, List.replicate_succ, List.flatten_cons, List.flatten_cons]
    exact h.app (RepL.rep h n)
/-- texts of an int times: its signs -/
theorem mul_good {s : Str} {n : Int} (h : GoodS s) (h1 : s.length ≤ 4096) (h2 : n ≤ 4096) : GoodS (Txt.mul s n) := by
  unfold Txt.mul
  by_cases h0 : n < 1
  · rw [if_pos h0]
    exact ⟨Nat.zero_le _, good_iff.2 fun c hc => by cases hc⟩
  · rw [if_neg h0]
    split
    · exact h
    · have key : ∀ (k : Nat) (a : Array Nat), ((List.replicate k s.cps).foldl (· ++ ·) a).size = a.size + k * s.cps.size ∧ ((∀ c ∈ a.toList, c < 0x110000) → ∀ c ∈ ((List.replicate k s.cps).foldl (· ++ ·) a).toList, c < 0x110000) := by
        intro k
        induction k with
        | zero => intro a; exact ⟨by simp, fun h => h⟩
        | succ k ih =>
          intro a
          obtain ⟨i1, i2⟩ := ih (a ++ s.cps)
          rw [List.replicate_succ, List.foldl_cons]
          refine ⟨by rw [i1, Array.size_append, Nat.succ_mul]; omega, fun ha => i2 fun c hc => ?_⟩
          rw [Array.toList_append, List.mem_append] at hc
          exact hc.elim (ha c) (good_iff.1 h.ok c)
      obtain ⟨k1, k2⟩ := key n.toNat #[]
      have hz : n.toNat ≤ 4096 := by omega
      have hm : n.toNat * s.cps.size ≤ 4096 * 4096 := Nat.mul_le_mul hz h1
      refine ⟨?_, good_iff.2 (k2 (by simp))⟩
      show ((List.replicate n.toNat s.cps).foldl (· ++ ·) #[]).size ≤ _
      rw [k1]
      have : sizeLine = 16777216 := sizeLine_eq
      simp only [List.size_toArray, List.length_nil]
      omega
theorem od_mul : OpD X (binaryOp .Mult) rMulD := by
  refine ⟨⟨_, OpR.or op_mulW (OpR.or op_mulSt op_rep), ?_⟩⟩
  intro bg O H v1 v2 d1 d2 Q0 Q hO s1 s2 h q
  unfold rMulD at h
  split at h
  · cases s1.int'; cases s2.int'
    exact .inl ⟨_, _, rfl, rfl, h.1, q _ h.2 _ _ (.refl _) (.int _)⟩
  · have g := s1.str'.2
    cases s1.str'.1; cases s2.int'
    obtain ⟨⟨h1, h2, h3⟩, h⟩ := h
    exact .inr (.inl ⟨_, _, rfl, rfl, h1, h2, h3, q _ h _ _ (.refl _) (.str (mul_good g h1 h3))⟩)
  · obtain ⟨⟨h1, h2, h3⟩, h⟩ := h
    rename_i xs n
    cases s2.int'
    obtain ⟨a, vs, rfl, ha, hl, r⟩ := s1.lst'
    refine .inr (.inr ⟨a, _, vs, rfl, rfl, ha, by omega, h2, by rw [r.len]; exact h3, fun p hp => ?_⟩)
    obtain ⟨sm, rp⟩ := rep_new hO hp (by rw [(r.rep n.toNat).len, List.length_flatten, List.map_replicate, List.sum_replicate_nat]; rw [Nat.mul_comm]; exact h3) (r.rep n.toNat)
    exact q _ h _ _ sm rp
  · exact h.elim
/-! ### places -/
/-- x[i]: a list's or tuple's item, a text's sign -/
def rIxD : RR := fun x y Q => match x, y with
  | .lst xs, .int i => ∃ d, atI xs i = some d ∧ Q d
  | .tup xs, .int i => ∃ d, atI xs i = some d ∧ Q d
  | .str s, .int i => ∃ c, atI s.cps.toList i = some c ∧ Q (.str ⟨#[c]⟩)
  | _, _ => False
theorem RepL.atI {K : PySem.W.Frag} {bg : Option (Addr × Addr)} {H : Hp} {vs : List V} {ds : List D} {i : Int} {d : D} (h : RepL K bg H vs ds) (e : atI ds i = some d) : ∃ v, L2.atI vs i = some v ∧ Rep K bg H v d := by
  unfold L2.atI at e ⊢
  rw [h.len]
  cases z : ixN ds.length i with
  | none => rw [z] at e; cases e
  | some j =>
    rw [z] at e
    exact h.getD (i := j) e
theorem atI_mem {α : Type} {xs : List α} {i : Int} {d : α} (e : atI xs i = some d) : d ∈ xs := by
  unfold L2.atI at e
  cases z : ixN xs.length i with
  | none => rw [z] at e; cases e
  | some j => rw [z] at e; exact List.mem_of_getElem? e
theorem one_good {c : Nat} {s : Str} (h : GoodS s) (m : c ∈ s.cps.toList) : GoodS ⟨#[c]⟩ := ⟨by show 1 ≤ sizeLine; decide, good_iff.2 fun d hd => by
  have : d = c := by simpa using hd
  rw [this]
  exact good_iff.1 h.ok c m⟩
theorem link_ix {K : PySem.W.Frag} : LinkD K (rIx K) rIxD := by
  intro bg O H v1 v2 d1 d2 Q0 Q hO s1 s2 h q
  unfold rIxD at h
  split at h
  · obtain ⟨d, e, h⟩ := h
    obtain ⟨a, vs, rfl, ha, hl, r⟩ := s1.lst'
    cases s2.int'
    obtain ⟨v, e2, rp⟩ := r.atI e
    exact .inl ⟨a, vs, _, v, rfl, rfl, .inl (.inl ha), e2, q _ h _ _ (.refl _) rp⟩
  · obtain ⟨d, e, h⟩ := h
    obtain ⟨a, vs, rfl, ha, hl, r⟩ := s1.tup'
    cases s2.int'
    obtain ⟨v, e2, rp⟩ := r.atI e
    exact .inr (.inl ⟨a, vs, _, v, rfl, rfl, ha, e2, q _ h _ _ (.refl _) rp⟩)
  · obtain ⟨c, e, h⟩ := h
    have g := s1.str'.2
    cases s1.str'.1; cases s2.int'
    exact .inr (.inr ⟨_, _, c, rfl, rfl, g.len, e, q _ h _ _ (.refl _) (.str (one_good g (atI_mem e)))⟩)
  · exact h.elim
theorem de_ix {a b : Expr} {wa wb : WE} {pos : Pos} (ha : DB X a wa) (hb : DB X b wb) (hs : PlainIx b := by exact fun _ _ => rfl) : DE X (.Subscript a b pos) (wOp rIxD wa wb) := by
  refine .of (pe_ix ix_seq ha.pe hb.pe hs) fun σ H Q ⟨c, ad, n, env, Q0, R, q0, q⟩ => ?_
  exact two (P0 := fun d1 d2 n2 => rIxD d1 d2 fun d => Q0 d n2) R q0 fun v1 v2 d1 d2 n2 H2 e s1 s2 q2 => link_ix c.bg _ H2 v1 v2 d1 d2 _ _ (R.step e).oaD s1 s2 q2 fun d hd v H3 sm rp => q d n2 hd v H3 (e.trans (.of_same e.bag sm)) rp
/-! ### -a -/
def rNegD (x : D) (Q : D → Prop) : Prop := match x with
  | .int i => Q (.int (-i))
  | _ => False
theorem de_neg {a : Expr} {wa : WE} {pos : Pos} (ha : DB X a wa) : DE X (.UnaryOp .USub a pos) (fun env n Q => wa env n fun d n1 => rNegD d fun e => Q e n1) := by
  refine .of (pe_un un_neg ha.pe) fun σ H Q ⟨c, ad, n, env, Q0, R, q0, q⟩ => ?_
  refine ⟨c, ad, n, env, _, R, q0, fun d n1 q1 v1 H1 e1 s1 => ?_⟩
  unfold rNegD at q1
  split at q1
  · cases s1.int'
    exact ⟨_, rfl, q _ _ q1 _ H1 e1 (.int _)⟩
  · exact q1.elim
/-! ### slices -/
def wPart (w : WE) : En → Nat → (Option Int → Nat → Prop) → Prop := fun env n Q => w env n fun d n1 => ∃ i, d = .int i ∧ Q (some i) n1
def wNoPart : En → Nat → (Option Int → Nat → Prop) → Prop := fun _ n Q => Q none n
def lO (K : PySem.W.Frag) (w : En → Nat → (Option Int → Nat → Prop) → Prop) : TO := fun σ H Q => ∃ c ad n env Q0, Rel K c ad n σ H env ∧ w env n Q0 ∧ ∀ b n', Q0 b n' → ∀ H', EStp c H H' n' → Q b H'
structure DO (X : Cx) (e : Option Expr) (w : En → Nat → (Option Int → Nat → Prop) → Prop) : Prop where
  po : PO X e (lO X.K w)
theorem poImp {e : Option Expr} {t t' : TO} (h : PO X e t) (k : ∀ σ H Q, t' σ H Q → t σ H Q) : PO X e t' := ⟨fun pins s σ H Q I q => h.run pins s σ H Q I (k _ _ _ q)⟩
theorem do_some {e : Expr} {w : WE} (h : DE X e w) : DO X (some e) (wPart w) := ⟨poImp (po_some h.pe) fun σ H Q ⟨c, ad, n, env, Q0, R, q0, q⟩ => ⟨c, ad, n, env, _, R, q0, fun d n1 ⟨i, hd, q1⟩ v H' e r => by
  subst hd
  cases r
  exact ⟨i, rfl, q _ _ q1 _ e⟩⟩⟩
theorem do_none : DO X none wNoPart := ⟨poImp po_none fun σ H Q ⟨c, ad, n, env, Q0, R, q0, q⟩ => q _ _ q0 _ (.refl R.bag)⟩
def cutL {α : Type} (xs : List α) (lo hi : Option Int) : List α := (xs.drop (HT.sIx xs.length 0 lo)).take (HT.sIx xs.length xs.length hi - HT.sIx xs.length 0 lo)
def rSlD (x : D) (lo hi : Option Int) (Q : D → Prop) : Prop := match x with
  | .lst xs => Q (.lst (cutL xs lo hi))
  | .tup xs => Q (.tup (cutL xs lo hi))
  | .str s => Q (.str (cutS s lo hi))
  | _ => False
theorem RepL.cutL {K : PySem.W.Frag} {bg : Option (Addr × Addr)} {H : Hp} {vs : List V} {ds : List D} (h : RepL K bg H vs ds) (lo hi : Option Int) : RepL K bg H (cutV vs lo hi) (cutL ds lo hi) := by
  unfold cutV Dv.cutL
  rw [h.len]
  exact (h.drop _).take _
theorem cutL_len {α : Type} (xs : List α) (lo hi : Option Int) : (cutL xs lo hi).length ≤ xs.length := by
  unfold Dv.cutL
  rw [List.length_take, List.length_drop]
  omega
theorem cutL_whole {α : Type} {xs : List α} {lo hi : Option Int} (h : HT.sIx xs.length 0 lo = 0 ∧ HT.sIx xs.length xs.length hi = xs.length) : cutL xs lo hi = xs := by
  unfold Dv.cutL
  rw [h.1, h.2]
  simp
theorem cutS_good {s : Str} (h : GoodS s) (lo hi : Option Int) : GoodS (cutS s lo hi) := by
  refine ⟨Nat.le_trans (cutS_length s lo hi) h.len, good_iff.2 fun c hc => good_iff.1 h.ok c ?_⟩
  unfold cutS at hc
  first | exact List.mem_of_mem_drop (List.mem_of_mem_take (by simpa using hc)) | (simp at hc; exact ?hole)
def wSl (wa : WE) (wl wh : En → Nat → (Option Int → Nat → Prop) → Prop) : WE := fun env n Q => wa env n fun d n1 => wl env n1 fun lo n2 => wh env n2 fun hi n3 => rSlD d lo hi fun e => Q e n3
theorem de_slice {e : Expr} {lo hi : Option Expr} {wa : WE} {wl wh : En → Nat → (Option Int → Nat → Prop) → Prop} {p2 pos : Pos} (ha : DB X e wa) (hl : DO X lo wl) (hh : DO X hi wh) : DE X (.Subscript e (.Slice lo hi none p2) pos) (wSl wa wl wh) := by
  refine .of (pe_slice (SlR.or sl_list (SlR.or sl_tupA sl_str)) ha.pe hl.po hh.po) fun σ H Q ⟨c, ad, n, env, Q0, R, q0, q⟩ => ?_
  refine ⟨c, ad, n, env, _, R, q0, fun d n1 q1 v1 H1 e1 s1 => ⟨c, ad, n1, env, _, R.step e1, q1, fun lo n2 q2 H2 e2 => ⟨c, ad, n2, env, _, (R.step e1).step e2, q2, fun hi n3 q3 H3 e3 => ?_⟩⟩⟩
  have R3 := ((R.step e1).step e2).step e3
  have s3 := (s1.step e2 R.oaB).step e3 R.oaB
  have ee := (e1.trans e2).trans e3
  unfold rSlD at q3
  split at q3
  · obtain ⟨a, vs, rfl, ha, hl, r⟩ := s3.lst'
    refine .inl ⟨a, vs, rfl, .inl (.inl ha), fun p hp => ?_⟩
    obtain ⟨sm, rp⟩ := rep_new R3.oaD hp (Nat.le_trans (by unfold cutV; rw [List.length_take, List.length_drop]; omega) hl) (r.cutL lo hi)
    exact q _ _ q3 _ _ (ee.trans (.of_same ee.bag sm)) rp
  · obtain ⟨a, vs, rfl, ha, hl, r⟩ := s3.tup'
    refine .inr (.inl ⟨a, vs, rfl, ha, fun z => ?_, fun _ p hp => ?_⟩)
    · have := q _ _ q3 (.ref a) _ ee
      rw [cutL_whole (by rw [← r.len]; exact z)] at this
      exact this s3.tupRep
    · obtain ⟨sm, rp⟩ := rep_newT R3.oaD hp (Nat.le_trans (by unfold cutV; rw [List.length_take, List.length_drop]; omega) hl) (r.cutL lo hi)
      exact q _ _ q3 _ _ (ee.trans (.of_same ee.bag sm)) rp
  · have g := s3.str'.2
    cases s3.str'.1
    exact .inr (.inr ⟨_, rfl, g.len, q _ _ q3 _ _ ee (.str (cutS_good g lo hi))⟩)
  · exact q3.elim
end
end Dv

set_option Elab.async false
set_option linter.all false
set_option maxRecDepth 100000
set_option maxHeartbeats 4000000
/-! Dv3: tests, and, or, not; argument lists; built-ins; isinstance; texts' methods; tuples and lists written -/
namespace Dv
open PySem PySem.Spec PyProof.Rows L2
section
variable {X : Cx} {a b e : Expr} {wa wb wc : WE} {wt wu : WT} {pos : Pos} {rest : List Expr}
/-! ### truth -/
def D.tru : D → Option Bool
  | .non => some false
  | .bl b => some b
  | .int i => some (i != 0)
  | .str s => some ((s.length : Int) != 0)
  | .lst xs => some (!xs.isEmpty)
  | .tup xs => some (!xs.isEmpty)
  | _ => none
theorem RepL.emp {K : PySem.W.Frag} {bg : Option (Addr × Addr)} {H : Hp} {vs : List V} {ds : List D} (h : RepL K bg H vs ds) : vs.isEmpty = ds.isEmpty := by cases h <;> rfl
theorem Sh.tru {K : PySem.W.Frag} {bg : Option (Addr × Addr)} {O : Addr → Prop} {H : Hp} {v : V} {d : D} {k : Bool} (h : Sh K bg O H v d) (e : d.tru = some k) : TruV K v H k := by
  unfold D.tru at e
  split at e
  · cases e; cases h.non'; exact rfl
  · cases e; cases h.bl'; exact rfl
  · cases e; cases h.int'; exact rfl
  · cases e; have g := h.str'.2; cases h.str'.1; exact ⟨g.len, rfl⟩
  · cases e
    obtain ⟨p, vs, rfl, hp, hl, r⟩ := h.lst'
    exact .inl ⟨vs, .inl (.inl hp), by rw [r.emp]⟩
  · cases e
    obtain ⟨p, vs, rfl, hp, hl, r⟩ := h.tup'
    exact .inr (.inl ⟨vs, hp, by rw [r.emp]⟩)
  · cases e
def wTru (w : WE) : WT := fun env n Q => w env n fun d n1 => ∃ k, d.tru = some k ∧ Q k n1
theorem dt_tru (h : DB X e wa) (he : ∀ whole, isTrue e X.env whole = (do let v ← whole; standAt e.pos; holding [v] (truthy v)) := by intro _; rfl) : DT X e (wTru wa) :=
  ⟨ptImp (pt_truth h.pe he) fun σ H Q ⟨c, ad, n, env, Q0, R, q0, q⟩ => ⟨c, ad, n, env, _, R, q0, fun d n1 ⟨k, ek, q1⟩ v H' e s => ⟨k, s.tru ek, q _ _ q1 _ e⟩⟩⟩
/-- an expression whose value is a bool, as a test -/
theorem dt_val (h : DE X e wa) (he : ∀ whole, isTrue e X.env whole = (do let v ← whole; standAt e.pos; holding [v] (truthy v)) := by intro _; rfl) : DT X e (wTest wa) :=
  ⟨ptImp (pt_val h.pe he) fun σ H Q ⟨c, ad, n, env, Q0, R, q0, q⟩ => ⟨c, ad, n, env, _, R, q0, fun d n1 ⟨k, ek, q1⟩ v H' e r => by
    subst ek
    cases r
    exact ⟨k, rfl, q _ _ q1 _ e⟩⟩⟩
def wNot (w : WT) : WT := fun env n Q => w env n fun k n1 => Q (!k) n1
theorem dt_not (h : DT X a wt) : DT X (.UnaryOp .Not a pos) (wNot wt) := ⟨ptImp (pt_not h.pt) fun σ H Q ⟨c, ad, n, env, Q0, R, q0, q⟩ => ⟨c, ad, n, env, _, R, q0, fun k n1 q1 H' e => q _ _ q1 _ e⟩⟩
def wAnd (w u : WT) : WT := fun env n Q => w env n fun k n1 => if k = true then u env n1 Q else Q false n1
def wOr (w u : WT) : WT := fun env n Q => w env n fun k n1 => if k = true then Q true n1 else u env n1 Q
theorem dw_and1 (h : DT X a wt) : DW X (.BoolOp .And [a] pos) wt := ⟨pw_and1 h.pt⟩
theorem dw_or1 (h : DT X a wt) : DW X (.BoolOp .Or [a] pos) wt := ⟨pw_or1 h.pt⟩
theorem dw_and (h : DT X a wt) (k : DW X (.BoolOp .And (b :: rest) pos) wu) : DW X (.BoolOp .And (a :: b :: rest) pos) (wAnd wt wu) := ⟨pwImp (pw_and h.pt k.pw) fun σ H Q ⟨c, ad, n, env, Q0, R, q0, q⟩ => ⟨c, ad, n, env, _, R, q0, fun k n1 q1 H' e => by
  cases k with
  | true => rw [if_pos rfl] at q1 ⊢; exact ⟨c, ad, n1, env, _, R.step e, q1, fun k2 n2 q2 H2 e2 => q _ _ q2 _ (e.trans e2)⟩
  | false => rw [if_neg Bool.false_ne_true] at q1 ⊢; exact q _ _ q1 _ e⟩⟩
theorem dw_or (h : DT X a wt) (k : DW X (.BoolOp .Or (b :: rest) pos) wu) : DW X (.BoolOp .Or (a :: b :: rest) pos) (wOr wt wu) := ⟨pwImp (pw_or h.pt k.pw) fun σ H Q ⟨c, ad, n, env, Q0, R, q0, q⟩ => ⟨c, ad, n, env, _, R, q0, fun k n1 q1 H' e => by
  cases k with
  | false => rw [if_neg Bool.false_ne_true] at q1 ⊢; exact ⟨c, ad, n1, env, _, R.step e, q1, fun k2 n2 q2 H2 e2 => q _ _ q2 _ (e.trans e2)⟩
  | true => rw [if_pos rfl] at q1 ⊢; exact q _ _ q1 _ e⟩⟩
theorem DW.t {wt : WT} (h : DW X e wt) : DT X e wt := ⟨h.pw.pt⟩
/-! ### and, or as values, all but the last a bool -/
theorem de_one {op} (h : DE X a wa) : DE X (.BoolOp op [a] pos) wa := ⟨pe_one h.pe⟩
def wAndV (wa wb : WE) : WE := fun env n Q => wa env n fun d n1 => ∃ k, d = .bl k ∧ if k = true then wb env n1 Q else Q (.bl false) n1
def wOrV (wa wb : WE) : WE := fun env n Q => wa env n fun d n1 => ∃ k, d = .bl k ∧ if k = true then Q (.bl true) n1 else wb env n1 Q
theorem de_and (h : DE X a wa) (k : DE X (.BoolOp .And (b :: rest) pos) wb) : DE X (.BoolOp .And (a :: b :: rest) pos) (wAndV wa wb) := .of (pe_and h.pe k.pe) fun σ H Q ⟨c, ad, n, env, Q0, R, q0, q⟩ => ⟨c, ad, n, env, _, R, q0, fun d n1 ⟨k, ek, q1⟩ v H' e r => by
  subst ek
  cases r
  refine ⟨k, rfl, ?_⟩
  cases k with
  | true => rw [if_pos rfl] at q1 ⊢; exact ⟨c, ad, n1, env, _, R.step e, q1, fun k2 n2 q2 v2 H2 e2 r2 => q _ _ q2 _ _ (e.trans e2) r2⟩
  | false => rw [if_neg Bool.false_ne_true] at q1 ⊢; exact q _ _ q1 _ _ e (.bl _)⟩
theorem de_or (h : DE X a wa) (k : DE X (.BoolOp .Or (b :: rest) pos) wb) : DE X (.BoolOp .Or (a :: b :: rest) pos) (wOrV wa wb) := .of (pe_or h.pe k.pe) fun σ H Q ⟨c, ad, n, env, Q0, R, q0, q⟩ => ⟨c, ad, n, env, _, R, q0, fun d n1 ⟨k, ek, q1⟩ v H' e r => by
  subst ek
  cases r
  refine ⟨k, rfl, ?_⟩
  cases k with
  | false => rw [if_neg Bool.false_ne_true] at q1 ⊢; exact ⟨c, ad, n1, env, _, R.step e, q1, fun k2 n2 q2 v2 H2 e2 r2 => q _ _ q2 _ _ (e.trans e2) r2⟩
  | true => rw [if_pos rfl] at q1 ⊢; exact q _ _ q1 _ _ e (.bl _)⟩
def wNotV (wa : WE) : WE := fun env n Q => wa env n fun d n1 => ∃ k, d.tru = some k ∧ Q (.bl (!k)) n1
theorem de_not (h : DB X a wa) : DE X (.UnaryOp .Not a pos) (wNotV wa) := .of (pe_notT h.pe) fun σ H Q ⟨c, ad, n, env, Q0, R, q0, q⟩ => ⟨c, ad, n, env, _, R, q0, fun d n1 ⟨k, ek, q1⟩ v H' e s => ⟨k, s.tru ek, q _ _ q1 _ _ e (.bl _)⟩⟩
def wIfE (w : WT) (wa wb : WE) : WE := fun env n Q => w env n fun k n1 => if k = true then wa env n1 Q else wb env n1 Q
theorem de_if {t : Expr} (h : DT X t wt) (ha : DE X a wa) (hb : DE X b wb) : DE X (.IfExp t a b pos) (wIfE wt wa wb) := .of (pe_ifExp h.pt ha.pe hb.pe) fun σ H Q ⟨c, ad, n, env, Q0, R, q0, q⟩ => ⟨c, ad, n, env, _, R, q0, fun k n1 q1 H' e => by
  cases k with
  | true => rw [if_pos rfl] at q1 ⊢; exact ⟨c, ad, n1, env, _, R.step e, q1, fun k2 n2 q2 v2 H2 e2 r2 => q _ _ q2 _ _ (e.trans e2) r2⟩
  | false => rw [if_neg Bool.false_ne_true] at q1 ⊢; exact ⟨c, ad, n1, env, _, R.step e, q1, fun k2 n2 q2 v2 H2 e2 r2 => q _ _ q2 _ _ (e.trans e2) r2⟩⟩
/-! ### argument lists -/
def wNil : WA := fun _ n Q => Q [] n
def wCons (w : WE) (r : WA) : WA := fun env n Q => w env n fun d n1 => r env n1 fun ds n2 => Q (d :: ds) n2
theorem da_nil : DA X [] wNil := ⟨paImp pa_nil fun σ H Q ⟨c, ad, n, env, Q0, R, q0, q⟩ => q _ _ q0 _ _ (.refl R.bag) .nil⟩
theorem dab_nil : DAB X [] wNil := ⟨paImp pa_nil fun σ H Q ⟨c, ad, n, env, Q0, R, q0, q⟩ => q _ _ q0 _ _ (.refl R.bag) .nil⟩
theorem da_cons {es : List Expr} {w : WA} (h : DE X a wa) (k : DA X es w) (hs : starEach (a :: es) X.env = (false, eval a X.env) :: starEach es X.env := by rfl) : DA X (a :: es) (wCons wa w) := ⟨paImp (pa_cons h.pe k.pa hs) fun σ H Q ⟨c, ad, n, env, Q0, R, q0, q⟩ => ⟨c, ad, n, env, _, R, q0, fun d n1 q1 v H1 e1 r1 => ⟨c, ad, n1, env, _, R.step e1, q1, fun ds n2 q2 vs H2 e2 r2 => q _ _ q2 _ _ (e1.trans e2) (.cons (r1.same (e2.cut R.oaB)) r2)⟩⟩⟩
theorem dab_cons {es : List Expr} {w : WA} (h : DB X a wa) (k : DAB X es w) (hs : starEach (a :: es) X.env = (false, eval a X.env) :: starEach es X.env := by rfl) : DAB X (a :: es) (wCons wa w) := ⟨paImp (pa_cons h.pe k.pa hs) fun σ H Q ⟨c, ad, n, env, Q0, R, q0, q⟩ => ⟨c, ad, n, env, _, R, q0, fun d n1 q1 v H1 e1 r1 => ⟨c, ad, n1, env, _, R.step e1, q1, fun ds n2 q2 vs H2 e2 r2 => q _ _ q2 _ _ (e1.trans e2) (.cons (r1.step e2 R.oaB) r2)⟩⟩⟩
/-! ### tuples and lists written -/
def wTup (w : WA) : WE := fun env n Q => w env n fun ds n1 => ds.length ≤ sizeLine ∧ Q (.tup ds) n1
theorem de_tup {es : List Expr} {w : WA} {x1} (h : DA X es w) : DE X (.Tuple es x1 pos) (wTup w) := .of (pe_tup h.pa) fun σ H Q ⟨c, ad, n, env, Q0, R, q0, q⟩ => ⟨c, ad, n, env, _, R, q0, fun ds n1 ⟨hz, q1⟩ vs H1 e1 r1 => ⟨by rw [r1.len]; exact hz, fun p hp => by
  obtain ⟨sm, rp⟩ := rep_newT (R.step e1).oaD hp (by rw [r1.len]; exact hz) r1
  exact q _ _ q1 _ _ (e1.trans (.of_same e1.bag sm)) rp⟩⟩
theorem DF.of {e : Expr} {t : TE} {w : WO} (h : PE X e t) (k : ∀ σ H Q, lF X.K w σ H Q → t σ H Q) : DF X e w := ⟨peImp h k⟩
def wLst (w : WA) : WO := fun env n Q => w env n fun ds n1 => ds.length ≤ sizeLine ∧ Q (.lst ds) n1
theorem new_at {K : PySem.W.Frag} {c : Ctx} {ad : Nat → Addr} {n n1 : Nat} {σ : L2.St} {H H1 : Hp} {env : En} {p : Addr} {vs : List V} {ds : List D} (R : Rel K c ad n σ H env) (e : EStp c H H1 n1) (hp : H1 p = none) (hl : vs.length ≤ sizeLine) (r : RepL K c.bg (cut (Oa c ad env) H1) vs ds) :
    H p = none ∧ EStp c H (upd H1 p (.lst vs)) n1 ∧ upd H1 p (.lst vs) p = some (.lst vs) ∧ RepO K c.bg (cut (fun a => Oa c ad env a ∨ a = p) (upd H1 p (.lst vs))) p (.lst vs) (.lst ds) := by
  refine ⟨?_, e.trans (.new e.bag hp), upd_same, .lst hl (r.same (cut_mono fun a o h1 h2 => ?_))⟩
  · cases z : H p with
    | none => rfl
    | some o =>
      by_cases hb : c.isBag p
      · obtain ⟨l, eb⟩ := hb
        obtain ⟨⟨ns, q, r', m, k, h1, _⟩, _⟩ := e.bag _ _ eb
        rw [hp] at h1; cases h1
      · rw [e.keep p o z hb] at hp; cases hp
  · have hne : a ≠ p := fun z => by subst z; rw [hp] at h2; cases h2
    exact ⟨fun z => z.elim h1 hne, by rw [upd_ne hne]; exact h2⟩
theorem df_lst {es : List Expr} {w : WA} (h : DA X es w) : DF X (.List es pos) (wLst w) := .of (pe_lst h.pa) fun σ H Q ⟨c, ad, n, env, Q0, R, q0, q⟩ => ⟨c, ad, n, env, _, R, q0, fun ds n1 ⟨hz, q1⟩ vs H1 e1 r1 => ⟨by rw [r1.len]; exact hz, fun p hp => by
  obtain ⟨h1, h2, h3, h4⟩ := new_at R e1 hp (by rw [r1.len]; exact hz) r1
  exact q _ _ q1 p _ _ h1 h2 h3 h4⟩⟩
/-- a new object as a value -/
def wOb (w : WO) : WE := fun env n Q => w env n fun o n1 => Q o.d n1
theorem DF.toE {w : WO} (h : DF X e w) : DE X e (wOb w) := .of h.pe fun σ H Q ⟨c, ad, n, env, Q0, R, q0, q⟩ => ⟨c, ad, n, env, _, R, q0, fun o n1 q1 p u H1 hp e1 hu r1 => by
  refine q _ _ q1 _ _ e1 (r1.rep (cut_mono fun a o h1 h2 => ⟨fun z => h1 (.inl z), h2⟩) ?_)
  rw [cut_out (R.free hp)]
  exact hu⟩
theorem de_lst {es : List Expr} {w : WA} (h : DA X es w) : DE X (.List es pos) (wOb (wLst w)) := (df_lst h).toE
/-! ### built-ins, by the values of the arguments -/
abbrev RC := List D → (D → Prop) → Prop
def LinkC (K : PySem.W.Frag) (r : List V → Hp → VK → Prop) (Rd : RC) : Prop := ∀ (bg : Option (Addr × Addr)) (O : Addr → Prop) (H : Hp) (vs : List V) (ds : List D) (Q0 : D → Prop) (Q : VK), (∀ a, O a → H a ≠ none) → ShL K bg O H vs ds → Rd ds Q0 →
  (∀ d, Q0 d → ∀ v H', Same H H' → Rep K bg (cut O H') v d → Q v H') → r vs H Q
structure CallD (X : Cx) (f : Value) (Rd : RC) : Prop where
  ex : ∃ r, CallR X f r ∧ LinkC X.K r Rd
def wCall (Rd : RC) (w : WA) : WE := fun env n Q => w env n fun ds n1 => Rd ds fun d => Q d n1
theorem de_bi {id : String} {x : Str} {p : Pos} {es : List Expr} {w : WA} {Rd : RC} (hc : CallD X (.builtin id) Rd) (hm : X.mg x = none) (ha : DAB X (e :: es) w) (hg : Gl X x := by rfl) (hv : bootBuiltins x = some (.builtin id) := by decide +kernel) (hn : x ≠ "__name__" := by decide) (hdb : (x == ("__debug__" : Str)) = false := by decide)
    (he : starEach (e :: es) X.env = (false, eval e X.env) :: starEach es X.env := by rfl) (hpl : (backTo pos (starEach es X.env)).any (·.1) = false := by rfl) : DE X (.Call (.Name x p) (e :: es) [] pos) (wCall Rd w) := by
  obtain ⟨r, hr, hl⟩ := hc.ex
  exact .of (pe_callB hr hg hm hv ha.pa hn hdb he hpl) fun σ H Q ⟨c, ad, n, env, Q0, R, q0, q⟩ => ⟨c, ad, n, env, _, R, q0, fun ds n1 q1 vs H1 e1 s1 => hl c.bg _ H1 vs ds _ _ (R.step e1).oaD s1 q1 fun d hd v H2 sm rp => q _ _ hd _ _ (e1.trans (.of_same e1.bag sm)) rp⟩
theorem de_tyc {T : String} {x : Str} {p : Pos} {es : List Expr} {w : WA} {Rd : RC} (hc : CallD X (.type T) Rd) (hm : X.mg x = none) (ha : DAB X (e :: es) w) (hg : Gl X x := by rfl) (hv : bootBuiltins x = some (.type T) := by decide +kernel) (hn : x ≠ "__name__" := by decide) (hdb : (x == ("__debug__" : Str)) = false := by decide)
    (he : starEach (e :: es) X.env = (false, eval e X.env) :: starEach es X.env := by rfl) (hpl : (backTo pos (starEach es X.env)).any (·.1) = false := by rfl) : DE X (.Call (.Name x p) (e :: es) [] pos) (wCall Rd w) := by
  obtain ⟨r, hr, hl⟩ := hc.ex
  exact .of (pe_callTy hr hg hm hv ha.pa hn hdb he hpl) fun σ H Q ⟨c, ad, n, env, Q0, R, q0, q⟩ => ⟨c, ad, n, env, _, R, q0, fun ds n1 q1 vs H1 e1 s1 => hl c.bg _ H1 vs ds _ _ (R.step e1).oaD s1 q1 fun d hd v H2 sm rp => q _ _ hd _ _ (e1.trans (.of_same e1.bag sm)) rp⟩
theorem ShL.one {K : PySem.W.Frag} {bg : Option (Addr × Addr)} {O : Addr → Prop} {H : Hp} {vs : List V} {d : D} (h : ShL K bg O H vs [d]) : ∃ v, vs = [v] ∧ Sh K bg O H v d := by
  cases h with
  | cons h t => cases t; exact ⟨_, rfl, h⟩
theorem ShL.two {K : PySem.W.Frag} {bg : Option (Addr × Addr)} {O : Addr → Prop} {H : Hp} {vs : List V} {d e : D} (h : ShL K bg O H vs [d, e]) : ∃ v w, vs = [v, w] ∧ Sh K bg O H v d ∧ Sh K bg O H w e := by
  cases h with
  | cons h t => obtain ⟨w, rfl, k⟩ := t.one; exact ⟨_, _, rfl, h, k⟩
/-- len -/
def D.len : D → Option Nat
  | .str s => some s.length
  | .lst xs => some xs.length
  | .tup xs => some xs.length
  | _ => none
def rLenD : RC := fun ds Q => match ds with
  | [d] => ∃ n, d.len = some n ∧ Q (.int (n : Nat))
  | _ => False
theorem Sh.len {K : PySem.W.Frag} {bg : Option (Addr × Addr)} {O : Addr → Prop} {H : Hp} {v : V} {d : D} {n : Nat} (h : Sh K bg O H v d) (e : d.len = some n) : LenV K v H n := by
  unfold D.len at e
  split at e
  · cases e; have g := h.str'.2; cases h.str'.1; exact ⟨g.len, rfl⟩
  · cases e
    obtain ⟨p, vs, rfl, hp, hl, r⟩ := h.lst'
    exact .inl ⟨vs, .inl (.inl hp), by rw [r.len]⟩
  · cases e
    obtain ⟨p, vs, rfl, hp, hl, r⟩ := h.tup'
    exact .inr ⟨vs, hp, by rw [r.len]⟩
  · cases e
theorem cd_len : CallD X (.builtin "len") rLenD := by
  refine ⟨⟨_, call_len, ?_⟩⟩
  intro bg O H vs ds Q0 Q hO s h q
  unfold rLenD at h
  split at h
  · obtain ⟨v, rfl, s'⟩ := s.one
    obtain ⟨n, e, h⟩ := h
    exact ⟨v, n, rfl, s'.len e, q _ h _ _ (.refl _) (.int _)⟩
  · exact h.elim
def rInt1 (f : Int → Int) : RC := fun ds Q => match ds with
  | [.int i] => Q (.int (f i))
  | _ => False
theorem cd_abs : CallD X (.builtin "abs") (rInt1 fun i => if i < 0 then -i else i) := by
  refine ⟨⟨_, call_abs, ?_⟩⟩
  intro bg O H vs ds Q0 Q hO s h q
  unfold rInt1 at h
  split at h
  · obtain ⟨v, rfl, s'⟩ := s.one
    cases s'.int'
    exact ⟨_, rfl, q _ h _ _ (.refl _) (.int _)⟩
  · exact h.elim
def rIntD : RC := fun ds Q => match ds with
  | [.int i] => Q (.int i)
  | [.bl k] => Q (.int (if k then 1 else 0))
  | _ => False
theorem cd_int : CallD X (.type "int") rIntD := by
  refine ⟨⟨_, call_int1, ?_⟩⟩
  intro bg O H vs ds Q0 Q hO s h q
  unfold rIntD at h
  split at h
  · obtain ⟨v, rfl, s'⟩ := s.one
    cases s'.int'
    exact .inl ⟨_, rfl, q _ h _ _ (.refl _) (.int _)⟩
  · obtain ⟨v, rfl, s'⟩ := s.one
    cases s'.bl'
    exact .inr ⟨_, rfl, q _ h _ _ (.refl _) (.int _)⟩
  · exact h.elim
/-- the items of a list or a tuple -/
def D.items : D → Option (List D)
  | .lst xs => some xs
  | .tup xs => some xs
  | _ => none
def rListD : WA → WO := fun w env n Q => w env n fun ds n1 => ∃ d xs, ds = [d] ∧ d.items = some xs ∧ Q (.lst xs) n1
theorem df_list {x : Str} {p : Pos} {w : WA} (hm : X.mg x = none) (ha : DAB X [e] w) (hg : Gl X x := by rfl) (hv : bootBuiltins x = some (.type "list") := by decide +kernel) (hn : x ≠ "__name__" := by decide) (hdb : (x == ("__debug__" : Str)) = false := by decide)
    (he : starEach (e :: []) X.env = (false, eval e X.env) :: starEach [] X.env := by rfl) (hpl : (backTo pos (starEach [] X.env)).any (·.1) = false := by rfl) : DF X (.Call (.Name x p) [e] [] pos) (rListD w) := by
  refine .of (pe_callTy call_list_of hg hm hv ha.pa hn hdb he hpl) fun σ H Q ⟨c, ad, n, env, Q0, R, q0, q⟩ => ⟨c, ad, n, env, _, R, q0, fun ds n1 ⟨d, xs, ed, ei, q1⟩ vs H1 e1 s1 => ?_⟩
  subst ed
  obtain ⟨v, rfl, s'⟩ := s1.one
  unfold D.items at ei
  split at ei
  · cases ei
    obtain ⟨p, ws, rfl, hp, hl, r⟩ := s'.lst'
    refine ⟨p, ws, rfl, .inl (.inl (.inl hp)), fun l hl' => ?_⟩
    obtain ⟨h1, h2, h3, h4⟩ := new_at R e1 hl' hl r
    exact q _ _ q1 l _ _ h1 h2 h3 h4
  · cases ei
    obtain ⟨p, ws, rfl, hp, hl, r⟩ := s'.tup'
    refine ⟨p, ws, rfl, .inr hp, fun l hl' => ?_⟩
    obtain ⟨h1, h2, h3, h4⟩ := new_at R e1 hl' hl r
    exact q _ _ q1 l _ _ h1 h2 h3 h4
  · cases ei
def rTupleD : RC := fun ds Q => match ds with
  | [d] => ∃ xs, d.items = some xs ∧ Q (.tup xs)
  | _ => False
theorem cd_tuple : CallD X (.type "tuple") rTupleD := by
  refine ⟨⟨_, call_tuple_of, ?_⟩⟩
  intro bg O H vs ds Q0 Q hO s h q
  unfold rTupleD at h
  split at h
  · obtain ⟨v, rfl, s'⟩ := s.one
    obtain ⟨xs, ei, h⟩ := h
    unfold D.items at ei
    split at ei
    · cases ei
      obtain ⟨p, ws, rfl, hp, hl, r⟩ := s'.lst'
      refine ⟨p, ws, rfl, .inl ⟨.inl (.inl hp), fun l hn => ?_⟩⟩
      obtain ⟨sm, rp⟩ := rep_newT hO hn hl r
      exact q _ h _ _ sm rp
    · cases ei
      obtain ⟨p, ws, e', hp, hl, r⟩ := s'.tup'
      subst e'
      exact ⟨p, ws, rfl, .inr ⟨hp, q _ h _ _ (.refl _) s'.tupRep⟩⟩
    · cases ei
  · exact h.elim
/-! ### isinstance -/
def D.tyName : D → Option String
  | .non => some "NoneType"
  | .bl _ => some "bool"
  | .int _ => some "int"
  | .str _ => some "str"
  | .lst _ => some "list"
  | .tup _ => some "tuple"
  | .dk _ => some "dict"
  | .dt _ => some "dict"
  | _ => none
/-- isinstance(x, T), T a built-in type -/
def isT (d : D) (T : String) : Option Bool := d.tyName.bind fun t => kitB t T
def rIsD : RC := fun ds Q => match ds with
  | [d, .ty T] => ∃ b, isT d T = some b ∧ Q (.bl b)
  | _ => False
theorem Sh.ty {K : PySem.W.Frag} {bg : Option (Addr × Addr)} {O : Addr → Prop} {H : Hp} {v : V} {d : D} {t : String} (h : Sh K bg O H v d) (e : d.tyName = some t) : TyX K H v (.type t) := by
  cases h with
  | rep h =>
    cases h with
    | non => cases e; exact .base .non
    | bl b => cases e; exact .base (.bl _)
    | int b => cases e; exact .base (.int _)
    | str b => cases e; exact .base (.str _)
    | lst h hl r => cases e; exact .base (.lst (cut_le _ _ h))
    | tup h hl r =>
      cases e
      rcases h with (h | ⟨o, h⟩) | h
      · exact .base (.tup (cut_le _ _ h))
      · exact .fTuple (cut_le _ _ h)
      · obtain ⟨o, its, n, h1, h2, _⟩ := h
        exact .kTuple h1 h2
    | dk h r => cases e; exact .base (.dK (cut_le _ _ h))
    | dt h r => cases e; exact .base (.dT (cut_le _ _ h))
    | bag h => cases e
    | ty n => cases e
    | ref a => cases e
    | ins h r => cases e
    | exn h r => cases e
  | @own a u o hb h r =>
    cases r with
    | lst hl r => cases e; exact .base (.lst h)
    | dk r => cases e; exact .base (.dK h)
    | dt r => cases e; exact .base (.dT h)
    | ins r => cases e
theorem cd_is : CallD X (.builtin "isinstance") rIsD := by
  refine ⟨⟨_, call_isi, ?_⟩⟩
  intro bg O H vs ds Q0 Q hO s h q
  unfold rIsD at h
  split at h
  · obtain ⟨v, w, rfl, s1, s2⟩ := s.two
    cases s2.ty'
    obtain ⟨b, e, h⟩ := h
    unfold isT at e
    rename_i d T
    cases z : d.tyName with
    | none => rw [z] at e; cases e
    | some t =>
      rw [z] at e
      exact ⟨v, .ty T, .type t, .type T, b, rfl, .ty _, s1.ty z, kit_ty e, q _ h _ _ (.refl _) (.bl _)⟩
  · exact h.elim
/-- isinstance(x, (T1, T2, ..)) -/
def rIsiS (K : PySem.W.Frag) : List V → Hp → VK → Prop := fun xs H Q => ∃ (x : V) (tp : Addr) (cs : List V) (t : Value) (us : List Value) (b : Bool), xs = [x, .ref tp] ∧ SqT K H tp cs ∧ Paired ClsV cs us ∧ TyX K H x t ∧ PySem.W.kitAny K t us = some b ∧ Q (.bl b) H
theorem call_isiS : CallR X (.builtin "isinstance") (rIsiS X.K) := by
  intro pins s σ H xs us Q I r h
  obtain ⟨x, tp, cs, t, ws, b, rfl, hT, k, ty, e, q⟩ := h
  obtain ⟨u1, u2, rfl, r1, r2⟩ := vals2 r
  cases (show u2 = Value.ref tp from r2)
  obtain ⟨P, Z, p, hx⟩ := kit_of I r1 ty
  obtain ⟨its, rv, ⟨o, h1, h2, n, h3⟩, _⟩ := I.tuple hT
  have e3 := ClsV.all k rv
  subst e3
  obtain ⟨oc, od, dt, sl⟩ := o
  simp only at h2 h3
  subst h2 h3
  exact PySem.W.kia_tup Z I.kIn p h1 e hx fun tk => ⟨.bl b, H, I.tok tk, rfl, q⟩
def tysOf : List D → Option (List String)
  | [] => some []
  | .ty n :: r => (tysOf r).map (n :: ·)
  | _ :: _ => none
/-- one of several built-in types -/
def isTs (d : D) : List String → Option Bool
  | [] => some false
  | T :: r => (isT d T).bind fun b => (isTs d r).map fun c => b || c
theorem kitAny_of {K : PySem.W.Frag} {d : D} {t : String} (ht : d.tyName = some t) : ∀ {Ts : List String} {b : Bool}, isTs d Ts = some b → PySem.W.kitAny K (.type t) (Ts.map Value.type) = some b
  | [], b, h => by cases h; rfl
  | T :: r, b, h => by
    unfold isTs at h
    cases e : isT d T with
    | none => rw [e] at h; cases h
    | some b1 =>
      rw [e] at h
      cases e2 : isTs d r with
      | none => rw [e2] at h; cases h
      | some b2 =>
        rw [e2] at h
        have hb : b = (b1 || b2) := (Option.some.inj h).symm
        have hk : PySem.W.kitOne K (.type t) (.type T) = some b1 := by
          unfold isT at e
          rw [ht] at e
          exact kit_ty e
        have ih := kitAny_of (K := K) ht e2
        subst hb
        rw [List.map_cons]
        unfold PySem.W.kitAny
        show (match PySem.W.kitOne K (Value.type t) (Value.type T) with
          | some true => some true
          | some false => PySem.W.kitAny K (Value.type t) (r.map Value.type)
          | none => none) = _
        rw [hk]
        cases b1 with
        | true => rfl
        | false => exact ih
theorem tys_rep {K : PySem.W.Frag} {bg : Option (Addr × Addr)} {H : Hp} : ∀ {vs : List V} {ds : List D} {Ts : List String}, RepL K bg H vs ds → tysOf ds = some Ts → Paired ClsV vs (Ts.map Value.type)
  | _, _, Ts, .nil, h => by cases h; exact .nil
  | _, d :: ds, Ts, .cons h t, e => by
    cases h with
    | ty n =>
      unfold tysOf at e
      cases e2 : tysOf ds with
      | none => rw [e2] at e; cases e
      | some r =>
        rw [e2] at e
        cases e
        exact .cons (.ty n) (tys_rep t e2)
    | _ => cases e
def rIsTD : RC := fun ds Q => match ds with
  | [d, .tup cs] => ∃ Ts b, tysOf cs = some Ts ∧ d.tyName.isSome = true ∧ isTs d Ts = some b ∧ Q (.bl b)
  | _ => False
theorem cd_isT : CallD X (.builtin "isinstance") rIsTD := by
  refine ⟨⟨_, call_isiS, ?_⟩⟩
  intro bg O H vs ds Q0 Q hO s h q
  unfold rIsTD at h
  split at h
  · obtain ⟨v, w, rfl, s1, s2⟩ := s.two
    obtain ⟨Ts, b, e1, e0, e2, h⟩ := h
    obtain ⟨p, ws, rfl, hp, hl, r⟩ := s2.tup'
    obtain ⟨t, ht⟩ := Option.isSome_iff_exists.1 e0
    exact ⟨v, p, ws, .type t, _, b, rfl, hp, tys_rep r e1, s1.ty ht, kitAny_of ht e2, q _ h _ _ (.refl _) (.bl _)⟩
  · exact h.elim
/-! ### methods of texts -/
/-- of one argument -/
def wM1 (Rd : RR) (wa wb : WE) : WE := wOp Rd wa wb
structure MtD1 (X : Cx) (id : String) (Rd : RR) : Prop where
  ex : ∃ r, MtR X id r ∧ ∀ (bg : Option (Addr × Addr)) (O : Addr → Prop) (H : Hp) (v1 v2 : V) (d1 d2 : D) (Q0 : D → Prop) (Q : VK), (∀ a, O a → H a ≠ none) → Sh X.K bg O H v1 d1 → Sh X.K bg O H v2 d2 → Rd d1 d2 Q0 →
    (∀ d, Q0 d → ∀ v H', Same H H' → Rep X.K bg (cut O H') v d → Q v H') → r v1 [v2] H Q
def D.isStr : D → Bool
  | .str _ => true
  | _ => false
theorem Sh.isStr {K : PySem.W.Frag} {bg : Option (Addr × Addr)} {O : Addr → Prop} {H : Hp} {v : V} {d : D} (h : Sh K bg O H v d) (e : d.isStr = true) : ∃ z, v = .str z := by
  cases d <;> first | exact absurd e Bool.false_ne_true | exact ⟨_, h.str'.1⟩
def wMt1 (Rd : RR) (wa wb : WE) : WE := fun env n Q => wa env n fun d1 n1 => d1.isStr = true ∧ wb env n1 fun d2 n2 => Rd d1 d2 fun d => Q d n2
theorem de_m1 {o e : Expr} {wa wb : WE} {id : String} {name : Str} {apos pos : Pos} {Rd : RR} (slot : Slot "str" name id) (ty : typeOf (.builtin id) = pure (.type "method_descriptor")) (rule : MtD1 X id Rd) (ho : DB X o wa) (he : DB X e wb)
    (hs : starEach [e] X.env = [(false, eval e X.env)] := by rfl) (hbase : attributeBase o name X.env (eval o X.env) = eval o X.env := by rfl) (hline : (apos.endLine == pos.line) = true := by rfl) : DE X (.Call (.Attribute o name apos) [e] [] pos) (wMt1 Rd wa wb) := by
  obtain ⟨r, hr, hl⟩ := rule.ex
  refine .of (pe_m1 slot ty hr ho.pe he.pe hs hbase hline) fun σ H Q ⟨c, ad, n, env, Q0, R, q0, q⟩ => ?_
  refine ⟨c, ad, n, env, _, R, q0, fun d1 n1 ⟨hstr, q1⟩ v1 H1 e1 s1 => ⟨s1.isStr hstr, ⟨c, ad, n1, env, _, R.step e1, q1, fun d2 n2 q2 v2 H2 e2 s2 => ?_⟩⟩⟩
  exact hl c.bg _ H2 v1 v2 d1 d2 _ _ ((R.step e1).step e2).oaD (s1.step e2 R.oaB) s2 q2 fun d hd v H3 sm rp => q d n2 hd v H3 ((e1.trans e2).trans (.of_same e2.bag sm)) rp
theorem sub_good {s t : Str} (h : GoodS s) (hl : t.length ≤ s.length) (hm : ∀ c ∈ t.cps.toList, c ∈ s.cps.toList) : GoodS t := ⟨Nat.le_trans hl h.len, good_iff.2 fun c hc => good_iff.1 h.ok c (hm c hc)⟩
theorem extract_good {s : Str} (h : GoodS s) (i j : Nat) : GoodS ⟨s.cps.extract i j⟩ := by
  refine sub_good h ?_ fun c hc => ?_
  · show (s.cps.extract i j).size ≤ s.cps.size
    rw [Array.size_extract]
    omega
  · have hc' : c ∈ (s.cps.extract i j).toList := hc
    rw [Array.toList_extract] at hc'
    exact List.mem_of_mem_drop (List.mem_of_mem_take (by simpa using hc'))
/-- x.strip(y) -/
def rStripD : RR := fun x y Q => match x, y with
  | .str a, .str b => Q (.str (Txt.stripChars a b))
  | _, _ => False
theorem stripBy_good {s : Str} (h : GoodS s) (g : Nat → Bool) (l r : Bool) : GoodS (Txt.stripBy g l r s) := by
  unfold Txt.stripBy
  split
  · exact h
  · unfold PySem.stripped
    exact extract_good h _ _
theorem md_strip : MtD1 X "str.strip" rStripD := by
  refine ⟨⟨_, mt_stripChars, ?_⟩⟩
  intro bg O H v1 v2 d1 d2 Q0 Q hO s1 s2 h q
  unfold rStripD at h
  split at h
  · have g := s1.str'.2
    cases s1.str'.1; cases s2.str'.1
    exact ⟨_, _, rfl, rfl, g.len, q _ h _ _ (.refl _) (.str (stripBy_good g _ _ _))⟩
  · exact h.elim
theorem de_strip {o e : Expr} {wa wb : WE} {apos pos : Pos} (ho : DB X o wa) (he : DB X e wb)
    (hs : starEach [e] X.env = [(false, eval e X.env)] := by rfl) (hbase : attributeBase o "strip" X.env (eval o X.env) = eval o X.env := by rfl) (hline : (apos.endLine == pos.line) = true := by rfl) : DE X (.Call (.Attribute o "strip" apos) [e] [] pos) (wMt1 rStripD wa wb) :=
  de_m1 PySem.F.slot_str_strip PySem.F.type_str_strip md_strip ho he hs hbase hline
/-- sep.join(texts) -/
def strsOf : List D → Option (List Str)
  | [] => some []
  | .str s :: r => (strsOf r).map (s :: ·)
  | _ :: _ => none
theorem strsOf_map (ss : List Str) : strsOf (ss.map D.str) = some ss := by
  induction ss with
  | nil => rfl
  | cons s r ih => rw [List.map_cons, strsOf, ih]; rfl
theorem strs_rep {K : PySem.W.Frag} {bg : Option (Addr × Addr)} {H : Hp} : ∀ {vs : List V} {ds : List D} {ss : List Str}, RepL K bg H vs ds → strsOf ds = some ss → vs = ss.map V.str ∧ ∀ s ∈ ss, GoodS s
  | _, _, ss, .nil, h => by cases h; exact ⟨rfl, fun s h => by cases h⟩
  | _, d :: ds, ss, .cons h t, e => by
    cases h with
    | str g =>
      unfold strsOf at e
      cases e2 : strsOf ds with
      | none => rw [e2] at e; cases e
      | some r =>
        rw [e2] at e
        cases e
        obtain ⟨h1, h2⟩ := strs_rep t e2
        refine ⟨by rw [h1]; rfl, fun s hs => ?_⟩
        rcases List.mem_cons.1 hs with rfl | hs
        · exact g
        · exact h2 s hs
    | _ => cases e
theorem join_codes (a : Str) : ∀ (ys : List Str), (Txt.join a ys).cps.toList = ((ys.map (fun z : Str => z.cps.toList)).intersperse a.cps.toList).flatten := by
  intro ys
  show ((ys.drop 1).foldl (fun acc p => acc ++ a.cps ++ p.cps) (ys.headD Str.empty).cps).toList = _
  cases ys with
  | nil => rfl
  | cons y r =>
    show ((r).foldl (fun acc p => acc ++ a.cps ++ p.cps) y.cps).toList = _
    have key : ∀ (r : List Str) (z : Array Nat), (r.foldl (fun acc p => acc ++ a.cps ++ p.cps) z).toList = z.toList ++ (r.map fun p => a.cps.toList ++ p.cps.toList).flatten := by
      intro r
      induction r with
      | nil => intro z; simp
      | cons p r ih => intro z; rw [List.foldl_cons, ih]; simp
    rw [key]
    induction r generalizing y with
    | nil => simp
    | cons p r ih =>
      have := ih p
      rw [List.map_cons, List.map_cons, List.map_cons, List.intersperse_cons₂, List.flatten_cons, List.flatten_cons, List.flatten_cons]
      rw [List.map_cons] at this
      rw [← this]
      simp
theorem join_good {a : Str} {ys : List Str} (ga : GoodS a) (gy : ∀ s ∈ ys, GoodS s) (h : (ys.map (·.length)).sum + ys.length * a.length ≤ 16777216) : GoodS (Txt.join a ys) := by
  have hl : (Txt.join a ys).length ≤ (ys.map (·.length)).sum + ys.length * a.length := by
    show (Txt.join a ys).cps.size ≤ _
    rw [← Array.length_toList, join_codes]
    clear h gy
    induction ys with
    | nil => simp
    | cons y r ih =>
      cases r with
      | nil =>
        simp
        show y.cps.size ≤ y.cps.size + a.length
        omega
      | cons z r =>
        rw [List.map_cons, List.map_cons, List.intersperse_cons₂, List.flatten_cons, List.flatten_cons]
        rw [List.map_cons] at ih
        rw [List.length_append, List.length_append, List.map_cons, List.sum_cons, List.length_cons]
        have e1 : y.cps.toList.length = y.length := Array.length_toList
        have e2 : a.cps.toList.length = a.length := Array.length_toList
        rw [Nat.succ_mul]
        omega
  refine ⟨Nat.le_trans hl (by rw [sizeLine_eq]; exact h), good_iff.2 fun c hc => ?_⟩
  rw [join_codes] at hc
  clear h hl
  have hh : ∀ (l : List (List Nat)), c ∈ (l.intersperse a.cps.toList).flatten → c ∈ a.cps.toList ∨ ∃ y ∈ l, c ∈ y := by
    intro l
    induction l with
    | nil => intro h; simp at h
    | cons y r ih =>
      cases r with
      | nil => intro h; exact .inr ⟨y, by simp, by simpa using h⟩
      | cons z r =>
        intro h
        rw [List.intersperse_cons₂, List.flatten_cons, List.flatten_cons, List.mem_append, List.mem_append] at h
        rcases h with h | h | h
        · exact .inr ⟨y, List.mem_cons_self, h⟩
        · exact .inl h
        · rcases ih h with h | ⟨u, hu, h⟩
          · exact .inl h
          · exact .inr ⟨u, List.mem_cons_of_mem _ hu, h⟩
  rcases hh _ hc with h | ⟨y, hy, h⟩
  · exact good_iff.1 ga.ok c h
  · obtain ⟨s, hs, rfl⟩ := List.mem_map.1 hy
    exact good_iff.1 (gy s hs).ok c h
def rJoinD : RR := fun x y Q => ∃ a xs ss, x = .str a ∧ y.items = some xs ∧ strsOf xs = some ss ∧ (ss.map (·.length)).sum + ss.length * a.length ≤ 16777216 ∧ Q (.str (Txt.join a ss))
theorem md_join : MtD1 X "str.join" rJoinD := by
  refine ⟨⟨_, mt_join, ?_⟩⟩
  rintro bg O H v1 v2 d1 d2 Q0 Q hO s1 s2 ⟨a, xs, ss, rfl, ei, es, hz, h⟩ q
  have g := s1.str'.2
  cases s1.str'.1
  unfold D.items at ei
  split at ei
  · cases ei
    obtain ⟨p, ws, rfl, hp, hl, r⟩ := s2.lst'
    obtain ⟨h1, h2⟩ := strs_rep r es
    subst h1
    exact ⟨_, p, ss, rfl, rfl, .inl (.inl (.inl hp)), hz, q _ h _ _ (.refl _) (.str (join_good g h2 hz))⟩
  · cases ei
    obtain ⟨p, ws, rfl, hp, hl, r⟩ := s2.tup'
    obtain ⟨h1, h2⟩ := strs_rep r es
    subst h1
    exact ⟨_, p, ss, rfl, rfl, .inr hp, hz, q _ h _ _ (.refl _) (.str (join_good g h2 hz))⟩
  · cases ei
theorem de_join {o e : Expr} {wa wb : WE} {apos pos : Pos} (ho : DB X o wa) (he : DB X e wb)
    (hs : starEach [e] X.env = [(false, eval e X.env)] := by rfl) (hbase : attributeBase o "join" X.env (eval o X.env) = eval o X.env := by rfl) (hline : (apos.endLine == pos.line) = true := by rfl) : DE X (.Call (.Attribute o "join" apos) [e] [] pos) (wMt1 rJoinD wa wb) :=
  de_m1 PySem.F.slot_str_join PySem.F.type_str_join md_join ho he hs hbase hline
end
end Dv

set_option Elab.async false
set_option linter.all false
set_option maxRecDepth 100000
set_option maxHeartbeats 4000000
/-! Dv4: statements, targets, loops, comprehensions by value -/
namespace Dv
open PySem PySem.Spec PyProof.Rows L2
/-! ### a slot stored -/
section
variable {K : PySem.W.Frag} {c : Ctx} {ad : Nat → Addr} {n n' : Nat} {σ σ' : L2.St} {H H' : Hp} {env : En}
theorem own_set {i j : Nat} {s : SD} (h : Own (env.set i s) j) : (j = i ∧ i < env.length ∧ ∃ o, s = .own o) ∨ (j ≠ i ∧ Own env j) := by
  obtain ⟨o, e⟩ := h
  by_cases z : j = i
  · subst z
    by_cases hl : j < env.length
    · rw [List.getElem?_set_self hl] at e
      exact .inl ⟨rfl, hl, o, Option.some.inj e⟩
    · rw [List.getElem?_eq_none (by simpa using hl)] at e; cases e
  · rw [List.getElem?_set_ne (Ne.symm z)] at e
    exact .inr ⟨z, o, e⟩
theorem own_set_ne {i j : Nat} {s : SD} (hn : j ≠ i) (h : Own env j) : Own (env.set i s) j := by
  obtain ⟨o, e⟩ := h
  exact ⟨o, by rw [List.getElem?_set_ne (Ne.symm hn)]; exact e⟩
/-- a slot that owns nothing any more: less is forbidden -/
theorem oa_less {i : Nat} {s : SD} (hs : ∀ o, s ≠ .own o) {a : Addr} (h : Oa c ad (env.set i s) a) : Oa c ad env a := by
  rcases h with h | ⟨j, hj, rfl⟩
  · exact .inl h
  · rcases own_set hj with ⟨_, _, o, e⟩ | ⟨_, hj⟩
    · exact absurd e (hs o)
    · exact .inr ⟨j, hj, rfl⟩
theorem Rel.setS (R : Rel K c ad n σ H env) {i : Nat} {s : SD} (hs : ∀ o, s ≠ .own o) (hl : σ.length ≤ σ'.length) (hσ : ∀ j, j ≠ i → σ'[j]? = σ[j]?) (h : ∀ d, s = .val d → i < env.length → ∃ v, σ'[i]? = some (some v) ∧ Rep K c.bg (cut (Oa c ad env) H) v d) : Rel K c ad n σ' H (env.set i s) := by
  have sm : Same (cut (Oa c ad env) H) (cut (Oa c ad (env.set i s)) H) := cut_mono fun a o h1 h2 => ⟨fun z => h1 (oa_less hs z), h2⟩
  refine ⟨by rw [List.length_set]; exact Nat.le_trans R.len hl, R.base, R.dom, R.bag, fun j k h1 h2 e => ?_, fun j h1 => ?_, fun j h1 => ?_, fun j sd e => ?_, R.ex0⟩
  · rcases own_set h1 with ⟨_, _, o, e⟩ | ⟨_, h1⟩
    · exact absurd e (hs o)
    · rcases own_set h2 with ⟨_, _, o, e⟩ | ⟨_, h2⟩
      · exact absurd e (hs o)
      · exact R.inj j k h1 h2 e
  · rcases own_set h1 with ⟨_, _, o, e⟩ | ⟨_, h1⟩
    · exact absurd e (hs o)
    · exact R.fresh j h1
  · rcases own_set h1 with ⟨_, _, o, e⟩ | ⟨_, h1⟩
    · exact absurd e (hs o)
    · exact R.notO j h1
  · by_cases z : j = i
    · subst z
      by_cases hl : j < env.length
      · rw [List.getElem?_set_self hl] at e
        have e' := Option.some.inj e
        rw [← e']
        cases s with
        | un => trivial
        | val d => obtain ⟨v, h1, h2⟩ := h d rfl hl; exact ⟨v, h1, h2.same sm⟩
        | own o => exact absurd rfl (hs o)
      · rw [List.getElem?_eq_none (by simpa using hl)] at e; cases e
    · rw [List.getElem?_set_ne (Ne.symm z)] at e
      have := R.slot j sd e
      cases sd with
      | un => trivial
      | val d =>
        obtain ⟨v, h1, h2⟩ := this
        exact ⟨v, by rw [hσ j z]; exact h1, h2.same sm⟩
      | own o =>
        obtain ⟨h1, u, h2, h3⟩ := this
        exact ⟨by rw [hσ j z]; exact h1, u, h2, h3.same sm⟩
theorem Rel.set (R : Rel K c ad n σ H env) {i : Nat} {v : V} {d : D} (h : Rep K c.bg (cut (Oa c ad env) H) v d) : Rel K c ad n (σ.set i (some v)) H (env.set i (.val d)) := by
  refine R.setS (fun o z => nomatch z) (by rw [List.length_set]; exact Nat.le_refl _) (fun j z => by rw [List.getElem?_set_ne (Ne.symm z)]) fun d' e hl => ⟨v, ?_, ?_⟩
  · rw [List.getElem?_set_self (Nat.lt_of_lt_of_le hl R.len)]
  · cases e; exact h
/-- forgotten -/
theorem Rel.forget (R : Rel K c ad n σ H env) {i : Nat} : Rel K c ad n σ H (env.set i .un) :=
  R.setS (fun o z => nomatch z) (Nat.le_refl _) (fun _ _ => rfl) fun d' e _ => by cases e
/-- owned no more: a value from now on -/
theorem Rel.frz (R : Rel K c ad n σ H env) {i : Nat} {o : Ob} (e : env[i]? = some (.own o)) : Rel K c ad n σ H (env.set i (.val o.d)) := by
  have sl := R.slot i _ e
  obtain ⟨h1, u, h2, h3⟩ := sl
  have hs : ∀ o', (SD.val o.d) ≠ .own o' := fun o z => nomatch z
  have sm : Same (cut (Oa c ad env) H) (cut (Oa c ad (env.set i (.val o.d))) H) := cut_mono fun a o h1 h2 => ⟨fun z => h1 (oa_less hs z), h2⟩
  have hi : ¬ Oa c ad (env.set i (.val o.d)) (ad i) := fun z => by
    rcases z with z | ⟨j, hj, ej⟩
    · exact R.notO i ⟨o, e⟩ z
    · rcases own_set hj with ⟨_, _, o, e⟩ | ⟨hn, hj⟩
      · exact absurd e (hs o)
      · exact hn (R.inj j i hj ⟨o, e⟩ ej.symm)
  -- forget first, then store the value
  have R1 := R.forget (i := i)
  have R2 : Rel K c ad n σ H ((env.set i .un).set i (.val o.d)) := by
    refine R1.setS hs (Nat.le_refl _) (fun _ _ => rfl) fun d' e' _ => ⟨.ref (ad i), h1, ?_⟩
    cases e'
    have sm1 : Same (cut (Oa c ad env) H) (cut (Oa c ad (env.set i .un)) H) := cut_mono fun a o h1 h2 => ⟨fun z => h1 (oa_less (fun o z => by cases z) z), h2⟩
    refine h3.rep sm1 ?_
    rw [cut_out]
    · exact h2
    · intro z
      rcases z with z | ⟨j, hj, ej⟩
      · exact R.notO i ⟨o, e⟩ z
      · rcases own_set hj with ⟨_, _, o, e⟩ | ⟨hn, hj⟩
        · cases e
        · exact hn (R.inj j i hj ⟨o, e⟩ ej.symm)
  rw [List.set_set] at R2
  exact R2
def adSet (ad : Nat → Addr) (i : Nat) (p : Addr) : Nat → Addr := fun j => if j = i then p else ad j
theorem adSet_same {ad : Nat → Addr} {i : Nat} {p : Addr} {j : Nat} (h : j = i) : adSet ad i p j = p := if_pos h
theorem adSet_ne {ad : Nat → Addr} {i : Nat} {p : Addr} {j : Nat} (h : j ≠ i) : adSet ad i p j = ad j := if_neg h
/-- a new object, owned -/
theorem Rel.setOwn (R : Rel K c ad n σ H env) {i : Nat} {p : Addr} {u : HO} {o : Ob} (hp : H p = none) (e : EStp c H H' n') (hu : H' p = some u) (r : RepO K c.bg (cut (fun a => Oa c ad env a ∨ a = p) H') p u o) :
    Rel K c (adSet ad i p) n' (σ.set i (some (.ref p))) H' (env.set i (.own o)) := by
  have R' := R.step e
  have pb : ¬ c.isBag p := fun ⟨l, eb⟩ => by
    obtain ⟨⟨ns, q, r', m, k, h1, _⟩, _⟩ := R.bag _ _ eb
    rw [hp] at h1; cases h1
  have pO : ¬ Oa c ad env p := R.free hp
  have ne : ∀ j, Own env j → ad j ≠ p := fun j hj z => pO (.inr ⟨j, hj, z.symm⟩)
  have oa : ∀ a, Oa c (adSet ad i p) (env.set i (.own o)) a → Oa c ad env a ∨ a = p := fun a h => by
    rcases h with h | ⟨j, hj, rfl⟩
    · exact .inl (.inl h)
    · rcases own_set hj with ⟨z, _⟩ | ⟨z, hj⟩
      · exact .inr (by rw [adSet_same z])
      · rw [adSet_ne z]; exact .inl (.inr ⟨j, hj, rfl⟩)
  have sm : Same (cut (fun a => Oa c ad env a ∨ a = p) H') (cut (Oa c (adSet ad i p) (env.set i (.own o))) H') := cut_mono fun a o h1 h2 => ⟨fun z => h1 (oa a z), h2⟩
  have sm0 : Same (cut (Oa c ad env) H) (cut (Oa c (adSet ad i p) (env.set i (.own o))) H') := cut_mono fun a u h1 h2 => by
    have hb : ¬ c.isBag a := fun z => h1 (R.oaB a z)
    refine ⟨fun z => ?_, e.keep a u h2 hb⟩
    rcases oa a z with z | z
    · exact h1 z
    · rw [z, hp] at h2; cases h2
  refine ⟨by rw [List.length_set, List.length_set]; exact R.len, R'.base, R'.dom, R'.bag, fun j k h1 h2 ejk => ?_, fun j h1 => ?_, fun j h1 => ?_, fun j sd ej => ?_, R'.ex0⟩
  · rcases own_set h1 with ⟨z1, _⟩ | ⟨z1, h1⟩ <;> rcases own_set h2 with ⟨z2, _⟩ | ⟨z2, h2⟩
    · rw [z1, z2]
    · rw [adSet_same z1, adSet_ne z2] at ejk; exact absurd ejk.symm (ne k h2)
    · rw [adSet_ne z1, adSet_same z2] at ejk; exact absurd ejk (ne j h1)
    · rw [adSet_ne z1, adSet_ne z2] at ejk; exact R.inj j k h1 h2 ejk
  · rcases own_set h1 with ⟨z1, _⟩ | ⟨z1, h1⟩
    · rw [adSet_same z1]
      cases q : c.H0 p with
      | none => rfl
      | some o' => have := R.base p o' q pb; rw [hp] at this; cases this
    · rw [adSet_ne z1]; exact R.fresh j h1
  · rcases own_set h1 with ⟨z1, _⟩ | ⟨z1, h1⟩
    · rw [adSet_same z1]; exact fun z => R.dom p z hp
    · rw [adSet_ne z1]; exact R.notO j h1
  · by_cases z : j = i
    · subst z
      by_cases hl : j < env.length
      · rw [List.getElem?_set_self hl] at ej
        obtain rfl := Option.some.inj ej
        refine ⟨?_, u, ?_, by rw [adSet_same rfl]; exact r.same sm⟩
        · rw [List.getElem?_set_self (Nat.lt_of_lt_of_le hl R.len), adSet_same rfl]
        · rw [adSet_same rfl]; exact hu
      · rw [List.getElem?_eq_none (by simpa using hl)] at ej; cases ej
    · rw [List.getElem?_set_ne (Ne.symm z)] at ej
      have := R.slot j sd ej
      cases sd with
      | un => trivial
      | val d =>
        obtain ⟨v, h1, h2⟩ := this
        exact ⟨v, by rw [List.getElem?_set_ne (Ne.symm z)]; exact h1, h2.same sm0⟩
      | own o' =>
        obtain ⟨h1, u', h2, h3⟩ := this
        refine ⟨by rw [List.getElem?_set_ne (Ne.symm z), adSet_ne z]; exact h1, u', ?_, by rw [adSet_ne z]; exact h3.same sm0⟩
        rw [adSet_ne z]
        exact e.keep _ _ h2 (R.nbag ⟨o', ej⟩)
/-- an owned object changed -/
theorem Rel.change (R : Rel K c ad n σ H env) {i : Nat} {u : HO} {o o' : Ob} (e : env[i]? = some (.own o)) (r : RepO K c.bg (cut (Oa c ad env) H) (ad i) u o') : Rel K c ad n σ (upd H (ad i) u) (env.set i (.own o')) := by
  have hi : Own env i := ⟨o, e⟩
  have il : i < env.length := (List.getElem?_eq_some_iff.1 e).1
  have ow : ∀ j, Own (env.set i (.own o')) j ↔ Own env j := fun j => by
    constructor
    · intro h
      rcases own_set h with ⟨z, _⟩ | ⟨_, h⟩
      · rw [z]; exact hi
      · exact h
    · intro h
      by_cases z : j = i
      · rw [z]; exact ⟨o', by rw [List.getElem?_set_self il]⟩
      · exact own_set_ne z h
  have oa : Oa c ad (env.set i (.own o')) = Oa c ad env := by
    funext a
    unfold Oa
    exact propext ⟨fun h => h.imp id fun ⟨j, hj, ej⟩ => ⟨j, (ow j).1 hj, ej⟩, fun h => h.imp id fun ⟨j, hj, ej⟩ => ⟨j, (ow j).2 hj, ej⟩⟩
  have cu : cut (Oa c ad env) (upd H (ad i) u) = cut (Oa c ad env) H := cut_upd (.inr ⟨i, hi, rfl⟩)
  have neb : ∀ b l, c.bg = some (b, l) → b ≠ ad i ∧ l ≠ ad i := fun b l eb => ⟨fun z => R.notO i hi (by rw [← z]; exact (R.bag _ _ eb).2.1), fun z => R.notO i hi (by rw [← z]; exact (R.bag _ _ eb).2.2)⟩
  refine ⟨by rw [List.length_set]; exact R.len, fun a u' h hb => ?_, fun a ha => ?_, fun b l eb => ?_, fun j k h1 h2 ejk => R.inj j k ((ow j).1 h1) ((ow k).1 h2) ejk, fun j h => R.fresh j ((ow j).1 h), fun j h => R.notO j ((ow j).1 h), fun j sd ej => ?_, fun a ha => ?_⟩
  · rw [upd_ne (fun z => by rw [z, R.fresh i hi] at h; cases h)]
    exact R.base a u' h hb
  · rw [upd_ne (fun z => R.notO i hi (by rw [← z]; exact ha))]
    exact R.dom a ha
  · obtain ⟨⟨ns, q, r', m, k, h1, h2, h3⟩, h4, h5⟩ := R.bag _ _ eb
    obtain ⟨n1, n2⟩ := neb b l eb
    exact ⟨⟨ns, q, r', m, k, by rw [upd_ne n1]; exact h1, by rw [upd_ne n2]; exact h2, h3⟩, h4, h5⟩
  · by_cases z : j = i
    · subst z
      rw [List.getElem?_set_self il] at ej
      obtain rfl := Option.some.inj ej
      have sl := R.slot j _ e
      refine ⟨sl.1, u, upd_same, ?_⟩
      rw [oa, cu]
      exact r
    · rw [List.getElem?_set_ne (Ne.symm z)] at ej
      have sl := R.slot j sd ej
      cases sd with
      | un => trivial
      | val d =>
        obtain ⟨v, h1, h2⟩ := sl
        refine ⟨v, h1, ?_⟩
        rw [oa, cu]
        exact h2
      | own o2 =>
        obtain ⟨h1, u2, h2, h3⟩ := sl
        refine ⟨h1, u2, ?_, ?_⟩
        · rw [upd_ne (fun q => z (R.inj j i ⟨o2, ej⟩ hi q))]
          exact h2
        · rw [oa, cu]
          exact h3
  · by_cases z : a = ad i
    · rw [z, upd_same]; exact fun z => nomatch z
    · rw [upd_ne z]; exact R.ex0 a ha
end
end Dv

set_option Elab.async false
set_option linter.all false
set_option maxRecDepth 100000
set_option maxHeartbeats 4000000
/-! Dv5: statements, targets, loops by value -/
namespace Dv
open PySem PySem.Spec PyProof.Rows L2
section
variable {X : Cx} {Y : XI} {st : Stmt} {rest : List Stmt} {w u : WS} {we : WE} {wo : WO} {wt : WT} {e : Expr} {pos : Pos}
theorem DS.of {t : TS} (h : PS X st t) (k : ∀ D σ H, lS X.K Y w D σ H → t D σ H) : DS X Y st w := ⟨psImp h k⟩
def wNx : WS := fun D env n => D.nx env n
def wSeq (w u : WS) : WS := fun D env n => w { D with nx := u D } env n
theorem dss_nil : DSs X Y [] wNx := ⟨pssImp pss_nil fun E σ H ⟨c, ad, n, env, D0, R, q0, S⟩ => S.nx _ _ q0 _ _ _ R⟩
theorem dss_cons (h : DS X Y st w) (k : DSs X Y rest u) : DSs X Y (st :: rest) (wSeq w u) := ⟨pssImp (pss_cons h.ps k.ps) fun E σ H ⟨c, ad, n, env, D0, R, q0, S⟩ =>
  ⟨c, ad, n, env, _, R, q0, ⟨fun env n h σ H ad R => ⟨c, ad, n, env, D0, R, h, S⟩, S.bk, S.ct, S.rt, S.rf, S.ex, S.h0⟩⟩⟩
theorem dss_one (h : DS X Y st w) : DSs X Y [st] w := ⟨pss_one h.ps⟩
/-- a statement, then the rest, with a word between them -/
def wCut (w u : WS) : WS := fun D env n => ∃ Mid : En → Nat → Prop, w { D with nx := Mid } env n ∧ ∀ env n, Mid env n → u D env n
theorem dss_cut (h : DS X Y st w) (k : DSs X Y rest u) : DSs X Y (st :: rest) (wCut w u) := ⟨pssImp (pss_cons h.ps k.ps) fun E σ H ⟨c, ad, n, env, D0, R, ⟨Mid, q0, q1⟩, S⟩ =>
  ⟨c, ad, n, env, _, R, q0, ⟨fun env n h σ H ad R => ⟨c, ad, n, env, D0, R, q1 _ _ h, S⟩, S.bk, S.ct, S.rt, S.rf, S.ex, S.h0⟩⟩⟩
def wPass : WS := wNx
theorem ds_pass : DS X Y (.Pass pos) wNx := .of ps_pass fun E σ H ⟨c, ad, n, env, D0, R, q0, S⟩ => S.nx _ _ q0 _ _ _ R
theorem ds_doc {x j pos'} : DS X Y (.Expr (.Constant (.str x) j pos) pos') wNx := .of ps_doc fun E σ H ⟨c, ad, n, env, D0, R, q0, S⟩ => S.nx _ _ q0 _ _ _ R
def wBk : WS := fun D env n => D.bk env n
def wCt : WS := fun D env n => D.ct env n
theorem ds_break : DS X Y (.Break pos) wBk := .of ps_break fun E σ H ⟨c, ad, n, env, D0, R, q0, S⟩ => S.bk _ _ q0 _ _ _ R
theorem ds_cont : DS X Y (.Continue pos) wCt := .of ps_continue fun E σ H ⟨c, ad, n, env, D0, R, q0, S⟩ => S.ct _ _ q0 _ _ _ R
def wDrop (we : WE) : WS := fun D env n => we env n fun _ n1 => D.nx env n1
theorem ds_expr (h : DE X e we) (hs : swapsWith e none pos.line X.env = pure false := by rfl) : DS X Y (.Expr e pos) (wDrop we) := .of (ps_expr h.pe hs) fun E σ H ⟨c, ad, n, env, D0, R, q0, S⟩ =>
  ⟨c, ad, n, env, _, R, q0, fun d n1 q1 v H1 e1 r1 => S.nx _ _ q1 _ _ _ (R.step e1)⟩
/-- what is handed back leans on nothing of one's own -/
theorem Rel.back {K : PySem.W.Frag} {c : Ctx} {ad : Nat → Addr} {n n' : Nat} {σ : L2.St} {H H' : Hp} {env : En} (R : Rel K c ad n σ H env) (e : EStp c H H' n') : ∀ a o, c.H0 a = some o → ¬ c.isBag a → H' a = some o := (R.step e).base
theorem oa_ge {c : Ctx} {ad : Nat → Addr} {env : En} {H : Hp} : Same (cut (Oa c ad env) H) (cut c.O0 H) := cut_mono fun a o h1 h2 => ⟨fun z => h1 (.inl z), h2⟩
def wRet (we : WE) : WS := fun D env n => we env n D.rt
theorem ds_ret (h : DE X e we) : DS X Y (.Return (some e) pos) (wRet we) := .of (ps_ret h.pe) fun E σ H ⟨c, ad, n, env, D0, R, q0, S⟩ =>
  ⟨c, ad, n, env, _, R, q0, fun d n1 q1 v H1 e1 r1 => S.rt _ _ q1 _ _ (R.back e1) e1.bag (r1.same oa_ge)⟩
def wRetN : WS := fun D _ n => D.rt .non n
theorem ds_retN : DS X Y (.Return none pos) wRetN := .of ps_retN fun E σ H ⟨c, ad, n, env, D0, R, q0, S⟩ => S.rt _ _ q0 _ _ R.base R.bag .non
/-- return x, x owned: it is handed over -/
def wRetO (i : Nat) : WS := fun D env n => ∃ s d, env[i]? = some s ∧ s.get = some d ∧ D.rt d n
theorem ds_retO (i : Nat) {x : Str} {p : Pos} (hN : X.N[i]? = some x := by rfl) (hv : Vis X.env.scope x := by first | exact Or.inl rfl | exact Or.inr (Or.inl rfl) | exact Or.inr (Or.inr rfl)) (hd : (x == ("__debug__" : Str)) = false := by decide)
    (hcd : (x == ("__classdict__" : Str)) = false := by decide) : DS X Y (.Return (some (.Name x p)) pos) (wRetO i) := .of (ps_ret (pe_var hN hv hd hcd)) fun E σ H ⟨c, ad, n, env, D0, R, ⟨s, d, es, eg, q0⟩, S⟩ => by
  cases s with
  | un => cases eg
  | val d' =>
    cases eg
    obtain ⟨v, h1, h2⟩ := R.slot i _ es
    exact ⟨v, h1, S.rt _ _ q0 _ _ R.base R.bag (h2.same oa_ge)⟩
  | own o =>
    cases eg
    have R2 := R.frz es
    have il : i < env.length := (List.getElem?_eq_some_iff.1 es).1
    obtain ⟨v, h1, h2⟩ := R2.slot i _ (List.getElem?_set_self il)
    exact ⟨v, h1, S.rt _ _ q0 _ _ R.base R.bag (h2.same oa_ge)⟩
/-- return of a new object -/
def wRetF (wo : WO) : WS := fun D env n => wo env n D.rf
theorem ds_retF (h : DF X e wo) : DS X Y (.Return (some e) pos) (wRetF wo) := .of (ps_ret h.pe) fun E σ H ⟨c, ad, n, env, D0, R, q0, S⟩ =>
  ⟨c, ad, n, env, _, R, q0, fun o n1 q1 p u H1 hp e1 hu r1 => S.rf _ _ q1 p u H1 (by
    cases z : c.H0 p with
    | none => rfl
    | some o' =>
      by_cases hb : c.isBag p
      · obtain ⟨l, eb⟩ := hb
        obtain ⟨⟨ns, q, r', m, k, h1, _⟩, _⟩ := R.bag _ _ eb
        rw [hp] at h1; cases h1
      · rw [R.base p o' z hb] at hp; cases hp) (R.back e1) e1.bag hu (r1.same (cut_mono fun a o h1 h2 => ⟨fun z => h1 (z.imp .inl id), h2⟩))⟩
/-- return x, x owned, as a new object -/
def wRetOF (i : Nat) : WS := fun D env n => ∃ o, env[i]? = some (.own o) ∧ D.rf o n
theorem ds_retOF (i : Nat) {x : Str} {p : Pos} (hN : X.N[i]? = some x := by rfl) (hv : Vis X.env.scope x := by first | exact Or.inl rfl | exact Or.inr (Or.inl rfl) | exact Or.inr (Or.inr rfl)) (hd : (x == ("__debug__" : Str)) = false := by decide)
    (hcd : (x == ("__classdict__" : Str)) = false := by decide) : DS X Y (.Return (some (.Name x p)) pos) (wRetOF i) := .of (ps_ret (pe_var hN hv hd hcd)) fun E σ H ⟨c, ad, n, env, D0, R, ⟨o, es, q0⟩, S⟩ => by
  obtain ⟨h1, u, h2, h3⟩ := R.slot i _ es
  refine ⟨_, h1, S.rf _ _ q0 (ad i) u H (R.fresh i ⟨o, es⟩) R.base R.bag h2 (h3.same (cut_mono fun a o' g1 g2 => ⟨fun z => ?_, g2⟩))⟩
  rcases z with z | z
  · exact g1 (.inl z)
  · exact g1 (.inr ⟨i, ⟨o, es⟩, z⟩)
def wSet (i : Nat) (we : WE) : WS := fun D env n => we env n fun d n1 => D.nx (env.set i (.val d)) n1
theorem ds_set {i : Nat} {x : Str} {pos' : Pos} (hN : X.N.Nodup) (hi : X.N[i]? = some x) (hx : Loc X.env.scope x) (h : DE X e we) (hs : swapsWith e (some (.Name x pos')) pos.line X.env = pure false := by rfl) (hf : X.fn x = true ∨ X.env.scope.names.lookup x = some .local := by first | exact .inl rfl | exact .inr rfl | assumption) :
    DS X Y (.Assign [.Name x pos'] e pos) (wSet i we) := .of (ps_set hN hi hx h.pe hs hf) fun E σ H ⟨c, ad, n, env, D0, R, q0, S⟩ =>
  ⟨c, ad, n, env, _, R, q0, fun d n1 q1 v H1 e1 r1 => S.nx _ _ q1 _ _ _ ((R.step e1).set r1)⟩
def wOwn (i : Nat) (wo : WO) : WS := fun D env n => wo env n fun o n1 => D.nx (env.set i (.own o)) n1
theorem ds_own {i : Nat} {x : Str} {pos' : Pos} (hN : X.N.Nodup) (hi : X.N[i]? = some x) (hx : Loc X.env.scope x) (h : DF X e wo) (hs : swapsWith e (some (.Name x pos')) pos.line X.env = pure false := by rfl) (hf : X.fn x = true ∨ X.env.scope.names.lookup x = some .local := by first | exact .inl rfl | exact .inr rfl | assumption) :
    DS X Y (.Assign [.Name x pos'] e pos) (wOwn i wo) := .of (ps_set hN hi hx h.pe hs hf) fun E σ H ⟨c, ad, n, env, D0, R, q0, S⟩ =>
  ⟨c, ad, n, env, _, R, q0, fun o n1 q1 p u H1 hp e1 hu r1 => S.nx _ _ q1 _ _ _ (R.setOwn hp e1 hu r1)⟩
/-- an owned slot becomes a value, ahead of a statement -/
def frzE (i : Nat) (env : En) : En := match env[i]? with
  | some (.own o) => env.set i (.val o.d)
  | _ => env
theorem Rel.frzE {K : PySem.W.Frag} {c : Ctx} {ad : Nat → Addr} {n : Nat} {σ : L2.St} {H : Hp} {env : En} (R : Rel K c ad n σ H env) (i : Nat) : Rel K c ad n σ H (frzE i env) := by
  unfold Dv.frzE
  split
  · rename_i o e; exact R.frz e
  · exact R
theorem ds_frz (i : Nat) (h : DS X Y st w) : DS X Y st (fun D env n => w D (frzE i env) n) := .of h.ps fun E σ H ⟨c, ad, n, env, D0, R, q0, S⟩ => ⟨c, ad, n, _, D0, R.frzE i, q0, S⟩
theorem dss_frz (i : Nat) (h : DSs X Y rest w) : DSs X Y rest (fun D env n => w D (frzE i env) n) := ⟨pssImp h.ps fun E σ H ⟨c, ad, n, env, D0, R, q0, S⟩ => ⟨c, ad, n, _, D0, R.frzE i, q0, S⟩⟩
def wIf (wt : WT) (w u : WS) : WS := fun D env n => wt env n fun k n1 => if k = true then w D env n1 else u D env n1
theorem ds_if {a b : List Stmt} (hc : DT X e wt) (ha : DSs X Y a w) (hb : DSs X Y b u) : DS X Y (.If e a b pos) (wIf wt w u) := .of (ps_if hc.pt ha.ps hb.ps) fun E σ H ⟨c, ad, n, env, D0, R, q0, S⟩ =>
  ⟨c, ad, n, env, _, R, q0, fun k n1 q1 H1 e1 => by
    cases k with
    | true => rw [if_pos rfl] at q1 ⊢; exact ⟨c, ad, n1, env, D0, R.step e1, q1, S⟩
    | false => rw [if_neg Bool.false_ne_true] at q1 ⊢; exact ⟨c, ad, n1, env, D0, R.step e1, q1, S⟩⟩
/-- never come to -/
theorem dss_never {sts : List Stmt} : DSs X Y sts (fun _ _ _ => False) := ⟨pssImp pss_never fun E σ H ⟨c, ad, n, env, D0, R, q0, S⟩ => q0⟩
theorem ds_never : DS X Y st (fun _ _ _ => False) := .of ps_never fun E σ H ⟨c, ad, n, env, D0, R, q0, S⟩ => q0
/-! ### owned lists changed -/
theorem rel_own_lst {K : PySem.W.Frag} {c : Ctx} {ad : Nat → Addr} {n : Nat} {σ : L2.St} {H : Hp} {env : En} {i : Nat} {xs : List D} (R : Rel K c ad n σ H env) (h : env[i]? = some (.own (.lst xs))) :
    ∃ vs, σ[i]? = some (some (.ref (ad i))) ∧ H (ad i) = some (.lst vs) ∧ vs.length ≤ sizeLine ∧ RepL K c.bg (cut (Oa c ad env) H) vs xs := by
  obtain ⟨h1, u, h2, h3⟩ := R.slot i _ h
  cases h3 with
  | lst hl r => exact ⟨_, h1, h2, hl, r⟩
def wAppend (i : Nat) (we : WE) : WS := fun D env n => ∃ xs, env[i]? = some (.own (.lst xs)) ∧ we env n fun d n1 => xs.length < sizeLine ∧ D.nx (env.set i (.own (.lst (xs ++ [d])))) n1
theorem ds_append (i : Nat) {x : Str} {p apos cpos : Pos} (h : DE X e we) (hN : X.N[i]? = some x := by rfl) (hv : Vis X.env.scope x := by first | exact Or.inl rfl | exact Or.inr (Or.inl rfl) | exact Or.inr (Or.inr rfl)) (hd : (x == ("__debug__" : Str)) = false := by decide)
    (hcd : (x == ("__classdict__" : Str)) = false := by decide) (hs : swapsWith (.Call (.Attribute (.Name x p) "append" apos) [e] [] cpos) none pos.line X.env = pure false := by rfl)
    (hbase : attributeBase (.Name x p) "append" X.env (eval (.Name x p) X.env) = eval (.Name x p) X.env := by rfl)
    (hfew : ((backTo cpos (starEach (e :: []) X.env)).all (fun x => !x.1) && (backToKw cpos (keywordEach [] X.env)).all (fun x => x.1.isSome)
      && decide ((e :: ([] : List Expr)).length + ([] : List Keyword).length + (if ([] : List Keyword).isEmpty then 0 else 1) < 30)) = true := by rfl)
    (hline : (apos.endLine == cpos.line) = true := by rfl) (hst : starEach (e :: []) X.env = (false, eval e X.env) :: starEach [] X.env := by rfl) (hplain : (backTo cpos (starEach [] X.env)).any (·.1) = false := by rfl) :
    DS X Y (.Expr (.Call (.Attribute (.Name x p) "append" apos) [e] [] cpos) pos) (wAppend i we) :=
  .of (ps_expr (pe_bm PySem.F.plainAttrs_list PySem.F.slot_list_append PySem.F.type_list_append mt_append (pe_var hN hv hd hcd) (pa_cons h.pe pa_nil hst) hbase hfew hline hst hplain) hs) fun E σ H ⟨c, ad, n, env, D0, R, ⟨xs, hx, q0⟩, S⟩ => by
    obtain ⟨vs, h1, h2, hl, r⟩ := rel_own_lst R hx
    refine ⟨_, h1, .inl ⟨rfl, _, .inl (.inl h2)⟩, ⟨c, ad, n, env, _, R, q0, fun d n1 ⟨hz, q1⟩ v H1 e1 r1 => ?_⟩⟩
    have R1 := R.step e1
    obtain ⟨vs, h1, h2, hl, r⟩ := rel_own_lst R1 hx
    have hl2 := r.len
    refine ⟨ad i, vs, v, rfl, rfl, h2, by omega, S.nx _ _ q1 _ _ _ (R1.change hx (.lst (by rw [List.length_append]; show vs.length + 1 ≤ _; omega) (r.app (.cons r1 .nil))))⟩
def wReverse (i : Nat) : WS := fun D env n => ∃ xs, env[i]? = some (.own (.lst xs)) ∧ D.nx (env.set i (.own (.lst xs.reverse))) n
theorem ds_reverse (i : Nat) {x : Str} {p apos cpos : Pos} (hN : X.N[i]? = some x := by rfl) (hv : Vis X.env.scope x := by first | exact Or.inl rfl | exact Or.inr (Or.inl rfl) | exact Or.inr (Or.inr rfl)) (hd : (x == ("__debug__" : Str)) = false := by decide)
    (hcd : (x == ("__classdict__" : Str)) = false := by decide) (hs : swapsWith (.Call (.Attribute (.Name x p) "reverse" apos) [] [] cpos) none pos.line X.env = pure false := by rfl)
    (hbase : attributeBase (.Name x p) "reverse" X.env (eval (.Name x p) X.env) = eval (.Name x p) X.env := by rfl) (hline : (apos.endLine == cpos.line) = true := by rfl) :
    DS X Y (.Expr (.Call (.Attribute (.Name x p) "reverse" apos) [] [] cpos) pos) (wReverse i) :=
  .of (ps_expr (pe_bm0 PySem.F.plainAttrs_list PySem.F.slot_list_reverse PySem.F.type_list_reverse mt_reverse (pe_var hN hv hd hcd) hbase hline) hs) fun E σ H ⟨c, ad, n, env, D0, R, ⟨xs, hx, q0⟩, S⟩ => by
    obtain ⟨vs, h1, h2, hl, r⟩ := rel_own_lst R hx
    exact ⟨_, h1, .inl ⟨rfl, _, .inl (.inl h2)⟩, ad i, vs, rfl, rfl, h2, S.nx _ _ q0 _ _ _ (R.change hx (.lst (by rw [List.length_reverse]; exact hl) r.rev))⟩
/-- x[j] = e -/
def wPutI (i : Nat) (wj we : WE) : WS := fun D env n => ∃ xs, env[i]? = some (.own (.lst xs)) ∧ we env n fun d n1 => wj env n1 fun j n2 => ∃ k m, j = .int k ∧ ixN xs.length k = some m ∧ D.nx (env.set i (.own (.lst (xs.set m d)))) n2
theorem ds_putI (i : Nat) {x : Str} {p spos : Pos} {j : Expr} {wj : WE} (hj : DE X j wj) (h : DE X e we) (hN : X.N[i]? = some x := by rfl) (hv : Vis X.env.scope x := by first | exact Or.inl rfl | exact Or.inr (Or.inl rfl) | exact Or.inr (Or.inr rfl)) (hd : (x == ("__debug__" : Str)) = false := by decide)
    (hcd : (x == ("__classdict__" : Str)) = false := by decide)
    (ha : ∀ v, assign (.Subscript (.Name x p) j spos) X.env v = (do
      let ov ← holding [v] (eval (.Name x p) X.env)
      let iv ← holding [v, ov] (eval j X.env)
      standAt spos
      holding [v, ov, iv] (setItem ov iv v)
      release [v, ov, iv] []) := by intro _; rfl)
    (hs : swapsWithSole [.Subscript (.Name x p) j spos] e pos.line X.env = pure false := by rfl) (hw : swappedStores [.Subscript (.Name x p) j spos] e X.env = pure none := by rfl)
    (h1 : (assignEach [.Subscript (.Name x p) j spos] X.env).map (·.2) = [assign (.Subscript (.Name x p) j spos) X.env] := by rfl) : DS X Y (.Assign [.Subscript (.Name x p) j spos] e pos) (wPutI i wj we) :=
  .of (ps_asg h.pe (pg_sub (pe_var hN hv hd hcd) hj.pe set_list ha) hs hw h1) fun E σ H ⟨c, ad, n, env, D0, R, ⟨xs, hx, q0⟩, S⟩ =>
    ⟨c, ad, n, env, _, R, q0, fun d n1 q1 v H1 e1 r1 => by
      obtain ⟨_, g1, _⟩ := rel_own_lst (R.step e1) hx
      refine ⟨_, g1, ⟨c, ad, n1, env, _, R.step e1, q1, fun j n2 ⟨k, m, ej, hm, q2⟩ vj H2 e2 r2 => ?_⟩⟩
      subst ej
      cases r2
      have R2 := (R.step e1).step e2
      obtain ⟨vs, h1, h2, hl, r⟩ := rel_own_lst R2 hx
      exact ⟨ad i, vs, k, m, rfl, rfl, h2, by rw [r.len]; exact hm, S.nx _ _ q2 _ _ _ (R2.change hx (.lst (by rw [List.length_set]; exact hl) (r.set m (r1.same (e2.cut R.oaB)))))⟩⟩
/-! ### targets -/
abbrev WG := D → En → (En → Prop) → Prop
def lG (K : PySem.W.Frag) (vs : List Nat) (w : WG) : TG := fun v σ H Q => ∃ c ad n env d Q0, Rel K c ad n σ H env ∧ Rep K c.bg (cut (Oa c ad env) H) v d ∧ w d env Q0 ∧ ∀ env', Q0 env' → (∀ j, j ∉ vs → env'[j]? = env[j]?) → ∀ σ', wipe σ' vs = wipe σ vs → Rel K c ad n σ' H env' → Q σ' H
structure DG (X : Cx) (t : Expr) (vs : List Nat) (w : WG) : Prop where
  pg : PG X t (lG X.K vs w)
theorem pgImp {t : Expr} {g g' : TG} (h : PG X t g) (k : ∀ v σ H Q, g' v σ H Q → g v σ H Q) : PG X t g' := ⟨fun pins s σ H v u Q I r q => h.run pins s σ H v u Q I r (k _ _ _ _ q)⟩
def gNm (i : Nat) : WG := fun d env Q => Q (env.set i (.val d))
theorem wipe_set {σ : L2.St} {i : Nat} {x : Option V} : ∀ {vs : List Nat}, i ∈ vs → wipe (σ.set i x) vs = wipe σ vs
  | v :: vs, h => by
    unfold wipe
    by_cases z : i ∈ vs
    · rw [wipe_set z]
    · have : i = v := by
        rcases List.mem_cons.1 h with h | h
        · exact h
        · exact absurd h z
      subst this
      have key : ∀ vs : List Nat, i ∉ vs → wipe (σ.set i x) vs = (wipe σ vs).set i x := by
        intro vs
        induction vs with
        | nil => intro _; rfl
        | cons v vs ih =>
          intro h
          rw [List.mem_cons, not_or] at h
          unfold wipe
          rw [ih h.2, List.set_comm _ _ h.1]
      rw [key vs z, List.set_set]
theorem dg_name {i : Nat} {x : Str} {vs : List Nat} (hN : X.N.Nodup) (hi : X.N[i]? = some x) (hx : Loc X.env.scope x) (hm : i ∈ vs := by decide) (hf : X.fn x = true ∨ X.env.scope.names.lookup x = some .local := by first | exact .inl rfl | exact .inr rfl | assumption) : DG X (.Name x pos) vs (gNm i) :=
  ⟨pgImp (pg_name hN hi hx hf) fun v σ H Q ⟨c, ad, n, env, d, Q0, R, r, q0, q⟩ => q _ q0 (fun j hj => List.getElem?_set_ne (fun z => hj (by rw [← z]; exact hm))) _ (wipe_set hm) (R.set r)⟩
abbrev WGs := List D → En → (En → Prop) → Prop
def lGs (K : PySem.W.Frag) (vs : List Nat) (w : WGs) : TGs := fun vl σ H Q => ∃ c ad n env ds Q0, ∃ (σ0 : L2.St) (env0 : En), Rel K c ad n σ H env ∧ (wipe σ vs = wipe σ0 vs ∧ ∀ j, j ∉ vs → env[j]? = env0[j]?) ∧ RepL K c.bg (cut (Oa c ad env) H) vl ds ∧ w ds env Q0 ∧ ∀ env', Q0 env' → (∀ j, j ∉ vs → env'[j]? = env0[j]?) → ∀ σ', wipe σ' vs = wipe σ0 vs → Rel K c ad n σ' H env' → Q σ' H
structure DGs (X : Cx) (t : List Expr) (vs : List Nat) (w : WGs) : Prop where
  pgs : PGs X t (lGs X.K vs w)
theorem pgsImp {t : List Expr} {g g' : TGs} (h : PGs X t g) (k : ∀ v σ H Q, g' v σ H Q → g v σ H Q) : PGs X t g' := ⟨fun pins s σ H v u Q I r q => h.run pins s σ H v u Q I r (k _ _ _ _ q)⟩
def gsNil : WGs := fun ds env Q => ds = [] ∧ Q env
def gsName (i : Nat) (w : WGs) : WGs := fun ds env Q => ∃ d r, ds = d :: r ∧ w r (env.set i (.val d)) Q
theorem dgs_nil {vs : List Nat} : DGs X [] vs gsNil := ⟨pgsImp pgs_nil fun vl σ H Q ⟨c, ad, n, env, ds, Q0, σ0, env0, R, hw, r, ⟨ed, q0⟩, q⟩ => by
  subst ed
  cases r
  exact ⟨rfl, q _ q0 hw.2 _ hw.1 R⟩⟩
theorem dgs_name {i : Nat} {x : Str} {p : Pos} {es : List Expr} {vs : List Nat} {w : WGs} (hN : X.N.Nodup) (hi : X.N[i]? = some x) (hx : Loc X.env.scope x) (k : DGs X es vs w) (hm : i ∈ vs := by decide) (hf : X.fn x = true ∨ X.env.scope.names.lookup x = some .local := by first | exact .inl rfl | exact .inr rfl | assumption)
    (hs : (assignEach (.Name x p :: es) X.env).map (·.2) = assign (.Name x p) X.env :: (assignEach es X.env).map (·.2) := by rfl) : DGs X (.Name x p :: es) vs (gsName i w) :=
  ⟨pgsImp (pgs_cons (pg_name hN hi hx hf) k.pgs hs) fun vl σ H Q ⟨c, ad, n, env, ds, Q0, σ0, env0, R, hw, r, ⟨d, rr, ed, q0⟩, q⟩ => by
    subst ed
    cases r with
    | @cons v _ vr _ r1 r2 =>
      have oal : ∀ a, Oa c ad (env.set i (.val d)) a → Oa c ad env a := fun a => oa_less (fun o z => by cases z)
      exact ⟨v, vr, rfl, c, ad, n, _, rr, Q0, σ0, env0, R.set r1, ⟨(wipe_set hm).trans hw.1, fun j hj => (List.getElem?_set_ne (fun z => hj (by rw [← z]; exact hm))).trans (hw.2 j hj)⟩, r2.same (cut_mono fun a o h1 h2 => ⟨fun z => h1 (oal a z), h2⟩), q0, q⟩⟩
def gTp (k : Nat) (w : WGs) : WG := fun d env Q => ∃ ds, d = .tup ds ∧ ds.length = k ∧ w ds env Q
theorem dg_tup {es : List Expr} {kx : Nat} {vs : List Nat} {w : WGs} {k : Nat} (h : DGs X es vs w) (hc : X.calm = true := by rfl) (hn : (assignEach es X.env).length = k := by rfl) (hst : (assignEach es X.env).findIdx? (·.1) = none := by rfl) : DG X (.Tuple es kx pos) vs (gTp k w) :=
  ⟨pgImp (pg_tup hc h.pgs hn hst) fun v σ H Q ⟨c, ad, n, env, d, Q0, R, r, ⟨ds, ed, hl, q0⟩, q⟩ => by
    subst ed
    cases r with
    | @tup a ws _ hs _ r => exact ⟨a, ws, rfl, sqt_same cut_le hs, by rw [r.len]; exact hl, c, ad, n, env, ds, Q0, σ, env, R, ⟨rfl, fun _ _ => rfl⟩, r, q0, q⟩⟩
/-- a, b = e -/
def wAsg (we : WE) (g : WG) : WS := fun D env n => we env n fun d n1 => g d env fun env' => D.nx env' n1
theorem ds_asg {tg : Expr} {g : WG} {vs : List Nat} (h : DE X e we) (hg : DG X tg vs g) (hs : swapsWithSole [tg] e pos.line X.env = pure false := by rfl) (hw : swappedStores [tg] e X.env = pure none := by rfl)
    (h1 : (assignEach [tg] X.env).map (·.2) = [assign tg X.env] := by rfl) : DS X Y (.Assign [tg] e pos) (wAsg we g) :=
  .of (ps_asg h.pe hg.pg hs hw h1) fun E σ H ⟨c, ad, n, env, D0, R, q0, S⟩ => ⟨c, ad, n, env, _, R, q0, fun d n1 q1 v H1 e1 r1 => ⟨c, ad, n1, env, d, _, R.step e1, r1, q1, fun env' q2 _ σ' _ R' => S.nx _ _ q2 _ _ _ R'⟩⟩
/-- a, b = e1, e2 with plain local names -/
def wPar (i j : Nat) (w : WA) : WS := fun D env n => w env n fun ds n1 => ∃ d e, ds = [d, e] ∧ D.nx ((env.set i (.val d)).set j (.val e)) n1
end
end Dv

set_option Elab.async false
set_option linter.all false
set_option maxRecDepth 100000
set_option maxHeartbeats 4000000
/-! Dv6: what is walked, by value; for, while, comprehensions -/
namespace Dv
open PySem PySem.Spec PyProof.Rows L2 RZ
/-- what is walked yields ys, one after another, as long as what was shared at H1 stays -/
structure Yl (K : PySem.W.Frag) (bg : Option (Addr × Addr)) (O1 : Addr → Prop) (H1 : Hp) (J : It) (ys : List D) : Prop where
  stop : ∀ H2, Same (cut O1 H1) H2 → J.stop ys.length H2
  go : ∀ i H2, Same (cut O1 H1) H2 → i < ys.length → J.go i H2
  yld : ∀ i H2 x H3, i < ys.length → Same (cut O1 H1) H2 → J.yld i H2 x H3 → ∃ y, ys[i]? = some y ∧ Same H2 H3 ∧ ∀ O2 : Addr → Prop, (∀ a, O2 a → H2 a ≠ none) → (∀ a o, cut O1 H1 a = some o → ¬ O2 a) → Rep K bg (cut O2 H3) x y
abbrev WI := En → Nat → (List D → Nat → Prop) → Prop
def lI (K : PySem.W.Frag) (w : WI) : TI := fun σ H R => ∃ c ad n env Y0, Rel K c ad n σ H env ∧ w env n Y0 ∧ ∀ ys n', Y0 ys n' → ∀ H' J, EStp c H H' n' → Yl K c.bg (Oa c ad env) H' J ys → R J H'
structure DI (X : Cx) (tg iter : Expr) (w : WI) : Prop where
  pi : PI X tg iter (lI X.K w)
section
variable {X : Cx} {Y : XI} {tg iter e : Expr} {pos : Pos} {we wa wb : WE} {wt wu : WT} {w u : WS} {wi : WI}
theorem DI.of {t : TI} (h : PI X tg iter t) (k : ∀ σ H R, lI X.K wi σ H R → t σ H R) : DI X tg iter wi := ⟨⟨fun pins s σ H R I q => h.run pins s σ H R I (k _ _ _ q)⟩⟩
theorem yl_list {K : PySem.W.Frag} {bg : Option (Addr × Addr)} {O : Addr → Prop} {H : Hp} {a : Addr} {vs : List V} {ys : List D} (ha : cut O H a = some (.lst vs)) (r : RepL K bg (cut O H) vs ys) : Yl K bg O H (Itl K a) ys := by
  have at_ : ∀ H2, Same (cut O H) H2 → SqL K H2 a vs := fun H2 sm => .inl (.inl (sm _ _ ha))
  refine ⟨fun H2 sm => ⟨vs, at_ H2 sm, by rw [r.len]; exact Nat.le_refl _⟩, fun i H2 sm hi => ⟨vs, vs[i]'(by rw [r.len]; exact hi), at_ H2 sm, by simp⟩, fun i H2 x H3 _ sm ⟨e, hx⟩ => ?_⟩
  subst e
  obtain ⟨y, h1, h2⟩ := r.get (hx vs (at_ _ sm))
  exact ⟨y, h1, .refl _, fun O2 _ hO => h2.same fun b o hb => by rw [cut_out (hO b o hb)]; exact sm b o hb⟩
theorem yl_tup {K : PySem.W.Frag} {bg : Option (Addr × Addr)} {O : Addr → Prop} {H : Hp} {a : Addr} {vs : List V} {ys : List D} (ha : SqT K (cut O H) a vs) (r : RepL K bg (cut O H) vs ys) : Yl K bg O H (Itt K a) ys := by
  have at_ : ∀ H2, Same (cut O H) H2 → SqT K H2 a vs := fun H2 sm => sqt_same sm ha
  refine ⟨fun H2 sm => ⟨vs, at_ H2 sm, by rw [r.len]; exact Nat.le_refl _⟩, fun i H2 sm hi => ⟨vs, vs[i]'(by rw [r.len]; exact hi), at_ H2 sm, by simp⟩, fun i H2 x H3 _ sm ⟨e, hx⟩ => ?_⟩
  subst e
  obtain ⟨y, h1, h2⟩ := r.get (hx vs (at_ _ sm))
  exact ⟨y, h1, .refl _, fun O2 _ hO => h2.same fun b o hb => by rw [cut_out (hO b o hb)]; exact sm b o hb⟩
/-- the signs of a text -/
def signsD (s : Str) : List D := s.cps.toList.map fun c => .str ⟨#[c]⟩
theorem yl_str {K : PySem.W.Frag} {bg : Option (Addr × Addr)} {O : Addr → Prop} {H : Hp} {s : Str} (g : GoodS s) : Yl K bg O H (Its s) (signsD s) := by
  have hl : (signsD s).length = s.length := by
    unfold signsD
    rw [List.length_map]
    exact Array.length_toList
  refine ⟨fun H2 sm => ?_, fun i H2 sm hi => ?_, fun i H2 x H3 hlt sm hy => ?_⟩
  · rw [hl]
    exact Nat.le_refl _
  · rw [hl] at hi
    exact hi
  · obtain ⟨e, c, hc, ex⟩ := hy
    have hc' : s.cps.toList[i]? = some c := by rw [Array.getElem?_toList]; exact hc
    subst ex
    refine ⟨.str ⟨#[c]⟩, ?_, by rw [e]; exact .refl _, fun O2 _ _ => .str (one_good g (List.mem_of_getElem? hc'))⟩
    unfold signsD
    rw [List.getElem?_map, hc']
    rfl
/-- a list, a tuple or a text walked -/
def D.seq : D → Option (List D)
  | .lst xs => some xs
  | .tup xs => some xs
  | .str s => some (signsD s)
  | _ => none
def wSeqI (we : WE) : WI := fun env n Q => we env n fun d n1 => ∃ ys, d.seq = some ys ∧ Q ys n1
theorem di_seq (h : DE X iter we) : DI X tg iter (wSeqI we) := by
  refine ⟨⟨fun pins s σ H R I q => ?_⟩⟩
  obtain ⟨c, ad, n, env, Y0, RL, q0, q⟩ := q
  refine thn (h.pe.run pins s σ H (fun v H1 => ∃ n1 d ys, EStp c H H1 n1 ∧ Rep X.K c.bg (cut (Oa c ad env) H1) v d ∧ d.seq = some ys ∧ Y0 ys n1) I ⟨c, ad, n, env, _, RL, q0, fun d n1 ⟨ys, ey, hy⟩ v H1 e1 r1 => ⟨n1, d, ys, e1, r1, ey, hy⟩⟩) fun v s1 hv => ?_
  obtain ⟨x, H1, I1, rv, n1, d, ys, e1, r1, ey, hy⟩ := hv
  have R1 := RL.step e1
  unfold D.seq at ey
  split at ey
  · cases ey
    cases r1 with
    | @lst a vs _ ha hl r =>
      have k := pi_list (X := X) (tg := tg) (l := iter) (tl := fun σ' H' Q' => False) ⟨fun _ _ _ _ _ _ z => z.elim⟩
      cases rv
      obtain ⟨its, rv, p, hz⟩ := I1.list (.inl (.inl (cut_le _ _ ha)))
      refine wpAny_pyIter_list p.isList ?_
      refine ⟨s1.heap.objs.size, [s1.heap.objs.size], _, _, H1, rfl, I1.kept (t' := s1.toks) fun b o e => Heap.get?_push_of_some _ e, turn_list a _, ⟨_, Heap.get?_push_size _ rfl, rfl, rfl⟩, fun b hb => ?_, q _ _ hy _ _ e1 (yl_list ha r)⟩
      have e : b = s1.heap.objs.size := by simpa using hb
      subst e
      exact I1.fpOk (Nat.le_refl _) (I1.hok.fresh (Nat.le_refl _))
  · cases ey
    cases r1 with
    | @tup a vs _ ha hl r =>
      cases rv
      obtain ⟨its, rv, p, hz⟩ := I1.tuple (sqt_same cut_le ha)
      refine wpAny_pyIter_tuple (show s1.heap.IsTuple a its.toArray from p) ?_
      refine ⟨s1.heap.objs.size, [s1.heap.objs.size], _, _, H1, rfl, I1.kept (t' := s1.toks) fun b o e => Heap.get?_push_of_some _ e, turn_tuple a _, ⟨_, Heap.get?_push_size _ rfl, rfl, rfl⟩, fun b hb => ?_, q _ _ hy _ _ e1 (yl_tup ha r)⟩
      have e : b = s1.heap.objs.size := by simpa using hb
      subst e
      exact I1.fpOk (Nat.le_refl _) (I1.hok.fresh (Nat.le_refl _))
  · cases ey
    cases r1 with
    | str g =>
      rename_i z
      obtain ⟨t, rfl⟩ := rv
      cases ha : z.cps.all (· < 128)
      · exact wpAny_pyIter_wide ha (pi_one (tk := s1.toks) I1 _ (turn_str _ z t "str_iterator" (.inr rfl)) ⟨_, Heap.get?_push_size _ rfl, rfl, rfl⟩ (q _ _ hy _ _ e1 (yl_str g)))
      · exact wpAny_pyIter_ascii ha (pi_one (tk := s1.toks) I1 _ (turn_str _ z t "str_ascii_iterator" (.inl rfl)) ⟨_, Heap.get?_push_size _ rfl, rfl, rfl⟩ (q _ _ hy _ _ e1 (yl_str g)))
  · cases ey
/-- range(a), range(a, b) -/
def rngD (lo : Int) (n : Nat) : List D := (List.range n).map fun k => .int (lo + (k : Nat))
theorem yl_rng {K : PySem.W.Frag} {bg : Option (Addr × Addr)} {O : Addr → Prop} {H : Hp} (lo : Int) (n : Nat) : Yl K bg O H (Itr lo n) (rngD lo n) := by
  have hl : (rngD lo n).length = n := by unfold rngD; simp
  refine ⟨fun H2 sm => ?_, fun i H2 sm hi => ?_, fun i H2 x H3 hlt sm hy => ?_⟩
  · rw [hl]; exact Nat.le_refl _
  · rw [hl] at hi; exact hi
  · obtain ⟨e, ex⟩ := hy
    subst e ex
    rw [hl] at hlt
    refine ⟨.int (lo + (i : Nat)), ?_, .refl _, fun O2 _ _ => .int _⟩
    unfold rngD
    rw [List.getElem?_map, List.getElem?_range hlt]
    rfl
def wRng1 (w : WA) : WI := fun env n Q => w env n fun ds n1 => ∃ j : Int, ds = [.int j] ∧ -(2 ^ 62) ≤ j ∧ j < 2 ^ 62 ∧ Q (rngD 0 j.toNat) n1
theorem RepL.ints1 {K : PySem.W.Frag} {bg : Option (Addr × Addr)} {H : Hp} {vs : List V} {i : Int} (h : RepL K bg H vs [.int i]) : vs = [.int i] := by
  cases h with
  | cons h t => cases h; cases t; rfl
theorem RepL.ints2 {K : PySem.W.Frag} {bg : Option (Addr × Addr)} {H : Hp} {vs : List V} {i j : Int} (h : RepL K bg H vs [.int i, .int j]) : vs = [.int i, .int j] := by
  cases h with
  | cons h t => cases h; cases t.ints1; rfl
theorem di_rng1 {a : Expr} {w : WA} {p : Pos} (hm : X.mg "range" = none) (ha : DA X [a] w) (hg : Gl X "range" := by rfl) (hs : starEach [a] X.env = [(false, eval a X.env)] := by rfl) : DI X tg (.Call (.Name "range" p) [a] [] pos) (wRng1 w) :=
  .of (pi_range1 hg hm ha.pa hs) fun σ H R ⟨c, ad, n, env, Y0, RL, q0, q⟩ => ⟨c, ad, n, env, _, RL, q0, fun ds n1 ⟨j, ed, h1, h2, q1⟩ vs H1 e1 r1 => by
    subst ed
    exact ⟨j, r1.ints1, h1, h2, q _ _ q1 _ _ e1 (yl_rng 0 j.toNat)⟩⟩
def wRng2 (w : WA) : WI := fun env n Q => w env n fun ds n1 => ∃ i j : Int, ds = [.int i, .int j] ∧ (-(2 ^ 62) ≤ i ∧ i < 2 ^ 62 ∧ -(2 ^ 62) ≤ j ∧ j < 2 ^ 62) ∧ Q (rngD i (j - i).toNat) n1
theorem di_rng2 {a b : Expr} {w : WA} {p : Pos} (hm : X.mg "range" = none) (ha : DA X [a, b] w) (hg : Gl X "range" := by rfl) (hs : starEach [a, b] X.env = [(false, eval a X.env), (false, eval b X.env)] := by rfl) (hs2 : starEach [b] X.env = [(false, eval b X.env)] := by rfl) : DI X tg (.Call (.Name "range" p) [a, b] [] pos) (wRng2 w) :=
  .of (pi_range2 hg hm ha.pa hs hs2) fun σ H R ⟨c, ad, n, env, Y0, RL, q0, q⟩ => ⟨c, ad, n, env, _, RL, q0, fun ds n1 ⟨i, j, ed, h1, q1⟩ vs H1 e1 r1 => by
    subst ed
    exact ⟨i, j, r1.ints2, h1, q _ _ q1 _ _ e1 (yl_rng i (j - i).toNat)⟩⟩
/-! ### new pairs walked: zip, enumerate -/
/-- a new tuple at T, of what stands there -/
theorem pair_new {K : PySem.W.Frag} {bg : Option (Addr × Addr)} {O2 : Addr → Prop} {H2 : Hp} {T : Addr} {x y : V} {d e : D} (hT : H2 T = none) (hO : ∀ a, O2 a → H2 a ≠ none) (hx : Rep K bg (cut O2 H2) x d) (hy : Rep K bg (cut O2 H2) y e) :
    Same H2 (upd H2 T (.tup [x, y])) ∧ Rep K bg (cut O2 (upd H2 T (.tup [x, y]))) (.ref T) (.tup [d, e]) :=
  rep_newT hO hT (by show 2 ≤ sizeLine; decide) (.cons hx (.cons hy .nil))
def zipD (xs ys : List D) : List D := (xs.zip ys).map fun p => .tup [p.1, p.2]
theorem zipD_len (xs ys : List D) : (zipD xs ys).length = min xs.length ys.length := by unfold zipD; rw [List.length_map, List.length_zip]
theorem zipD_get {xs ys : List D} {i : Nat} {x y : D} (hx : xs[i]? = some x) (hy : ys[i]? = some y) : (zipD xs ys)[i]? = some (.tup [x, y]) := by
  unfold zipD
  rw [List.getElem?_map, List.getElem?_zip_eq_some (z := (x, y)) |>.2 ⟨hx, hy⟩]
  rfl
theorem yl_zip {K : PySem.W.Frag} {bg : Option (Addr × Addr)} {O : Addr → Prop} {H : Hp} {a b : Addr} {vs ws : List V} {xs ys : List D} (ha : cut O H a = some (.lst vs)) (hb : cut O H b = some (.lst ws)) (r : RepL K bg (cut O H) vs xs) (r2 : RepL K bg (cut O H) ws ys) : Yl K bg O H (Itz K a b) (zipD xs ys) := by
  have at1 : ∀ H2, Same (cut O H) H2 → SqL K H2 a vs := fun H2 sm => .inl (.inl (sm _ _ ha))
  have at2 : ∀ H2, Same (cut O H) H2 → SqL K H2 b ws := fun H2 sm => .inl (.inl (sm _ _ hb))
  have l1 := r.len
  have l2 := r2.len
  refine ⟨fun H2 sm => ⟨vs, ws, at1 _ sm, at2 _ sm, by rw [zipD_len]; omega⟩, fun i H2 sm hi => ?_, fun i H2 x H3 hlt sm ⟨T, u, v, ex, hT, e3, h1, h2⟩ => ?_⟩
  · rw [zipD_len] at hi
    exact ⟨vs, ws, vs[i]'(by omega), ws[i]'(by omega), at1 _ sm, at2 _ sm, by simp, by simp⟩
  · subst ex e3
    obtain ⟨d, g1, k1⟩ := r.get (h1 vs (at1 _ sm))
    obtain ⟨e, g2, k2⟩ := r2.get (h2 ws (at2 _ sm))
    refine ⟨_, zipD_get g1 g2, fun b o hb => ?_, fun O2 hO2 hO => ?_⟩
    · rw [upd_ne (fun z => by rw [z, hT] at hb; cases hb)]
      exact hb
    · have s2 : Same (cut O H) (cut O2 H2) := fun b o hb => by rw [cut_out (hO b o hb)]; exact sm b o hb
      exact (pair_new hT hO2 (k1.same s2) (k2.same s2)).2
theorem yl_zipT {K : PySem.W.Frag} {bg : Option (Addr × Addr)} {O : Addr → Prop} {H : Hp} {a b : Addr} {vs ws : List V} {xs ys : List D} (ha : SqT K (cut O H) a vs) (hb : SqT K (cut O H) b ws) (r : RepL K bg (cut O H) vs xs) (r2 : RepL K bg (cut O H) ws ys) : Yl K bg O H (ItzT K a b) (zipD xs ys) := by
  have at1 : ∀ H2, Same (cut O H) H2 → SqT K H2 a vs := fun H2 sm => sqt_same sm ha
  have at2 : ∀ H2, Same (cut O H) H2 → SqT K H2 b ws := fun H2 sm => sqt_same sm hb
  have l1 := r.len
  have l2 := r2.len
  refine ⟨fun H2 sm => ⟨vs, ws, at1 _ sm, at2 _ sm, by rw [zipD_len]; omega⟩, fun i H2 sm hi => ?_, fun i H2 x H3 hlt sm ⟨T, u, v, ex, hT, e3, h1, h2⟩ => ?_⟩
  · rw [zipD_len] at hi
    exact ⟨vs, ws, vs[i]'(by omega), ws[i]'(by omega), at1 _ sm, at2 _ sm, by simp, by simp⟩
  · subst ex e3
    obtain ⟨d, g1, k1⟩ := r.get (h1 vs (at1 _ sm))
    obtain ⟨e, g2, k2⟩ := r2.get (h2 ws (at2 _ sm))
    refine ⟨_, zipD_get g1 g2, fun b o hb => ?_, fun O2 hO2 hO => ?_⟩
    · rw [upd_ne (fun z => by rw [z, hT] at hb; cases hb)]
      exact hb
    · have s2 : Same (cut O H) (cut O2 H2) := fun b o hb => by rw [cut_out (hO b o hb)]; exact sm b o hb
      exact (pair_new hT hO2 (k1.same s2) (k2.same s2)).2
/-- zip of two lists, or of two tuples -/
def wZip (w : WA) : WI := fun env n Q => w env n fun ds n1 => ∃ xs ys, (ds = [.lst xs, .lst ys] ∨ ds = [.tup xs, .tup ys]) ∧ Q (zipD xs ys) n1
theorem di_zip {e1 e2 : Expr} {w : WA} {p tpos : Pos} {elts : List Expr} {kk : Nat} (hm : X.mg "zip" = none) (ha : DA X [e1, e2] w) (hg : Gl X "zip" := by rfl)
    (hs : starEach [e1, e2] X.env = (false, eval e1 X.env) :: starEach [e2] X.env := by rfl) (hpl : (backTo pos (starEach [e2] X.env)).any (·.1) = false := by rfl) : DI X (.Tuple elts kk tpos) (.Call (.Name "zip" p) [e1, e2] [] pos) (wZip w) :=
  .of (pi_zipA hg hm ha.pa hs hpl) fun σ H R ⟨c, ad, n, env, Y0, RL, q0, q⟩ => ⟨c, ad, n, env, _, RL, q0, fun ds n1 ⟨xs, ys, ed, q1⟩ vs H1 e1 r1 => by
    rcases ed with ed | ed
    · subst ed
      cases r1 with
      | cons h t => cases t with
        | cons h' t' =>
          cases t'
          cases h with
          | @lst a va _ ha hla ra => cases h' with
            | @lst b vb _ hb hlb rb => exact ⟨a, b, va, vb, rfl, .inl ⟨.inl (.inl (cut_le _ _ ha)), .inl (.inl (cut_le _ _ hb)), q _ _ q1 _ _ e1 (yl_zip ha hb ra rb)⟩⟩
    · subst ed
      cases r1 with
      | cons h t => cases t with
        | cons h' t' =>
          cases t'
          cases h with
          | @tup a va _ ha hla ra => cases h' with
            | @tup b vb _ hb hlb rb => exact ⟨a, b, va, vb, rfl, .inr ⟨sqt_same cut_le ha, sqt_same cut_le hb, q _ _ q1 _ _ e1 (yl_zipT ha hb ra rb)⟩⟩⟩
/-! ### for, while -/
theorem Rel.cx {K : PySem.W.Frag} {c c1 : Ctx} {ad : Nat → Addr} {n : Nat} {σ : L2.St} {H : Hp} {env : En} (R : Rel K c ad n σ H env) (h0 : c1.O0 = c.O0) (hb : c1.bg = c.bg) (hx0 : c1.X0 = c.X0) (hbase : ∀ a o, c1.H0 a = some o → ¬ c1.isBag a → H a = some o) (hf : ∀ i, Own env i → c1.H0 (ad i) = none) : Rel K c1 ad n σ H env := by
  obtain ⟨H0, O0, bg, X0⟩ := c
  obtain ⟨H1, O1, bg1, X1⟩ := c1
  simp only at h0 hb hx0
  subst h0 hb hx0
  exact ⟨R.len, hbase, R.dom, R.bag, R.inj, hf, R.notO, R.slot, R.ex0⟩
/-- the context of a loop: what is shared at its start must stay -/
noncomputable def loopC (c : Ctx) (ad : Nat → Addr) (env : En) (H : Hp) : Ctx := ⟨cut (fun a => ∃ i, Own env i ∧ a = ad i) H, c.O0, c.bg, c.X0⟩
theorem loopC_H {c : Ctx} {ad : Nat → Addr} {env : En} {H : Hp} : (loopC c ad env H).H0 = cut (fun a => ∃ i, Own env i ∧ a = ad i) H := by
  unfold loopC
  rfl
theorem Rel.loop {K : PySem.W.Frag} {c : Ctx} {ad : Nat → Addr} {n : Nat} {σ : L2.St} {H : Hp} {env : En} (R : Rel K c ad n σ H env) : Rel K (loopC c ad env H) ad n σ H env :=
  R.cx rfl rfl rfl (fun a o h _ => by rw [loopC_H] at h; exact (cut_some h).2) fun i hi => by rw [loopC_H]; exact cut_in ⟨i, hi, rfl⟩
/-- out of the loop: the context ahead of it -/
theorem Rel.unloop {K : PySem.W.Frag} {c : Ctx} {ad ad0 : Nat → Addr} {n n0 : Nat} {σ σ0 : L2.St} {H H0 : Hp} {env env0 : En} (R0 : Rel K c ad0 n0 σ0 H0 env0) (R : Rel K (loopC c ad0 env0 H0) ad n σ H env) : Rel K c ad n σ H env := by
  have sub : ∀ a o, c.H0 a = some o → ¬ c.isBag a → (loopC c ad0 env0 H0).H0 a = some o := fun a o h hb => by
    rw [loopC_H, cut_out]
    · exact R0.base a o h hb
    · rintro ⟨i, hi, rfl⟩
      rw [R0.fresh i hi] at h; cases h
  refine R.cx (c1 := c) rfl rfl rfl (fun a o h hb => R.base a o (sub a o h hb) hb) fun i hi => ?_
  cases q : c.H0 (ad i) with
  | none => rfl
  | some o =>
    by_cases hb : c.isBag (ad i)
    · exact absurd hb (R.nbag hi)
    · have := sub _ o q hb
      rw [R.fresh i hi] at this; cases this
theorem Rel.loopSame {K : PySem.W.Frag} {c : Ctx} {ad ad0 : Nat → Addr} {n n0 : Nat} {σ σ0 : L2.St} {H H0 : Hp} {env env0 : En} (R0 : Rel K c ad0 n0 σ0 H0 env0) (R : Rel K (loopC c ad0 env0 H0) ad n σ H env) :
    Same (cut (Oa c ad0 env0) H0) H ∧ ∀ a o, cut (Oa c ad0 env0) H0 a = some o → ¬ Oa (loopC c ad0 env0 H0) ad env a := by
  have key : ∀ a o, cut (Oa c ad0 env0) H0 a = some o → (loopC c ad0 env0 H0).H0 a = some o ∧ ¬ c.isBag a ∧ ¬ c.O0 a := fun a o h => by
    obtain ⟨h1, h2⟩ := cut_some h
    refine ⟨?_, fun hb => h1 (R0.oaB a hb), fun z => h1 (.inl z)⟩
    rw [loopC_H, cut_out]
    · exact h2
    · intro z; exact h1 (.inr z)
  refine ⟨fun a o h => ?_, fun a o h z => ?_⟩
  · obtain ⟨h1, h2, h3⟩ := key a o h
    exact R.base a o h1 h2
  · obtain ⟨h1, h2, h3⟩ := key a o h
    rcases z with z | ⟨i, hi, rfl⟩
    · exact h3 z
    · rw [R.fresh i hi] at h1; cases h1
theorem SEnds.loop {K : PySem.W.Frag} {Y : XI} {c : Ctx} {ad0 : Nat → Addr} {n0 : Nat} {σ0 : L2.St} {H0 : Hp} {env0 : En} {D0 : DEnds} {E : Ends} (R0 : Rel K c ad0 n0 σ0 H0 env0) (S : SEnds K Y c D0 E) : SEnds K Y (loopC c ad0 env0 H0) D0 E   := by
  have sub : ∀ a o, c.H0 a = some o → ¬ c.isBag a → (loopC c ad0 env0 H0).H0 a = some o := fun a o ha hna => by
    rw [loopC_H, cut_out]
    · exact R0.base a o ha hna
    · rintro ⟨i, hi, rfl⟩
      rw [R0.fresh i hi] at ha; cases ha
  refine ⟨fun env n h σ H ad R => S.nx env n h σ H ad (R0.unloop R), fun env n h σ H ad R => S.bk env n h σ H ad (R0.unloop R), fun env n h σ H ad R => S.ct env n h σ H ad (R0.unloop R), fun d n h v H hb hc r => S.rt d n h v H (fun a o ha hna => hb a o (sub a o ha hna) hna) hc r, fun o n h p u H hp hb hc hu r => S.rf o n h p u H ?_ (fun a o ha hna => hb a o (sub a o ha hna) hna) hc hu r, fun env n x h σ H ad od R r => S.ex env n x h σ H ad od (R0.unloop R) r, fun a ha => ?_⟩
  · cases z : c.H0 p with
    | none => rfl
    | some o' =>
      by_cases hbg : c.isBag p
      · exfalso
        obtain ⟨l, eb⟩ := hbg
        obtain ⟨⟨ns, q, r', m, k, h1, _⟩, h2, _⟩ := R0.bag _ _ eb
        rw [loopC_H, cut_out (fun ⟨i, hi, e⟩ => R0.notO i hi (by rw [← e]; exact h2)), h1] at hp
        cases hp
      · rw [sub p o' z hbg] at hp; cases hp
  · by_cases hb : c.isBag a
    · exact .inr (.inl hb)
    · rcases S.h0 a ha with h | h | h
      · refine .inl ?_
        cases z : c.H0 a with
        | none => exact absurd z h
        | some o => rw [sub a o z hb]; exact fun z => nomatch z
      · exact absurd h hb
      · exact .inr (.inr h)
def wFor (wi : WI) (g : WG) (w : WS) : WS := fun D env n => wi env n fun ys n1 => ∃ Inv : Nat → En → Nat → Prop, Inv 0 env n1 ∧ (∀ env n, Inv ys.length env n → D.nx env n) ∧
  ∀ i y env n, ys[i]? = some y → Inv i env n → g y env fun env' => w { D with nx := Inv (i + 1), ct := Inv (i + 1), bk := D.nx } env' n
theorem ds_for {body : List Stmt} {g : WG} {vs : List Nat} (hi : DI X tg iter wi) (hg : DG X tg vs g) (hb : DSs X Y body w) (hp : PassesOwn (model X.prog X.w) X.A X.env X.xe := by exact PassesOwn.never) (hc : X.calm = true := by rfl)
    (hs : ∀ x, foldedSetIterable iter X.env x = pure x := by intro _; rfl) : DS X Y (.For tg iter body [] pos) (wFor wi g w) :=
  .of (ps_for hp hc hi.pi hg.pg hb.ps hs) fun E σ H ⟨c, ad, n, env, D0, R, q0, S⟩ => ⟨c, ad, n, env, _, R, q0, fun ys n1 ⟨Iv, hv, hd, hs⟩ H1 J e1 Y => by
    have R1 := R.step e1
    refine ⟨fun i m σ2 H2 => m = ys.length - i ∧ i ≤ ys.length ∧ ∃ ad2 n2 env2, Rel X.K (loopC c ad env H1) ad2 n2 σ2 H2 env2 ∧ Iv i env2 n2, ⟨_, rfl, Nat.zero_le _, ad, n1, env, R1.loop, hv⟩, ?_⟩
    rintro i m σ2 H2 ⟨rfl, hle, ad2, n2, env2, R2, v2⟩
    obtain ⟨sm, so⟩ := R1.loopSame R2
    by_cases hlt : i < ys.length
    · refine .inr ⟨Y.go i H2 sm hlt, fun σ' H' => i + 1 ≤ ys.length ∧ ∃ ad2 n2 env2, Rel X.K (loopC c ad env H1) ad2 n2 σ' H' env2 ∧ Iv (i + 1) env2 n2, fun σ' H' ⟨h1, h2⟩ => ⟨ys.length - (i + 1), by omega, rfl, h1, h2⟩, fun x H3 hy => ?_⟩
      obtain ⟨y, ey, sm3, hr⟩ := Y.yld i H2 x H3 hlt sm hy
      have R3 := R2.step (.of_same R2.bag sm3)
      refine ⟨_, ad2, n2, env2, y, _, R3, hr _ R2.oaD so, hs i y env2 n2 ey v2, fun env' h' _ σ' _ R' => ?_⟩
      exact ⟨_, ad2, n2, env', _, R', h', ⟨fun env n h σ H ad R => ⟨hlt, ad, n, env, R, h⟩, fun env n h σ H ad R => S.nx _ _ h _ _ _ (R1.unloop R), fun env n h σ H ad R => ⟨hlt, ad, n, env, R, h⟩, (S.loop R1).rt, (S.loop R1).rf, (S.loop R1).ex, (S.loop R1).h0⟩⟩
    · have e : i = ys.length := by omega
      subst e
      exact .inl ⟨Y.stop H2 sm, S.nx _ _ (hd _ _ v2) _ _ _ (R1.unloop R2)⟩⟩
def wWhile (wt : WT) (w : WS) : WS := fun D env n => ∃ Inv : Nat → En → Nat → Prop, (∃ m, Inv m env n) ∧ ∀ m env n, Inv m env n → wt env n fun k n1 => if k = true then w { D with nx := fun e n => ∃ m', m' < m ∧ Inv m' e n, ct := fun e n => ∃ m', m' < m ∧ Inv m' e n, bk := D.nx } env n1 else D.nx env n1
theorem ds_while {body : List Stmt} (hc : DT X e wt) (hb : DSs X Y body w) (hp : PassesOwn (model X.prog X.w) X.A X.env X.xe := by exact PassesOwn.never) : DS X Y (.While e body [] pos) (wWhile wt w) :=
  .of (ps_while hp hc.pt hb.ps) fun E σ H ⟨c, ad, n, env, D0, R, ⟨Iv, ⟨m0, v0⟩, hs⟩, S⟩ => by
    refine ⟨fun m σ2 H2 => ∃ ad2 n2 env2, Rel X.K c ad2 n2 σ2 H2 env2 ∧ Iv m env2 n2, ⟨m0, ad, n, env, R, v0⟩, ?_⟩
    rintro m σ2 H2 ⟨ad2, n2, env2, R2, v2⟩
    refine ⟨c, ad2, n2, env2, _, R2, hs m env2 n2 v2, fun k n3 q3 H3 e3 => ?_⟩
    cases k with
    | true =>
      rw [if_pos rfl] at q3 ⊢
      refine ⟨fun σ' H' => ∃ m', m' < m ∧ ∃ ad2 n2 env2, Rel X.K c ad2 n2 σ' H' env2 ∧ Iv m' env2 n2, fun σ' H' h => h, c, ad2, n3, env2, _, R2.step e3, q3, ⟨fun env n ⟨m', hm, h⟩ σ H ad R => ⟨m', hm, ad, n, env, R, h⟩, fun env n h σ H ad R => S.nx _ _ h _ _ _ R, fun env n ⟨m', hm, h⟩ σ H ad R => ⟨m', hm, ad, n, env, R, h⟩, S.rt, S.rf, S.ex, S.h0⟩⟩
    | false =>
      rw [if_neg Bool.false_ne_true] at q3 ⊢
      exact S.nx _ _ q3 _ _ _ (R2.step e3)
end
end Dv

set_option Elab.async false
set_option linter.all false
set_option maxRecDepth 100000
set_option maxHeartbeats 4000000
/-! Dv7: comprehensions, calls, defs by value -/
namespace Dv
open PySem PySem.Spec PyProof.Rows L2
/-! ### comprehensions -/
def wipeE (env : En) : List Nat → En
  | [] => env
  | v :: vs => (wipeE env vs).set v .un
section
variable {K : PySem.W.Frag} {c : Ctx} {ad : Nat → Addr} {n n' : Nat} {σ σ' : L2.St} {H H' : Hp} {env : En}
theorem Rel.forgetS (R : Rel K c ad n σ H env) {i : Nat} {x : Option V} : Rel K c ad n (σ.set i x) H (env.set i .un) :=
  R.setS (fun o z => nomatch z) (by rw [List.length_set]; exact Nat.le_refl _) (fun j z => by rw [List.getElem?_set_ne (Ne.symm z)]) fun d' e _ => by cases e
theorem Rel.wipe (R : Rel K c ad n σ H env) : ∀ vs : List Nat, Rel K c ad n (L2.wipe σ vs) H (wipeE env vs)
  | [] => R
  | v :: vs => (Rel.wipe R vs).forgetS
theorem wipeE_own : ∀ {vs : List Nat} {j : Nat}, Own (wipeE env vs) j → Own env j
  | [], _, h => h
  | v :: vs, j, h => by
    rcases own_set h with ⟨_, _, o, e⟩ | ⟨_, h⟩
    · cases e
    · exact wipeE_own h
theorem wipe_idem {vs : List Nat} : L2.wipe (L2.wipe σ vs) vs = L2.wipe σ vs := by
  have key : ∀ (ws vs : List Nat), (∀ w ∈ ws, w ∈ vs) → L2.wipe (L2.wipe σ ws) vs = L2.wipe σ vs := by
    intro ws
    induction ws with
    | nil => intro vs _; rfl
    | cons w ws ih =>
      intro vs h
      show L2.wipe ((L2.wipe σ ws).set w none) vs = _
      rw [wipe_set (h w List.mem_cons_self)]
      exact ih vs fun x hx => h x (List.mem_cons_of_mem _ hx)
  exact key vs vs fun _ h => h
/-- one more address that nothing leans on -/
def Ctx.and (c : Ctx) (D : Addr) : Ctx := ⟨c.H0, fun a => c.O0 a ∨ a = D, c.bg, c.X0⟩
theorem Rel.andD (R : Rel K c ad n σ H env) {D : Addr} {u : HO} (hD : H D = none) : Rel K (c.and D) ad n σ (upd H D u) env := by
  have e := EStp.new (o := u) R.bag hD
  have R' := R.step e
  have nD : ¬ Oa c ad env D := R.free hD
  refine ⟨R'.len, R'.base, fun a ha => ?_, fun b l eb => ?_, R'.inj, R'.fresh, fun i hi z => ?_, fun i sd es => ?_, R'.ex0⟩
  · rcases ha with ha | rfl
    · exact R'.dom a ha
    · rw [upd_same]; exact fun z => nomatch z
  · obtain ⟨h1, h2, h3⟩ := R'.bag b l eb
    exact ⟨h1, .inl h2, .inl h3⟩
  · rcases z with z | z
    · exact R'.notO i hi z
    · exact nD (.inr ⟨i, hi, z.symm⟩)
  · have sm : Same (cut (Oa c ad env) H) (cut (Oa (c.and D) ad env) (upd H D u)) := cut_mono fun a o h1 h2 => by
      have ne : a ≠ D := fun z => by rw [z, hD] at h2; cases h2
      refine ⟨fun z => ?_, by rw [upd_ne ne]; exact h2⟩
      rcases z with (z | z) | z
      · exact h1 (.inl z)
      · exact ne z
      · exact h1 (.inr z)
    have sl := R.slot i sd es
    cases sd with
    | un => trivial
    | val d => obtain ⟨v, h1, h2⟩ := sl; exact ⟨v, h1, h2.same sm⟩
    | own o =>
      obtain ⟨h1, w, h2, h3⟩ := sl
      exact ⟨h1, w, by rw [upd_ne (fun z => nD (.inr ⟨i, ⟨o, es⟩, z.symm⟩))]; exact h2, h3.same sm⟩
/-- the address that nothing leans on changed -/
theorem Rel.atD {D : Addr} {u : HO} (R : Rel K (c.and D) ad n σ H env) (h0 : c.H0 D = none) (hb : ∀ l, c.bg ≠ some (D, l)) (hl : ∀ b, c.bg ≠ some (b, D)) : Rel K (c.and D) ad n σ (upd H D u) env := by
  have cu : cut (Oa (c.and D) ad env) (upd H D u) = cut (Oa (c.and D) ad env) H := cut_upd (.inl (.inr rfl))
  refine ⟨R.len, fun a o h hnb => ?_, fun a ha => ?_, fun b l eb => ?_, R.inj, R.fresh, R.notO, fun i sd es => ?_, fun a ha => by
    by_cases z : a = D
    · rw [z, upd_same]; exact fun z => nomatch z
    · rw [upd_ne z]; exact R.ex0 a ha⟩
  · rw [upd_ne (fun z => by rw [z] at h; rw [show (c.and D).H0 D = c.H0 D from rfl, h0] at h; cases h)]
    exact R.base a o h hnb
  · by_cases z : a = D
    · rw [z, upd_same]; exact fun z => nomatch z
    · rw [upd_ne z]; exact R.dom a ha
  · obtain ⟨⟨ns, q, r', m, k, h1, h2, h3⟩, h4, h5⟩ := R.bag _ _ eb
    refine ⟨⟨ns, q, r', m, k, ?_, ?_, h3⟩, h4, h5⟩
    · rw [upd_ne (fun z => hb l (by rw [← z]; exact eb))]; exact h1
    · rw [upd_ne (fun z => hl b (by rw [← z]; exact eb))]; exact h2
  · have sl := R.slot i sd es
    cases sd with
    | un => trivial
    | val d => obtain ⟨v, h1, h2⟩ := sl; exact ⟨v, h1, by rw [cu]; exact h2⟩
    | own o =>
      obtain ⟨h1, w, h2, h3⟩ := sl
      exact ⟨h1, w, by rw [upd_ne (fun z => R.notO i ⟨o, es⟩ (.inr z))]; exact h2, by rw [cu]; exact h3⟩
end
section
variable {X : Cx} {Y : XI} {tg iter elt : Expr} {pos : Pos} {we : WE} {wt : WT} {wi : WI} {g : WG}
/-- a clause's tests -/
structure DTs (X : Cx) (ifs : List Expr) (w : WT) : Prop where
  pts : PTs X ifs (lT X.K w)
theorem ptsImp {ifs : List Expr} {t t' : TT} (h : PTs X ifs t) (k : ∀ σ H Q, t' σ H Q → t σ H Q) : PTs X ifs t' := ⟨fun pins s σ H Q I q => h.run pins s σ H Q I (k _ _ _ q)⟩
def wYes : WT := fun _ n Q => Q true n
theorem dts_nil : DTs X [] wYes := ⟨ptsImp pts_nil fun σ H Q ⟨c, ad, n, env, Q0, R, q0, q⟩ => q _ _ q0 _ (.refl R.bag)⟩
theorem dts_one {e : Expr} (h : DT X e wt) : DTs X [e] wt := ⟨pts_one h.pt⟩
/-- [elt for tg in iter if ..]: vs the slots of the block's own names -/
def noOwn (env : En) (vs : List Nat) : Bool := vs.all fun j => match env[j]? with
  | some (.own _) => false
  | _ => true
theorem noOwn_ne {env : En} {vs : List Nat} (h : noOwn env vs = true) {j : Nat} (hj : Own env j) : j ∉ vs := fun hm => by
  obtain ⟨o, e⟩ := hj
  have := List.all_eq_true.1 h j hm
  rw [e] at this
  cases this
theorem wipeE_get {env : En} : ∀ {vs : List Nat} {j : Nat}, j ∉ vs → (wipeE env vs)[j]? = env[j]?
  | [], _, _ => rfl
  | v :: vs, j, h => by
    rw [List.mem_cons, not_or] at h
    show ((wipeE env vs).set v .un)[j]? = _
    rw [List.getElem?_set_ne (Ne.symm h.1), wipeE_get h.2]
def wLc (wi : WI) (g : WG) (wt : WT) (we : WE) (vs : List Nat) : WO := fun env n Q => noOwn env vs = true ∧ wi env n fun ys n1 => ∃ Iv : Nat → List D → Nat → Prop, Iv 0 [] n1 ∧ (∀ ds n, Iv ys.length ds n → Q (.lst ds) n) ∧
  ∀ i y ds n, ys[i]? = some y → Iv i ds n → g y (wipeE env vs) fun env2 => wt env2 n fun k n2 => if k = true then we env2 n2 fun d n3 => ds.length < sizeLine ∧ Iv (i + 1) (ds ++ [d]) n3 else Iv (i + 1) ds n2
theorem lc_read {K : PySem.W.Frag} {σ : L2.St} {H : Hp} {Q : VK} {vs : List Nat} (h : lF K (wLc wi g wt we vs) σ H Q) : tLc (lI K wi) (lG K vs g) (lT K wt) (lE K we) vs σ H Q := by
  obtain ⟨c, ad, n, env, Q0, R, ⟨hno, q0⟩, q⟩ := h
  refine ⟨c, ad, n, env, _, R, q0, fun ys n1 ⟨Iv, hv, hd, hs⟩ H1 J e1 Y => fun L hL => ?_⟩
  have R1 := R.step e1
  have hL0 : H L = none := by
    cases z : H L with
    | none => rfl
    | some o =>
      by_cases hb : c.isBag L
      · obtain ⟨l, eb⟩ := hb
        obtain ⟨⟨ns, q', r', m, k, h1, _⟩, _⟩ := R1.bag _ _ eb
        rw [hL] at h1; cases h1
      · rw [e1.keep L o z hb] at hL; cases hL
  have nbL : ∀ l, c.bg ≠ some (L, l) := fun l eb => by
    obtain ⟨⟨ns, q', r', m, k, h1, _⟩, _⟩ := R1.bag _ _ eb
    rw [hL] at h1; cases h1
  have nlL : ∀ b, c.bg ≠ some (b, L) := fun b eb => by
    obtain ⟨⟨ns, q', r', m, k, _, h1, _⟩, _⟩ := R1.bag _ _ eb
    rw [hL] at h1; cases h1
  have h0L : c.H0 L = none := by
    cases z : c.H0 L with
    | none => rfl
    | some o => rw [R1.base L o z (fun ⟨l, eb⟩ => nbL l eb)] at hL; cases hL
  -- what holds between the turns
  let Pw := fun (i : Nat) (H2 : Hp) => ∃ n2 ds ws, Rel K (c.and L) ad n2 (L2.wipe σ vs) H2 (wipeE env vs) ∧ EStp c H H2 n2 ∧ Same (cut (Oa c ad env) H1) H2 ∧ H2 L = some (.lst ws) ∧ ws.length ≤ sizeLine ∧ RepL K c.bg (cut (fun a => Oa c ad env a ∨ a = L) H2) ws ds ∧ Iv i ds n2
  have eL : EStp c H (upd H1 L (.lst [])) n1 := e1.trans (.new e1.bag hL)
  refine ⟨fun i m H2 => m = ys.length - i ∧ i ≤ ys.length ∧ Pw i H2, ⟨_, rfl, Nat.zero_le _, n1, [], [], (R1.wipe vs).andD hL, eL, ?_, upd_same, Nat.zero_le _, .nil, hv⟩, ?_⟩
  · intro a o h
    obtain ⟨h1, h2⟩ := cut_some h
    rw [upd_ne (fun z => by rw [z, hL] at h2; cases h2)]
    exact h2
  rintro i m H2 ⟨rfl, hle, n2, ds, ws, R2, e2, sm2, hl2, hlen, r2, v2⟩
  by_cases hlt : i < ys.length
  · refine .inr ⟨Y.go i H2 sm2 hlt, fun H' => i + 1 ≤ ys.length ∧ Pw (i + 1) H', fun H' ⟨h1, h2⟩ => ⟨ys.length - (i + 1), by omega, rfl, h1, h2⟩, fun x H3 hy => ?_⟩
    obtain ⟨y, ey, sm3, hr⟩ := Y.yld i H2 x H3 hlt sm2 hy
    have R3 := R2.step (.of_same R2.bag sm3)
    have so : ∀ a o, cut (Oa c ad env) H1 a = some o → ¬ Oa (c.and L) ad (wipeE env vs) a := fun a o h z => by
      obtain ⟨h1, h2⟩ := cut_some h
      rcases z with (z | z) | ⟨j, hj, z⟩
      · exact h1 (.inl z)
      · rw [z, hL] at h2; cases h2
      · exact h1 (.inr ⟨j, wipeE_own hj, z⟩)
    refine ⟨_, ad, n2, wipeE env vs, y, _, R3, hr _ R2.oaD so, hs i y ds n2 ey v2, fun env2 q2 hev σ2 hw R4 => ?_⟩
    refine ⟨by rw [hw, wipe_idem], _, ad, n2, env2, _, R4, q2, fun k n4 q4 H5 e5 => ?_⟩
    have R5 := R4.step e5
    -- back to the turn's beginning: the slots are wiped, all else stays
    have back : ∀ {H6 : Hp} {n6 : Nat}, EStp (c.and L) H3 H6 n6 → Rel K (c.and L) ad n6 (L2.wipe σ vs) H6 (wipeE env vs) ∧ EStp c H H6 n6 ∧ Same (cut (Oa c ad env) H1) H6 ∧ H6 L = some (.lst ws) ∧ RepL K c.bg (cut (fun a => Oa c ad env a ∨ a = L) H6) ws ds := fun {H6 n6} e6 => by
      have cw : CW c n6 H6 := fun b l eb => by
        obtain ⟨h1, _, _⟩ := e6.bag b l eb
        obtain ⟨_, h2, h3⟩ := R1.bag b l eb
        exact ⟨h1, h2, h3⟩
      have k6 : EStp c H3 H6 n6 := ⟨e6.keep, cw⟩
      have k23 : EStp c H2 H3 n2 := .of_same e2.bag sm3
      have k26 : EStp c H2 H6 n6 := k23.trans k6
      refine ⟨R3.step e6, e2.trans k26, fun a o h => ?_, ?_, r2.same (k26.cut fun x hx => .inl (.inl (oa_bag R.bag hx)))⟩
      · have hb : ¬ c.isBag a := fun z => (cut_some h).1 (R.oaB a z)
        exact k26.keep a o (sm2 a o h) hb
      · exact k26.keep L _ hl2 fun ⟨l, eb⟩ => nbL l eb
    cases k with
    | false =>
      rw [if_neg Bool.false_ne_true] at q4
      show i + 1 ≤ ys.length ∧ Pw (i + 1) H5
      obtain ⟨b1, b2, b3, b4, b5⟩ := back e5
      exact ⟨hlt, n4, ds, ws, b1, b2, b3, b4, hlen, b5, q4⟩
    | true =>
      rw [if_pos rfl] at q4
      refine (show lE K we σ2 H5 _ from ?_)
      refine ⟨_, ad, n4, env2, _, R5, q4, fun d n6 ⟨hz, q6⟩ v H6 e6 r6 => ?_⟩
      obtain ⟨b1, b2, b3, b4, b5⟩ := back (e5.trans e6)
      have hwl : ws.length < sizeLine := by rw [b5.len]; exact hz
      refine ⟨ws, b4, hwl, hlt, n6, ds ++ [d], ws ++ [v], b1.atD h0L nbL nlL, ?_, ?_, upd_same, ?_, ?_, q6⟩
      · refine ⟨fun a o h hb => ?_, fun b l eb => ?_⟩
        · rw [upd_ne (fun z => by rw [z, hL0] at h; cases h)]
          exact b2.keep a o h hb
        · obtain ⟨⟨ns, q', r', m, k, h1, h2, h3⟩, h4, h5⟩ := b2.bag _ _ eb
          refine ⟨⟨ns, q', r', m, k, ?_, ?_, h3⟩, h4, h5⟩
          · rw [upd_ne (fun z => nbL l (by rw [← z]; exact eb))]; exact h1
          · rw [upd_ne (fun z => nlL b (by rw [← z]; exact eb))]; exact h2
      · intro a o h
        obtain ⟨h1, h2⟩ := cut_some h
        rw [upd_ne (fun z => by rw [z, hL] at h2; cases h2)]
        exact b3 a o h
      · rw [List.length_append, List.length_singleton]
        exact hwl
      · rw [cut_upd (.inr rfl)]
        -- the new item: what it leans on is not forbidden at the turn's beginning either
        refine b5.app (.cons (r6.same (cut_mono fun a o h1 h2 => ⟨fun z => ?_, h2⟩)) .nil)
        rcases z with z | z
        · rcases z with z | ⟨j, hj, z⟩
          · exact h1 (.inl (.inl z))
          · refine h1 (.inr ⟨j, ?_, z⟩)
            obtain ⟨o, eo⟩ := hj
            have hj' := noOwn_ne hno ⟨o, eo⟩
            exact ⟨o, by rw [hev j hj', wipeE_get hj']; exact eo⟩
        · exact h1 (.inl (.inr z))
  · have e : i = ys.length := by omega
    subst e
    refine .inl ⟨Y.stop H2 sm2, q _ _ (hd _ _ v2) L _ H2 hL0 e2 hl2 (.lst hlen r2)⟩
theorem df_lc {ifs : List Expr} {scope : Scope} {own : List (Str × Nat)} (hN : X.N.Nodup) (hi : DI X tg iter wi) (ok : BlkOk X.N X.env.scope scope own)
    (hg : ∀ (s : Shared) (H : Hp) (C : Addr) (cl : List (Str × Addr)) (fp : List Addr), DG (X.blk s H scope (compEnvC scope cl C X.env) fp) tg (own.map (·.2)) g) (ht : ∀ (s : Shared) (H : Hp) (C : Addr) (cl : List (Str × Addr)) (fp : List Addr), DTs (X.blk s H scope (compEnvC scope cl C X.env) fp) ifs wt)
    (he : ∀ (s : Shared) (H : Hp) (C : Addr) (cl : List (Str × Addr)) (fp : List Addr), DE (X.blk s H scope (compEnvC scope cl C X.env) fp) elt we) (hc : X.calm = true := by rfl) (hs : ∀ x, foldedSetIterable iter X.env x = pure x := by intro _; rfl) :
    DF X (.ListComp elt [⟨tg, iter, ifs, 0⟩] scope pos) (wLc wi g wt we (own.map (·.2))) :=
  .of (pe_lc hc hN hi.pi ok (fun s H C cl fp => (hg s H C cl fp).pg) (fun s H C cl fp => (ht s H C cl fp).pts) (fun s H C cl fp => (he s H C cl fp).pe) hs) fun σ H Q h => lc_read h
/-- name = [..], owned -/
theorem ds_ownLc {ifs : List Expr} {scope : Scope} {own : List (Str × Nat)} {i : Nat} {y : Str} {py spos : Pos} (hN : X.N.Nodup) (hy : X.N[i]? = some y) (hyl : X.env.scope.names.lookup y = some .local) (hsw : swapsWith (.ListComp elt [⟨tg, iter, ifs, 0⟩] scope pos) (some (.Name y py)) spos.line X.env = pure true) (hi : DI X tg iter wi) (ok : BlkOk X.N X.env.scope scope own)
    (hg : ∀ (s : Shared) (H : Hp) (C : Addr) (cl : List (Str × Addr)) (fp : List Addr), DG (X.blk s H scope (compEnvC scope cl C X.env) fp) tg (own.map (·.2)) g) (ht : ∀ (s : Shared) (H : Hp) (C : Addr) (cl : List (Str × Addr)) (fp : List Addr), DTs (X.blk s H scope (compEnvC scope cl C X.env) fp) ifs wt)
    (he : ∀ (s : Shared) (H : Hp) (C : Addr) (cl : List (Str × Addr)) (fp : List Addr), DE (X.blk s H scope (compEnvC scope cl C X.env) fp) elt we) (hc : X.calm = true := by rfl) (hs : ∀ x, foldedSetIterable iter X.env x = pure x := by intro _; rfl) :
    DS X Y (.Assign [.Name y py] (.ListComp elt [⟨tg, iter, ifs, 0⟩] scope pos) spos) (wOwn i (wLc wi g wt we (own.map (·.2)))) :=
  .of (ps_setLc hc hN hy hyl hsw hi.pi ok (fun s H C cl fp => (hg s H C cl fp).pg) (fun s H C cl fp => (ht s H C cl fp).pts) (fun s H C cl fp => (he s H C cl fp).pe) hs) fun E σ H ⟨c, ad, n, env, D0, R, q0, S⟩ =>
    lc_read (Q := fun x H1 => gName i x σ H1 E.nx) ⟨c, ad, n, env, _, R, q0, fun o n1 q1 p u H1 hp e1 hu r1 => S.nx _ _ q1 _ _ _ (R.setOwn hp e1 hu r1)⟩
/-- name = [..], a value from then on -/
def wSetOb (i : Nat) (wo : WO) : WS := fun D env n => wo env n fun o n1 => D.nx (env.set i (.val o.d)) n1
theorem ds_setLc {ifs : List Expr} {scope : Scope} {own : List (Str × Nat)} {i : Nat} {y : Str} {py spos : Pos} (hN : X.N.Nodup) (hy : X.N[i]? = some y) (hyl : X.env.scope.names.lookup y = some .local) (hsw : swapsWith (.ListComp elt [⟨tg, iter, ifs, 0⟩] scope pos) (some (.Name y py)) spos.line X.env = pure true) (hi : DI X tg iter wi) (ok : BlkOk X.N X.env.scope scope own)
    (hg : ∀ (s : Shared) (H : Hp) (C : Addr) (cl : List (Str × Addr)) (fp : List Addr), DG (X.blk s H scope (compEnvC scope cl C X.env) fp) tg (own.map (·.2)) g) (ht : ∀ (s : Shared) (H : Hp) (C : Addr) (cl : List (Str × Addr)) (fp : List Addr), DTs (X.blk s H scope (compEnvC scope cl C X.env) fp) ifs wt)
    (he : ∀ (s : Shared) (H : Hp) (C : Addr) (cl : List (Str × Addr)) (fp : List Addr), DE (X.blk s H scope (compEnvC scope cl C X.env) fp) elt we) (hc : X.calm = true := by rfl) (hs : ∀ x, foldedSetIterable iter X.env x = pure x := by intro _; rfl) :
    DS X Y (.Assign [.Name y py] (.ListComp elt [⟨tg, iter, ifs, 0⟩] scope pos) spos) (wSetOb i (wLc wi g wt we (own.map (·.2)))) :=
  .of (ps_setLc hc hN hy hyl hsw hi.pi ok (fun s H C cl fp => (hg s H C cl fp).pg) (fun s H C cl fp => (ht s H C cl fp).pts) (fun s H C cl fp => (he s H C cl fp).pe) hs) fun E σ H ⟨c, ad, n, env, D0, R, q0, S⟩ =>
    lc_read (Q := fun x H1 => gName i x σ H1 E.nx) ⟨c, ad, n, env, _, R, q0, fun o n1 q1 p u H1 hp e1 hu r1 => S.nx _ _ q1 _ _ _ ((R.step e1).set (r1.rep (cut_mono fun a o h1 h2 => ⟨fun z => h1 (.inl z), h2⟩) (by rw [cut_out (R.free hp)]; exact hu)))⟩
end
end Dv

set_option Elab.async false
set_option linter.all false
set_option maxRecDepth 100000
set_option maxHeartbeats 4000000
/-! Dv8: calls, defs by value -/
namespace Dv
open PySem PySem.Spec PyProof.Rows L2
abbrev DSp := List D → Nat → (D → Nat → Prop) → (EX → Nat → Prop) → Prop
/-- a promise by value as a promise -/
def lSp (K : PySem.W.Frag) (sp : DSp) : Sp := fun vs H Q E => ∃ c ds n Q0 E0, (c.H0 = H ∧ (∀ a, c.O0 a → H a ≠ none) ∧ CW c n H) ∧ RepL K c.bg (cut c.O0 H) vs ds ∧ sp ds n Q0 E0 ∧
  (∀ d n', Q0 d n' → ∀ v H', EStp c H H' n' → Rep K c.bg (cut c.O0 H') v d → Q v H') ∧ ∀ x n', E0 x n' → ∀ od H', EStp c H H' n' → ExR K c.bg c.O0 H' x od → E (.ref x.C) od H'
def noE : EX → Nat → Prop := fun _ _ => False
structure Cal (P : Program) (w : World) (K : PySem.W.Frag) (mg : Str → Option Value) (base : Heap) (CX : CXT) (k : Nat) (x : Str) (ps : List Str) (sp : DSp) : Prop where
  ex : ∃ g gd, FnOk P w K mg base CX k g gd ps (lSp K sp) ∧ mg x = some (.ref g) ∧ PySem.W.keepIn K (.ref g) = true ∧ Binds K gd ps []
theorem Cal.mono {P : Program} {w : World} {K : PySem.W.Frag} {mg : Str → Option Value} {base : Heap} {CX : CXT} {k j : Nat} {x : Str} {ps : List Str} {sp : DSp} (h : Cal P w K mg base CX k x ps sp) (hk : k ≤ j) : Cal P w K mg base CX j x ps sp := by
  obtain ⟨g, gd, F, r⟩ := h.ex
  exact ⟨g, gd, F.mono hk, r⟩
/-- a weaker promise -/
theorem Cal.imp {P : Program} {w : World} {K : PySem.W.Frag} {mg : Str → Option Value} {base : Heap} {CX : CXT} {k : Nat} {x : Str} {ps : List Str} {sp sp' : DSp} (h : Cal P w K mg base CX k x ps sp) (hs : ∀ ds n Q E, sp' ds n Q E → sp ds n Q E) : Cal P w K mg base CX k x ps sp' := by
  obtain ⟨g, gd, F, r⟩ := h.ex
  exact ⟨g, gd, F.imp fun vs H Q E ⟨c, ds, n, Q0, E0, h1, h2, h3, h4⟩ => ⟨c, ds, n, Q0, E0, h1, h2, hs _ _ _ _ h3, h4⟩, r⟩
theorem EStp.cx {c c' : Ctx} {H H' : Hp} {n n0 : Nat} (e : EStp c' H H' n) (hb : c'.bg = c.bg) (h0 : CW c n0 H) : EStp c H H' n := by
  refine ⟨fun a o h hn => e.keep a o h (fun ⟨l, z⟩ => hn ⟨l, by rw [← hb]; exact z⟩), fun b l z => ?_⟩
  obtain ⟨h1, _, _⟩ := e.bag b l (by rw [hb]; exact z)
  obtain ⟨_, h2, h3⟩ := h0 b l z
  exact ⟨h1, h2, h3⟩
section
variable {X : Cx} {pos : Pos} {wa : WA} {sp : DSp} {P : Program} {w : World} {K : PySem.W.Frag} {mg : Str → Option Value} {base : Heap}
def wFn (sp : DSp) (wa : WA) : WE := fun env n Q => wa env n fun ds n1 => sp ds n1 Q noE
theorem fn_read {K : PySem.W.Frag} {σ : L2.St} {H : Hp} {Q : VK} (h : lE K (wFn sp wa) σ H Q) : tCall (lSp K sp) [] E0 (lA K wa) σ H Q := by
  obtain ⟨c, ad, n, env, Q0, R, q0, q⟩ := h
  refine ⟨c, ad, n, env, _, R, q0, fun ds n1 q1 vs H1 e1 r1 => ?_⟩
  have R1 := R.step e1
  show lSp K sp (vs ++ []) H1 Q E0
  rw [List.append_nil]
  refine ⟨⟨H1, Oa c ad env, c.bg, fun _ => False⟩, ds, n1, Q0, noE, ⟨rfl, R1.oaD, fun b l eb => ?_⟩, r1, q1, fun d n2 hd v H2 e2 r2 => ?_, fun x n2 z => z.elim⟩
  · obtain ⟨h1, h2, h3⟩ := R1.bag b l eb
    exact ⟨h1, .inl h2, .inl h3⟩
  · exact q _ _ hd _ _ (e1.trans (e2.cx (c := c) rfl R1.bag)) r2
theorem de_call {k : Nat} {x : Str} {ps : List Str} {p : Pos} {e : Expr} {es : List Expr} (C : Cal X.prog X.w X.K X.mg X.base CX0 k x ps sp) (hr : Room k X.A) (ha : DA X (e :: es) wa) (hg : Gl X x := by rfl)
    (hdb : (x == ("__debug__" : Str)) = false := by decide) (he : starEach (e :: es) X.env = (false, eval e X.env) :: starEach es X.env := by rfl) (hpl : (backTo pos (starEach es X.env)).any (·.1) = false := by rfl) : DE X (.Call (.Name x p) (e :: es) [] pos) (wFn sp wa) := by
  obtain ⟨g, gd, F, hm, hk, hb⟩ := C.ex
  exact .of (pe_call F hr hg hm hk hb .nil pass0 ha.pa hdb he hpl) fun σ H Q h => fn_read h
theorem de_call0 {k : Nat} {x : Str} {ps : List Str} {p : Pos} (C : Cal X.prog X.w X.K X.mg X.base CX0 k x ps sp) (hr : Room k X.A) (hg : Gl X x := by rfl) (hdb : (x == ("__debug__" : Str)) = false := by decide) : DE X (.Call (.Name x p) [] [] pos) (wFn sp wNil) := by
  obtain ⟨g, gd, F, hm, hk, hb⟩ := C.ex
  refine .of (pe_call0 F hr hg hm hk hb .nil pass0 hdb) fun σ H Q h => ?_
  obtain ⟨c, ad, n, env, Q0, R, q0, q⟩ := h
  show lSp X.K sp ([] ++ []) H Q E0
  exact fn_read (wa := wNil) (Q := Q) ⟨c, ad, n, env, Q0, R, q0, q⟩ |> fun z => by
    obtain ⟨c, ad, n, env, Q1, R, q1, q⟩ := z
    exact q _ _ q1 _ _ (.refl R.bag) .nil
/-- borrowed arguments: what comes back leans on none of them -/
def wFnB (sp : DSp) (wa : WA) : WE := fun env n Q => wa env n fun ds n1 => sp ds n1 (fun d n2 => d.flat = true ∧ Q d n2) noE
/-- the addresses of borrowed arguments -/
def Lent (O : Addr → Prop) (bg : Option (Addr × Addr)) (vs : List V) (a : Addr) : Prop := V.ref a ∈ vs ∧ ∀ p l, bg = some (p, l) → a ≠ p ∧ a ≠ l
theorem ShL.lent {K : PySem.W.Frag} {bg : Option (Addr × Addr)} {O : Addr → Prop} {H : Hp} : ∀ {vs : List V} {ds : List D}, ShL K bg O H vs ds → ∀ L : Addr → Prop, (∀ a, V.ref a ∈ vs → (∀ p l, bg = some (p, l) → a ≠ p ∧ a ≠ l) → L a) → RepL K bg (cut (fun a => O a ∧ ¬ L a) H) vs ds
  | _, _, .nil, _, _ => .nil
  | _, _, .cons h t, L, hL => by
    have sm : Same (cut O H) (cut (fun a => O a ∧ ¬ L a) H) := cut_mono fun a o h1 h2 => ⟨fun z => h1 z.1, h2⟩
    refine .cons ?_ (ShL.lent t L fun a ha hb => hL a (List.mem_cons_of_mem _ ha) hb)
    cases h with
    | rep h => exact h.same sm
    | @own a u o hb h r => exact r.rep sm (by rw [cut_out (fun z => z.2 (hL a List.mem_cons_self hb))]; exact h)
theorem fnB_read {K : PySem.W.Frag} {σ : L2.St} {H : Hp} {Q : VK} (h : lE K (wFnB sp wa) σ H Q) : tCall (lSp K sp) [] E0 (lAB K wa) σ H Q := by
  obtain ⟨c, ad, n, env, Q0, R, q0, q⟩ := h
  refine ⟨c, ad, n, env, _, R, q0, fun ds n1 q1 vs H1 e1 s1 => ?_⟩
  have R1 := R.step e1
  show lSp K sp (vs ++ []) H1 Q E0
  rw [List.append_nil]
  refine ⟨⟨H1, fun a => Oa c ad env a ∧ ¬ Lent (Oa c ad env) c.bg vs a, c.bg, fun _ => False⟩, ds, n1, fun d n2 => d.flat = true ∧ Q0 d n2, noE, ⟨rfl, fun a h => R1.oaD a h.1, fun b l eb => ?_⟩, s1.lent _ fun a ha hb => ⟨ha, hb⟩, q1, fun d n2 ⟨hf, hd⟩ v H2 e2 r2 => ?_, fun x n2 z => z.elim⟩
  · obtain ⟨h1, h2, h3⟩ := R1.bag b l eb
    exact ⟨h1, ⟨.inl h2, fun z => (z.2 b l eb).1 rfl⟩, ⟨.inl h3, fun z => (z.2 b l eb).2 rfl⟩⟩
  · exact q _ _ hd _ _ (e1.trans (e2.cx (c := c) rfl R1.bag)) (r2.flat hf _)
theorem de_callB {k : Nat} {x : Str} {ps : List Str} {p : Pos} {e : Expr} {es : List Expr} (C : Cal X.prog X.w X.K X.mg X.base CX0 k x ps sp) (hr : Room k X.A) (ha : DAB X (e :: es) wa) (hg : Gl X x := by rfl)
    (hdb : (x == ("__debug__" : Str)) = false := by decide) (he : starEach (e :: es) X.env = (false, eval e X.env) :: starEach es X.env := by rfl) (hpl : (backTo pos (starEach es X.env)).any (·.1) = false := by rfl) : DE X (.Call (.Name x p) (e :: es) [] pos) (wFnB sp wa) := by
  obtain ⟨g, gd, F, hm, hk, hb⟩ := C.ex
  exact .of (pe_call F hr hg hm hk hb .nil pass0 ha.pa hdb he hpl) fun σ H Q h => fnB_read h
/-! ### a def by its body -/
/-- no exception leaves -/
def y0 (H : Hp) : XI := ⟨fun _ _ _ _ => False, H⟩
def startD (N : List Str) (ds : List D) : En := ds.map .val ++ List.replicate (N.length - ds.length) .un
theorem rel_start {N : List Str} {H : Hp} {O : Addr → Prop} {bg : Option (Addr × Addr)} {n : Nat} {vs : List V} {ds : List D} (hO : ∀ a, O a → H a ≠ none) (hb : CW ⟨H, O, bg, fun _ => False⟩ n H) (r : RepL K bg (cut O H) vs ds) : Rel K ⟨H, O, bg, fun _ => False⟩ (fun _ => 0) n (L2.start N vs) H (startD N ds) := by
  have hl := r.len
  have no : ∀ i, ¬ Own (startD N ds) i := fun i ⟨o, e⟩ => by
    unfold startD at e
    by_cases hi : i < ds.length
    · rw [List.getElem?_append_left (by simpa using hi), List.getElem?_map] at e
      cases z : ds[i]? with
      | none => rw [z] at e; cases e
      | some d => rw [z] at e; cases e
    · rw [List.getElem?_append_right (by simpa using hi), List.getElem?_replicate] at e
      split at e <;> cases e
  refine ⟨?_, fun a o h _ => h, hO, hb, fun i j h => absurd h (no i), fun i h => absurd h (no i), fun i h => absurd h (no i), fun i sd e => ?_, fun a h => h.elim⟩
  · unfold startD L2.start
    simp [hl]
  · unfold startD at e
    by_cases hi : i < ds.length
    · rw [List.getElem?_append_left (by simpa using hi), List.getElem?_map] at e
      cases z : ds[i]? with
      | none => rw [z] at e; cases e
      | some d =>
        rw [z] at e
        cases e
        obtain ⟨v, h1, h2⟩ := r.getD z
        refine ⟨v, ?_, h2.same (cut_mono fun a o h1 h2 => ⟨fun w => ?_, h2⟩)⟩
        · unfold L2.start
          rw [List.getElem?_append_left (by rw [List.length_map, hl]; exact hi), List.getElem?_map, h1]
          rfl
        · rcases w with w | ⟨j, hj, _⟩
          · exact h1 w
          · exact no j hj
    · rw [List.getElem?_append_right (by simpa using hi), List.getElem?_replicate] at e
      split at e
      · cases e; trivial
      · cases e
def dEnds (Q : D → Nat → Prop) : DEnds := { nx := fun _ n => Q .non n, rt := Q, rf := fun o n => Q o.d n }
/-- the ends of a def that hands back a new object -/
def dEndsF (Q : Ob → Nat → Prop) : DEnds := { nx := fun _ _ => False, rt := fun _ _ => False, rf := Q }
/-- THE RULE for a def: its body as a term of rules, and the reading of that term by value -/
theorem dok {x qual : Str} {st : Stmt} {f : Addr} {fd : FuncData} {N ps : List Str} {k : Nat} {sp : DSp} (F : Fun K x qual st f fd) (S : FnScope N ps (defScope st)) (len : ∀ ds n Q E, sp ds n Q E → ds.length = ps.length)
    (hbody : ∀ (cdv : Value) (A : Around) (outer : List Env) (s : Shared) (H : Hp) (E : XK), Room k (A.deeper (envOfC qual (defScope st) s.heap.objs.size f cdv)) →
      ∃ t, DSs (cxOf CX0 P w K mg base N qual (defScope st) f cdv A outer s H E).nox (y0 H) (defBody st) t ∧ ∀ ds n Q E, sp ds n Q E → t (dEnds Q) (startD N ds) n) : FnOk P w K mg base CX0 (k + 1) f fd ps (lSp K sp) := by
  refine F.ok S (fun vs H Q E ⟨c, ds, n, Q0, E0, h1, h2, h3, h4⟩ => by rw [h2.len]; exact len _ _ _ _ h3) (fun cdv A outer s H vs Q E hr h => ?_)
  obtain ⟨t, ht, hq⟩ := hbody cdv A outer s H E hr
  obtain ⟨⟨H0, O0, bg, X0⟩, ds, n, Q0, E0, ⟨h0, h1, hcw⟩, h2, h3, h4, h5⟩ := h
  simp only at h0
  subst h0
  refine ⟨_, ht.ps, ⟨_, _, n, _, dEnds Q0, rel_start h1 hcw h2, hq ds n Q0 E0 h3, ?_⟩⟩
  refine ⟨fun env n' hn σ H' ad R => ?_, fun env n' hn => hn.elim, fun env n' hn => hn.elim, fun d n' hd v H' hb hc r => ?_, fun o n' hd p u H' hp hb hc hu r => ?_, fun env n x h => h.elim, fun a h => .inl h⟩
  · exact h4 _ _ hn .non H' ⟨R.base, R.bag⟩ .non
  · exact h4 _ _ hd v H' ⟨hb, hc⟩ r
  · refine h4 _ _ hd _ H' ⟨hb, hc⟩ (r.rep (cut_mono fun a o h1 h2 => ⟨fun z => h1 (.inl z), h2⟩) ?_)
    rw [cut_out (fun z => h1 p z hp)]
    exact hu
/-! ### defs that hand back a new list or dict -/
abbrev DSpF := List D → Nat → (Ob → Nat → Prop) → (EX → Nat → Prop) → Prop
def lSpF (K : PySem.W.Frag) (sp : DSpF) : Sp := fun vs H Q E => ∃ c ds n Q0 E0, (c.H0 = H ∧ (∀ a, c.O0 a → H a ≠ none) ∧ CW c n H) ∧ RepL K c.bg (cut c.O0 H) vs ds ∧ sp ds n Q0 E0 ∧
  (∀ o n', Q0 o n' → ∀ p u H', H p = none → EStp c H H' n' → H' p = some u → RepO K c.bg (cut (fun a => c.O0 a ∨ a = p) H') p u o → Q (.ref p) H') ∧ ∀ x n', E0 x n' → ∀ od H', EStp c H H' n' → ExR K c.bg c.O0 H' x od → E (.ref x.C) od H'
structure CalF (P : Program) (w : World) (K : PySem.W.Frag) (mg : Str → Option Value) (base : Heap) (CX : CXT) (k : Nat) (x : Str) (ps : List Str) (sp : DSpF) : Prop where
  ex : ∃ g gd, FnOk P w K mg base CX k g gd ps (lSpF K sp) ∧ mg x = some (.ref g) ∧ PySem.W.keepIn K (.ref g) = true ∧ Binds K gd ps []
theorem CalF.mono {CX : CXT} {k j : Nat} {x : Str} {ps : List Str} {sp : DSpF} (h : CalF P w K mg base CX k x ps sp) (hk : k ≤ j) : CalF P w K mg base CX j x ps sp := by
  obtain ⟨g, gd, F, r⟩ := h.ex
  exact ⟨g, gd, F.mono hk, r⟩
def wFnF (sp : DSpF) (wa : WA) : WO := fun env n Q => wa env n fun ds n1 => sp ds n1 Q noE
theorem fnF_read {spF : DSpF} {K : PySem.W.Frag} {σ : L2.St} {H : Hp} {Q : VK} (h : lF K (wFnF spF wa) σ H Q) : tCall (lSpF K spF) [] E0 (lA K wa) σ H Q := by
  obtain ⟨c, ad, n, env, Q0, R, q0, q⟩ := h
  refine ⟨c, ad, n, env, _, R, q0, fun ds n1 q1 vs H1 e1 r1 => ?_⟩
  have R1 := R.step e1
  show lSpF K spF (vs ++ []) H1 Q E0
  rw [List.append_nil]
  refine ⟨⟨H1, Oa c ad env, c.bg, fun _ => False⟩, ds, n1, Q0, noE, ⟨rfl, R1.oaD, fun b l eb => ?_⟩, r1, q1, fun o n2 hd p u H2 hp e2 hu r2 => ?_, fun x n2 z => z.elim⟩
  · obtain ⟨h1, h2, h3⟩ := R1.bag b l eb
    exact ⟨h1, .inl h2, .inl h3⟩
  · refine q _ _ hd p u H2 ?_ (e1.trans (e2.cx (c := c) rfl R1.bag)) hu r2
    cases z : H p with
    | none => rfl
    | some o' =>
      by_cases hb : c.isBag p
      · obtain ⟨l, eb⟩ := hb
        obtain ⟨⟨ns, q', r', m, k, h1, _⟩, _⟩ := R1.bag _ _ eb
        rw [hp] at h1; cases h1
      · rw [e1.keep p o' z hb] at hp; cases hp
theorem df_call {spF : DSpF} {k : Nat} {x : Str} {ps : List Str} {p : Pos} {e : Expr} {es : List Expr} (C : CalF X.prog X.w X.K X.mg X.base CX0 k x ps spF) (hr : Room k X.A) (ha : DA X (e :: es) wa) (hg : Gl X x := by rfl)
    (hdb : (x == ("__debug__" : Str)) = false := by decide) (he : starEach (e :: es) X.env = (false, eval e X.env) :: starEach es X.env := by rfl) (hpl : (backTo pos (starEach es X.env)).any (·.1) = false := by rfl) : DF X (.Call (.Name x p) (e :: es) [] pos) (wFnF spF wa) := by
  obtain ⟨g, gd, F, hm, hk, hb⟩ := C.ex
  exact .of (pe_call F hr hg hm hk hb .nil pass0 ha.pa hdb he hpl) fun σ H Q h => fnF_read h
theorem dokF {x qual : Str} {st : Stmt} {f : Addr} {fd : FuncData} {N ps : List Str} {k : Nat} {sp : DSpF} (F : Fun K x qual st f fd) (S : FnScope N ps (defScope st)) (len : ∀ ds n Q E, sp ds n Q E → ds.length = ps.length)
    (hbody : ∀ (cdv : Value) (A : Around) (outer : List Env) (s : Shared) (H : Hp) (E : XK), Room k (A.deeper (envOfC qual (defScope st) s.heap.objs.size f cdv)) →
      ∃ t, DSs (cxOf CX0 P w K mg base N qual (defScope st) f cdv A outer s H E).nox (y0 H) (defBody st) t ∧ ∀ ds n Q E, sp ds n Q E → t (dEndsF Q) (startD N ds) n) : FnOk P w K mg base CX0 (k + 1) f fd ps (lSpF K sp) := by
  refine F.ok S (fun vs H Q E ⟨c, ds, n, Q0, E0, h1, h2, h3, h4⟩ => by rw [h2.len]; exact len _ _ _ _ h3) (fun cdv A outer s H vs Q E hr h => ?_)
  obtain ⟨t, ht, hq⟩ := hbody cdv A outer s H E hr
  obtain ⟨⟨H0, O0, bg, X0⟩, ds, n, Q0, E0, ⟨h0, h1, hcw⟩, h2, h3, h4, h5⟩ := h
  simp only at h0
  subst h0
  refine ⟨_, ht.ps, ⟨_, _, n, _, dEndsF Q0, rel_start h1 hcw h2, hq ds n Q0 E0 h3, ?_⟩⟩
  refine ⟨fun env n' hn => hn.elim, fun env n' hn => hn.elim, fun env n' hn => hn.elim, fun d n' hd => hd.elim, fun o n' hd p u H' hp hb hc hu r => ?_, fun env n x h => h.elim, fun a h => .inl h⟩
  exact h4 _ _ hd p u H' hp ⟨hb, hc⟩ hu r
/-! ### calls by keywords alone -/
def pickL {α : Type} (r : Nat) (ix : List Nat) (us ws : List α) : List α := if us.length = 0 ∧ ws.length = r then ix.filterMap fun i => ws[i]? else []
theorem pick_rel {r : Nat} : ∀ {ix : List Nat} {vs : List V} {us : List Value} {zs : List V} {ws : List Value}, Vals vs us → Vals zs ws → Vals (pickL r ix vs zs) (pickL r ix us ws) := by
  intro ix vs us zs ws h k
  unfold pickL
  rw [← h.length, ← k.length]
  split
  · have key : ∀ ix : List Nat, Vals (ix.filterMap fun i => zs[i]?) (ix.filterMap fun i => ws[i]?) := by
      intro ix
      induction ix with
      | nil => exact .nil
      | cons i ix ih =>
        rw [List.filterMap_cons, List.filterMap_cons]
        cases e : zs[i]? with
        | none =>
          have e2 : ws[i]? = none := List.getElem?_eq_none (by rw [← k.length]; exact List.getElem?_eq_none_iff.1 e)
          rw [e2]
          exact ih
        | some v =>
          obtain ⟨u, e2, r⟩ := k.get e
          rw [e2]
          exact .cons r ih
    exact key ix
  · exact .nil
theorem pick_rep {K : PySem.W.Frag} {bg : Option (Addr × Addr)} {H : Hp} {r : Nat} {ix : List Nat} {zs : List V} {ds : List D} (k : RepL K bg H zs ds) : RepL K bg H (pickL r ix [] zs) (pickL r ix [] ds) := by
  unfold pickL
  rw [k.len]
  by_cases h : ([] : List V).length = 0 ∧ ds.length = r
  · rw [if_pos h, if_pos (show ([] : List D).length = 0 ∧ ds.length = r from h)]
    induction ix with
    | nil => exact .nil
    | cons i ix ih =>
      rw [List.filterMap_cons, List.filterMap_cons]
      cases e : zs[i]? with
      | none =>
        have e2 : ds[i]? = none := List.getElem?_eq_none (by rw [← k.len]; exact List.getElem?_eq_none_iff.1 e)
        rw [e2]
        exact ih
      | some v =>
        obtain ⟨u, e2, r⟩ := k.get e
        rw [e2]
        exact .cons r ih
  · rw [if_neg h, if_neg (show ¬ (([] : List D).length = 0 ∧ ds.length = r) from h)]
    exact .nil
structure CalK (P : Program) (w : World) (K : PySem.W.Frag) (mg : Str → Option Value) (base : Heap) (CX : CXT) (k : Nat) (x : Str) (ps ks : List Str) (ix : List Nat) (sp : DSp) : Prop where
  ex : ∃ g gd, FnOk P w K mg base CX k g gd ps (lSp K sp) ∧ mg x = some (.ref g) ∧ PySem.W.keepIn K (.ref g) = true ∧ KBinds K gd ps ks (pickL ks.length ix) (pickL ks.length ix)
structure CalFK (P : Program) (w : World) (K : PySem.W.Frag) (mg : Str → Option Value) (base : Heap) (CX : CXT) (k : Nat) (x : Str) (ps ks : List Str) (ix : List Nat) (sp : DSpF) : Prop where
  ex : ∃ g gd, FnOk P w K mg base CX k g gd ps (lSpF K sp) ∧ mg x = some (.ref g) ∧ PySem.W.keepIn K (.ref g) = true ∧ KBinds K gd ps ks (pickL ks.length ix) (pickL ks.length ix)
theorem kb_of {gd : FuncData} {ps ks : List Str} {ix : List Nat} (hp : ps ≠ []) (h : ∀ (s : Shared) (ws : List Value), ws.length = ks.length → BindsTo s gd ⟨[], ks.zip ws⟩ (ps.zip (ix.filterMap fun i => ws[i]?))) : KBinds K gd ps ks (pickL ks.length ix) (pickL ks.length ix) := by
  refine ⟨fun s us ws _ hl => ?_, pick_rel⟩
  unfold pickL at hl ⊢
  split at hl
  · rename_i z
    rw [if_pos z]
    have : us = [] := List.length_eq_zero_iff.1 z.1
    subst this
    exact h s ws z.2
  · exact absurd (List.length_eq_zero_iff.1 hl.symm) hp
/-- one parameter, by its name -/
theorem kb_one {gd : FuncData} {p : Str} (h : ∀ (s : Shared) (a : Value), BindsTo s gd ⟨[], [(p, a)]⟩ [(p, a)]) : KBinds K gd [p] [p] (pickL [p].length [0]) (pickL [p].length [0]) := kb_of (fun z => nomatch z) fun s ws hl => by
  cases ws with
  | nil => cases hl
  | cons a ws =>
    cases ws with
    | nil => exact h s a
    | cons b ws => cases hl
structure DK (X : Cx) (kws : List Keyword) (w : WA) : Prop where
  pk : PK X kws (lA X.K w)
theorem pkImp {kws : List Keyword} {t t' : TA} (h : PK X kws t) (k : ∀ σ H Q, t' σ H Q → t σ H Q) : PK X kws t' := ⟨fun po pins s σ H Q I q => h.run po pins s σ H Q I (k _ _ _ q)⟩
theorem dk_nil : DK X [] wNil := ⟨pkImp pk_nil fun σ H Q ⟨c, ad, n, env, Q0, R, q0, q⟩ => q _ _ q0 _ _ (.refl R.bag) .nil⟩
theorem dk_cons {kws : List Keyword} {nm : Option Str} {kpos : Pos} {a : Expr} {wa : WE} {w : WA} (h : DE X a wa) (k : DK X kws w) : DK X (⟨nm, a, kpos⟩ :: kws) (wCons wa w) := ⟨pkImp (pk_cons h.pe k.pk) fun σ H Q ⟨c, ad, n, env, Q0, R, q0, q⟩ => ⟨c, ad, n, env, _, R, q0, fun d n1 q1 v H1 e1 r1 => ⟨c, ad, n1, env, _, R.step e1, q1, fun ds n2 q2 vs H2 e2 r2 => q _ _ q2 _ _ (e1.trans e2) (.cons (r1.same (e2.cut R.oaB)) r2)⟩⟩⟩
theorem pe_callK0 {CX : CXT} {k : Nat} {f : Addr} {fd : FuncData} {ps ks : List Str} {sp : Sp} {E : XK} {x : Str} {p pos : Pos} {kws : List Keyword} {tk : TA} {g : List Value → List Value → List Value} {gV : List V → List V → List V}
    (F : FnOk X.prog X.w X.K X.mg X.base CX k f fd ps sp) (hr : Room k X.A) (hg : Gl X x) (hm : X.mg x = some (.ref f)) (hk : PySem.W.keepIn X.K (.ref f) = true) (hb : KBinds X.K fd ps ks g gV) (hx : Passes CX X E)
    (hkw : PK X kws tk) (hall : (backToKw pos (keywordEach kws X.env)).all (·.1.isSome) = true := by rfl) (hks : (backToKw pos (keywordEach kws X.env)).filterMap (·.1) = ks := by rfl)
    (hdb : (x == ("__debug__" : Str)) = false := by decide)
    (hpl : ((backTo pos (starEach [] X.env)).any (·.1) || (backToKw pos (keywordEach kws X.env)).any (·.1.isNone)) = false := by rfl) :
    PE X (.Call (.Name x p) [] kws pos) (fun σ H Q => tk σ H fun zs H2 => sp (gV [] zs) H2 Q E) := by
  refine ⟨fun pins s σ H Q I h => ?_⟩
  refine wpAny_Call_Name_kw (ld_glob I hg hm ?_ hdb)
  refine PySem.W.callWith_KW0 (h₀ := X.base) I.ok.mod.kin hk hall (thn (hkw.run pos pins s σ H _ I h) fun ws s2 ⟨zs, H2, I2, rz, q2⟩ => ⟨I2.kIn, ?_⟩) hpl
  rw [hks]
  exact run_fnk F hr hb hx I2 .nil rz q2
def wFnK (r : Nat) (ix : List Nat) (sp : DSp) (wa : WA) : WE := fun env n Q => wa env n fun ds n1 => sp (pickL r ix [] ds) n1 Q noE
theorem de_callK {k : Nat} {x : Str} {ps ks : List Str} {ix : List Nat} {p : Pos} {kws : List Keyword} (C : CalK X.prog X.w X.K X.mg X.base CX0 k x ps ks ix sp) (hr : Room k X.A) (hkw : DK X kws wa) (hg : Gl X x := by rfl)
    (hall : (backToKw pos (keywordEach kws X.env)).all (·.1.isSome) = true := by rfl) (hks : (backToKw pos (keywordEach kws X.env)).filterMap (·.1) = ks := by rfl) (hdb : (x == ("__debug__" : Str)) = false := by decide)
    (hpl : ((backTo pos (starEach [] X.env)).any (·.1) || (backToKw pos (keywordEach kws X.env)).any (·.1.isNone)) = false := by rfl) : DE X (.Call (.Name x p) [] kws pos) (wFnK ks.length ix sp wa) := by
  obtain ⟨g, gd, F, hm, hk, hb⟩ := C.ex
  refine .of (pe_callK0 (E := E0) F hr hg hm hk hb pass0 hkw.pk hall hks hdb hpl) fun σ H Q ⟨c, ad, n, env, Q0, R, q0, q⟩ => ⟨c, ad, n, env, _, R, q0, fun ds n1 q1 vs H1 e1 r1 => ?_⟩
  have R1 := R.step e1
  refine ⟨⟨H1, Oa c ad env, c.bg, fun _ => False⟩, _, n1, Q0, noE, ⟨rfl, R1.oaD, fun b l eb => ?_⟩, pick_rep r1, q1, fun d n2 hd v H2 e2 r2 => ?_, fun x n2 z => z.elim⟩
  · obtain ⟨h1, h2, h3⟩ := R1.bag b l eb
    exact ⟨h1, .inl h2, .inl h3⟩
  · exact q _ _ hd _ _ (e1.trans (e2.cx (c := c) rfl R1.bag)) r2
def wFnFK (r : Nat) (ix : List Nat) (sp : DSpF) (wa : WA) : WO := fun env n Q => wa env n fun ds n1 => sp (pickL r ix [] ds) n1 Q noE
theorem df_callK {spF : DSpF} {k : Nat} {x : Str} {ps ks : List Str} {ix : List Nat} {p : Pos} {kws : List Keyword} (C : CalFK X.prog X.w X.K X.mg X.base CX0 k x ps ks ix spF) (hr : Room k X.A) (hkw : DK X kws wa) (hg : Gl X x := by rfl)
    (hall : (backToKw pos (keywordEach kws X.env)).all (·.1.isSome) = true := by rfl) (hks : (backToKw pos (keywordEach kws X.env)).filterMap (·.1) = ks := by rfl) (hdb : (x == ("__debug__" : Str)) = false := by decide)
    (hpl : ((backTo pos (starEach [] X.env)).any (·.1) || (backToKw pos (keywordEach kws X.env)).any (·.1.isNone)) = false := by rfl) : DF X (.Call (.Name x p) [] kws pos) (wFnFK ks.length ix spF wa) := by
  obtain ⟨g, gd, F, hm, hk, hb⟩ := C.ex
  refine .of (pe_callK0 (E := E0) F hr hg hm hk hb pass0 hkw.pk hall hks hdb hpl) fun σ H Q ⟨c, ad, n, env, Q0, R, q0, q⟩ => ⟨c, ad, n, env, _, R, q0, fun ds n1 q1 vs H1 e1 r1 => ?_⟩
  have R1 := R.step e1
  refine ⟨⟨H1, Oa c ad env, c.bg, fun _ => False⟩, _, n1, Q0, noE, ⟨rfl, R1.oaD, fun b l eb => ?_⟩, pick_rep r1, q1, fun o n2 hd p u H2 hp e2 hu r2 => ?_, fun x n2 z => z.elim⟩
  · obtain ⟨h1, h2, h3⟩ := R1.bag b l eb
    exact ⟨h1, .inl h2, .inl h3⟩
  · refine q _ _ hd p u H2 ?_ (e1.trans (e2.cx (c := c) rfl R1.bag)) hu r2
    cases z : H p with
    | none => rfl
    | some o' =>
      by_cases hb : c.isBag p
      · obtain ⟨l, eb⟩ := hb
        obtain ⟨⟨ns, q', r', m, k, h1, _⟩, _⟩ := R1.bag _ _ eb
        rw [hp] at h1; cases h1
      · rw [e1.keep p o' z hb] at hp; cases hp
end
end Dv

set_option Elab.async false
set_option linter.all false
set_option maxRecDepth 100000
set_option maxHeartbeats 4000000
/-! Dv9: small words for readings -/
namespace Dv
open PySem PySem.Spec PyProof.Rows L2
theorem hu64 {A : Around} {k : Nat} (hr : Room k A) : A.units + 64 < cLine := hr.units
theorem hu65 {A : Around} {k : Nat} (hr : Room k A) : A.units + 65 < cLine := by have := hr.un; omega
/-! ### readings that reckon by themselves -/
def asBl (d : D) (Q : Bool → Prop) : Prop := match d with
  | .bl k => Q k
  | _ => False
def asInt (d : D) (Q : Int → Prop) : Prop := match d with
  | .int k => Q k
  | _ => False
def asSome {α : Type} (o : Option α) (Q : α → Prop) : Prop := match o with
  | some x => Q x
  | none => False
def asTup (d : D) (Q : List D → Prop) : Prop := match d with
  | .tup k => Q k
  | _ => False
def atVal (env : En) (i : Nat) (Q : D → Prop) : Prop := match env[i]? with
  | some (.val d) => Q d
  | _ => False
def atGet (env : En) (i : Nat) (Q : D → Prop) : Prop := match env[i]? with
  | some (.val d) => Q d
  | some (.own o) => Q o.d
  | _ => False
def atOb (env : En) (i : Nat) (Q : Ob → Prop) : Prop := match env[i]? with
  | some (.own o) => Q o
  | _ => False
def asLst (o : Ob) (Q : List D → Prop) : Prop := match o with
  | .lst xs => Q xs
  | _ => False
section
variable {env : En} {i n : Nat} {Q : D → Nat → Prop} {Qb : Bool → Nat → Prop} {wa wb wc we : WE} {wt wu : WT} {w : WA}
theorem ex_bl {d : D} {Q : Bool → Prop} : (∃ k, d = .bl k ∧ Q k) = asBl d Q := propext ⟨fun ⟨k, e, h⟩ => by subst e; exact h, fun h => by unfold asBl at h; split at h; exact ⟨_, rfl, h⟩; exact h.elim⟩
theorem ex_int {d : D} {Q : Int → Prop} : (∃ k, d = .int k ∧ Q k) = asInt d Q := propext ⟨fun ⟨k, e, h⟩ => by subst e; exact h, fun h => by unfold asInt at h; split at h; exact ⟨_, rfl, h⟩; exact h.elim⟩
theorem ex_tup {d : D} {Q : List D → Prop} : (∃ k, d = .tup k ∧ Q k) = asTup d Q := propext ⟨fun ⟨k, e, h⟩ => by subst e; exact h, fun h => by unfold asTup at h; split at h; exact ⟨_, rfl, h⟩; exact h.elim⟩
theorem ex_some {α : Type} {o : Option α} {Q : α → Prop} : (∃ k, o = some k ∧ Q k) = asSome o Q := propext ⟨fun ⟨k, e, h⟩ => by subst e; exact h, fun h => by cases o with | none => exact h.elim | some x => exact ⟨x, rfl, h⟩⟩
theorem ex_val {Q : D → Prop} : (∃ d, env[i]? = some (.val d) ∧ Q d) = atVal env i Q := propext ⟨fun ⟨k, e, h⟩ => by unfold atVal; rw [e]; exact h, fun h => by unfold atVal at h; split at h; exact ⟨_, by assumption, h⟩; exact h.elim⟩
theorem ex_get {Q : D → Prop} : (∃ s d, env[i]? = some s ∧ s.get = some d ∧ Q d) = atGet env i Q := propext ⟨fun ⟨s, d, e, g, h⟩ => by unfold atGet; rw [e]; cases s <;> cases g <;> exact h, fun h => by
  unfold atGet at h
  split at h
  · exact ⟨_, _, by assumption, rfl, h⟩
  · exact ⟨_, _, by assumption, rfl, h⟩
  · exact h.elim⟩
theorem ex_ob {Q : Ob → Prop} : (∃ o, env[i]? = some (.own o) ∧ Q o) = atOb env i Q := propext ⟨fun ⟨k, e, h⟩ => by unfold atOb; rw [e]; exact h, fun h => by unfold atOb at h; split at h; exact ⟨_, by assumption, h⟩; exact h.elim⟩
theorem ex_lst {Q : List D → Prop} : (∃ xs, env[i]? = some (.own (.lst xs)) ∧ Q xs) = atOb env i fun o => asLst o Q := propext ⟨fun ⟨k, e, h⟩ => by unfold atOb; rw [e]; exact h, fun h => by
  unfold atOb at h
  split at h
  · rename_i o e
    cases o with
    | lst xs => exact ⟨xs, e, h⟩
    | dk k => exact h.elim
    | dt k => exact h.elim
    | ins x C fs => exact h.elim
  · exact h.elim⟩
theorem s_var : wVar i env n Q = atVal env i fun d => Q d n := ex_val
theorem s_varb : wVarB i env n Q = atGet env i fun d => Q d n := ex_get
theorem s_test : wTest wa env n Qb = wa env n fun d n1 => asBl d fun k => Qb k n1 := by unfold wTest; simp only [ex_bl]
theorem s_tru : wTru wa env n Qb = wa env n fun d n1 => asSome d.tru fun k => Qb k n1 := by unfold wTru; simp only [ex_some]
theorem s_andv : wAndV wa wb env n Q = wa env n fun d n1 => asBl d fun k => if k = true then wb env n1 Q else Q (.bl false) n1 := by unfold wAndV; simp only [ex_bl]
theorem s_orv : wOrV wa wb env n Q = wa env n fun d n1 => asBl d fun k => if k = true then Q (.bl true) n1 else wb env n1 Q := by unfold wOrV; simp only [ex_bl]
theorem s_notv : wNotV wa env n Q = wa env n fun d n1 => asSome d.tru fun k => Q (.bl (!k)) n1 := by unfold wNotV; simp only [ex_some]
theorem s_chain {Rd Rd' : RR} : wChain Rd Rd' wa wb wc env n Q = wa env n fun d1 n1 => wb env n1 fun d2 n2 => Rd d1 d2 fun d => asBl d fun k => if k = true then wc env n2 fun d3 n3 => Rd' d2 d3 fun d => Q d n3 else Q (.bl false) n2 := by unfold wChain; simp only [ex_bl]
theorem s_part {Q : Option Int → Nat → Prop} : wPart wa env n Q = wa env n fun d n1 => asInt d fun i => Q (some i) n1 := by unfold wPart; simp only [ex_int]
theorem s_list {Q : Ob → Nat → Prop} : rListD (wCons wa wNil) env n Q = wa env n fun d n1 => asSome d.items fun xs => Q (.lst xs) n1 := by
  unfold rListD wCons wNil
  simp only [← ex_some]
  congr 1
  funext d n1
  exact propext ⟨fun ⟨d', xs, e, h1, h2⟩ => by cases e; exact ⟨xs, h1, h2⟩, fun ⟨xs, h1, h2⟩ => ⟨d, xs, rfl, h1, h2⟩⟩
theorem s_len {Q : D → Prop} {d : D} : rLenD [d] Q = asSome d.len fun n => Q (.int (n : Nat)) := ex_some
theorem s_tuple {Q : D → Prop} {d : D} : rTupleD [d] Q = asSome d.items fun xs => Q (.tup xs) := ex_some
theorem s_is {Q : D → Prop} {d : D} {T : String} : rIsD [d, .ty T] Q = asSome (isT d T) fun b => Q (.bl b) := ex_some
theorem s_ixl {Q : D → Prop} {xs : List D} {i : Int} : rIxD (.lst xs) (.int i) Q = asSome (atI xs i) Q := ex_some
theorem s_ixt {Q : D → Prop} {xs : List D} {i : Int} : rIxD (.tup xs) (.int i) Q = asSome (atI xs i) Q := ex_some
theorem s_ixs {Q : D → Prop} {s : Str} {i : Int} : rIxD (.str s) (.int i) Q = asSome (atI s.cps.toList i) fun c => Q (.str ⟨#[c]⟩) := ex_some
theorem s_seqi {Q : List D → Nat → Prop} : wSeqI we env n Q = we env n fun d n1 => asSome d.seq fun ys => Q ys n1 := by unfold wSeqI; simp only [ex_some]
theorem s_gcons {g : WGs} {d : D} {ds : List D} {Q : En → Prop} : gsName i g (d :: ds) env Q = g ds (env.set i (.val d)) Q := propext ⟨fun ⟨d', r, e, h⟩ => by cases e; exact h, fun h => ⟨d, ds, rfl, h⟩⟩
theorem s_gnil {Q : En → Prop} : gsNil [] env Q = Q env := propext ⟨fun h => h.2, fun h => ⟨rfl, h⟩⟩
theorem s_gtup {k : Nat} {g : WGs} {ds : List D} {Q : En → Prop} : gTp k g (.tup ds) env Q = (ds.length = k ∧ g ds env Q) := propext ⟨fun ⟨ds', e, h⟩ => by cases e; exact h, fun h => ⟨ds, rfl, h⟩⟩
theorem s_append {D : DEnds} : wAppend i we D env n = atOb env i fun o => asLst o fun xs => we env n fun d n1 => xs.length < sizeLine ∧ D.nx (env.set i (.own (.lst (xs ++ [d])))) n1 := ex_lst
theorem s_reverse {D : DEnds} : wReverse i D env n = atOb env i fun o => asLst o fun xs => D.nx (env.set i (.own (.lst xs.reverse))) n := ex_lst
theorem s_retof {D : DEnds} : wRetOF i D env n = atOb env i fun o => D.rf o n := ex_ob
theorem s_reto {D : DEnds} : wRetO i D env n = atGet env i fun d => D.rt d n := ex_get
theorem asBl_bl {k : Bool} {Q : Bool → Prop} : asBl (.bl k) Q = Q k := rfl
theorem asInt_int {k : Int} {Q : Int → Prop} : asInt (.int k) Q = Q k := rfl
theorem asTup_tup {k : List D} {Q : List D → Prop} : asTup (.tup k) Q = Q k := rfl
theorem asSome_some {α : Type} {k : α} {Q : α → Prop} : asSome (some k) Q = Q k := rfl
theorem asLst_lst {k : List D} {Q : List D → Prop} : asLst (.lst k) Q = Q k := rfl
theorem atVal_0 {d : D} {env : En} {Q : D → Prop} : atVal (.val d :: env) 0 Q = Q d := rfl
theorem atVal_s {s : SD} {env : En} {Q : D → Prop} {i : Nat} : atVal (s :: env) (i + 1) Q = atVal env i Q := rfl
theorem atGet_0 {d : D} {env : En} {Q : D → Prop} : atGet (.val d :: env) 0 Q = Q d := rfl
theorem atGet_o {o : Ob} {env : En} {Q : D → Prop} : atGet (.own o :: env) 0 Q = Q o.d := rfl
theorem atGet_s {s : SD} {env : En} {Q : D → Prop} {i : Nat} : atGet (s :: env) (i + 1) Q = atGet env i Q := rfl
theorem atOb_o {o : Ob} {env : En} {Q : Ob → Prop} : atOb (.own o :: env) 0 Q = Q o := rfl
theorem atOb_s {s : SD} {env : En} {Q : Ob → Prop} {i : Nat} : atOb (s :: env) (i + 1) Q = atOb env i Q := rfl
theorem s_start0 : startD [] [] = [] := rfl
theorem s_startU {x : Str} {N : List Str} : startD (x :: N) [] = .un :: startD N [] := by
  unfold startD
  simp [List.replicate_succ]
theorem s_startV {x : Str} {N : List Str} {d : D} {ds : List D} : startD (x :: N) (d :: ds) = .val d :: startD N ds := by
  unfold startD
  simp
theorem s_add {i j : Int} {Q : D → Prop} : rAddD (.int i) (.int j) Q = Q (.int (i + j)) := rfl
theorem s_addS {i j : Str} {Q : D → Prop} : rAddD (.str i) (.str j) Q = (i.length + j.length ≤ sizeLine ∧ Q (.str (i ++ j))) := rfl
theorem s_addL {i j : List D} {Q : D → Prop} : rAddD (.lst i) (.lst j) Q = (i.length + j.length ≤ sizeLine ∧ Q (.lst (i ++ j))) := rfl
theorem s_addT {i j : List D} {Q : D → Prop} : rAddD (.tup i) (.tup j) Q = (i.length + j.length ≤ sizeLine ∧ Q (.tup (i ++ j))) := rfl
theorem s_i2 {C : Int → Int → Prop} {f : Int → Int → D} {i j : Int} {Q : D → Prop} : rI2 C f (.int i) (.int j) Q = (C i j ∧ Q (f i j)) := rfl
theorem s_ordI {f : Int → Int → Bool} {g : Str → Str → Bool} {i j : Int} {Q : D → Prop} : rOrd f g (.int i) (.int j) Q = Q (.bl (f i j)) := rfl
theorem s_ordS {f : Int → Int → Bool} {g : Str → Str → Bool} {i j : Str} {Q : D → Prop} : rOrd f g (.str i) (.str j) Q = Q (.bl (g i j)) := rfl
theorem s_isN {neg : Bool} {d : D} {Q : D → Prop} : rIsN neg d .non Q = Q (.bl (if neg then !d.isNon else d.isNon)) := rfl
theorem s_mulI {i j : Int} {Q : D → Prop} : rMulD (.int i) (.int j) Q = (CMulW i j ∧ Q (.int (i * j))) := rfl
theorem s_mulS {i : Str} {j : Int} {Q : D → Prop} : rMulD (.str i) (.int j) Q = ((i.length ≤ 4096 ∧ -4096 ≤ j ∧ j ≤ 4096) ∧ Q (.str (Txt.mul i j))) := rfl
theorem s_mulL {i : List D} {j : Int} {Q : D → Prop} : rMulD (.lst i) (.int j) Q = ((0 ≤ j ∧ j < 2 ^ 63 ∧ i.length * j.toNat ≤ sizeLine) ∧ Q (.lst (List.replicate j.toNat i).flatten)) := rfl
theorem s_strip {i j : Str} {Q : D → Prop} : rStripD (.str i) (.str j) Q = Q (.str (Txt.stripChars i j)) := rfl
theorem s_inS {neg : Bool} {s t : Str} {Q : D → Prop} : rInD neg (.str s) (.str t) Q = Q (.bl (if neg then !inS s t else inS s t)) := propext ⟨fun ⟨_, e, h⟩ => by cases e; exact h, fun h => ⟨_, rfl, h⟩⟩
theorem s_neg {i : Int} {Q : D → Prop} : rNegD (.int i) Q = Q (.int (-i)) := rfl
theorem s_abs {f : Int → Int} {i : Int} {Q : D → Prop} : rInt1 f [.int i] Q = Q (.int (f i)) := rfl
theorem s_intI {i : Int} {Q : D → Prop} : rIntD [.int i] Q = Q (.int i) := rfl
theorem s_intB {i : Bool} {Q : D → Prop} : rIntD [.bl i] Q = Q (.int (if i then 1 else 0)) := rfl
theorem s_slL {xs : List D} {lo hi : Option Int} {Q : D → Prop} : rSlD (.lst xs) lo hi Q = Q (.lst (cutL xs lo hi)) := rfl
theorem s_slT {xs : List D} {lo hi : Option Int} {Q : D → Prop} : rSlD (.tup xs) lo hi Q = Q (.tup (cutL xs lo hi)) := rfl
theorem s_slS {s : Str} {lo hi : Option Int} {Q : D → Prop} : rSlD (.str s) lo hi Q = Q (.str (cutS s lo hi)) := rfl
theorem isStr_str {s : Str} : (D.str s).isStr = true := rfl
theorem ite_tt {A B : Prop} : (if true = true then A else B) = A := if_pos rfl
theorem ite_ff {A B : Prop} : (if false = true then A else B) = B := if_neg Bool.false_ne_true
def D.isInt : D → Bool
  | .int _ | .bl _ => true
  | _ => false
def D.isBool : D → Bool
  | .bl _ => true
  | _ => false
def D.isLst : D → Bool
  | .lst _ => true
  | _ => false
def D.isTup : D → Bool
  | .tup _ => true
  | _ => false
def D.ty? (d : D) : Bool := d.tyName.isSome
theorem kit_NoneType_str : kitB "NoneType" "str" = some false := by decide +kernel
theorem kit_NoneType_int : kitB "NoneType" "int" = some false := by decide +kernel
theorem kit_NoneType_bool : kitB "NoneType" "bool" = some false := by decide +kernel
theorem kit_NoneType_list : kitB "NoneType" "list" = some false := by decide +kernel
theorem kit_NoneType_tuple : kitB "NoneType" "tuple" = some false := by decide +kernel
theorem kit_bool_str : kitB "bool" "str" = some false := by decide +kernel
theorem kit_bool_int : kitB "bool" "int" = some true := by decide +kernel
theorem kit_bool_bool : kitB "bool" "bool" = some true := by decide +kernel
theorem kit_bool_list : kitB "bool" "list" = some false := by decide +kernel
theorem kit_bool_tuple : kitB "bool" "tuple" = some false := by decide +kernel
theorem kit_int_str : kitB "int" "str" = some false := by decide +kernel
theorem kit_int_int : kitB "int" "int" = some true := by decide +kernel
theorem kit_int_bool : kitB "int" "bool" = some false := by decide +kernel
theorem kit_int_list : kitB "int" "list" = some false := by decide +kernel
theorem kit_int_tuple : kitB "int" "tuple" = some false := by decide +kernel
theorem kit_str_str : kitB "str" "str" = some true := by decide +kernel
theorem kit_str_int : kitB "str" "int" = some false := by decide +kernel
theorem kit_str_bool : kitB "str" "bool" = some false := by decide +kernel
theorem kit_str_list : kitB "str" "list" = some false := by decide +kernel
theorem kit_str_tuple : kitB "str" "tuple" = some false := by decide +kernel
theorem kit_list_str : kitB "list" "str" = some false := by decide +kernel
theorem kit_list_int : kitB "list" "int" = some false := by decide +kernel
theorem kit_list_bool : kitB "list" "bool" = some false := by decide +kernel
theorem kit_list_list : kitB "list" "list" = some true := by decide +kernel
theorem kit_list_tuple : kitB "list" "tuple" = some false := by decide +kernel
theorem kit_tuple_str : kitB "tuple" "str" = some false := by decide +kernel
theorem kit_tuple_int : kitB "tuple" "int" = some false := by decide +kernel
theorem kit_tuple_bool : kitB "tuple" "bool" = some false := by decide +kernel
theorem kit_tuple_list : kitB "tuple" "list" = some false := by decide +kernel
theorem kit_tuple_tuple : kitB "tuple" "tuple" = some true := by decide +kernel
theorem kit_dict_str : kitB "dict" "str" = some false := by decide +kernel
theorem kit_dict_int : kitB "dict" "int" = some false := by decide +kernel
theorem kit_dict_bool : kitB "dict" "bool" = some false := by decide +kernel
theorem kit_dict_list : kitB "dict" "list" = some false := by decide +kernel
theorem kit_dict_tuple : kitB "dict" "tuple" = some false := by decide +kernel
theorem isT_str {d : D} (h : d.ty? = true) : isT d "str" = some d.isStr := by
  cases d with
  | non => exact kit_NoneType_str
  | bl b => exact kit_bool_str
  | int i => exact kit_int_str
  | str s => exact kit_str_str
  | lst xs => exact kit_list_str
  | tup xs => exact kit_tuple_str
  | dk k => exact kit_dict_str
  | dt k => exact kit_dict_str
  | ty n => exact absurd h Bool.false_ne_true
  | ref a => exact absurd h Bool.false_ne_true
  | bag => exact absurd h Bool.false_ne_true
  | ins C fs => exact absurd h Bool.false_ne_true
  | exn a x fs => exact absurd h Bool.false_ne_true
theorem isT_int {d : D} (h : d.ty? = true) : isT d "int" = some d.isInt := by
  cases d with
  | non => exact kit_NoneType_int
  | bl b => exact kit_bool_int
  | int i => exact kit_int_int
  | str s => exact kit_str_int
  | lst xs => exact kit_list_int
  | tup xs => exact kit_tuple_int
  | dk k => exact kit_dict_int
  | dt k => exact kit_dict_int
  | ty n => exact absurd h Bool.false_ne_true
  | ref a => exact absurd h Bool.false_ne_true
  | bag => exact absurd h Bool.false_ne_true
  | ins C fs => exact absurd h Bool.false_ne_true
  | exn a x fs => exact absurd h Bool.false_ne_true
theorem isT_bool {d : D} (h : d.ty? = true) : isT d "bool" = some d.isBool := by
  cases d with
  | non => exact kit_NoneType_bool
  | bl b => exact kit_bool_bool
  | int i => exact kit_int_bool
  | str s => exact kit_str_bool
  | lst xs => exact kit_list_bool
  | tup xs => exact kit_tuple_bool
  | dk k => exact kit_dict_bool
  | dt k => exact kit_dict_bool
  | ty n => exact absurd h Bool.false_ne_true
  | ref a => exact absurd h Bool.false_ne_true
  | bag => exact absurd h Bool.false_ne_true
  | ins C fs => exact absurd h Bool.false_ne_true
  | exn a x fs => exact absurd h Bool.false_ne_true
theorem isT_list {d : D} (h : d.ty? = true) : isT d "list" = some d.isLst := by
  cases d with
  | non => exact kit_NoneType_list
  | bl b => exact kit_bool_list
  | int i => exact kit_int_list
  | str s => exact kit_str_list
  | lst xs => exact kit_list_list
  | tup xs => exact kit_tuple_list
  | dk k => exact kit_dict_list
  | dt k => exact kit_dict_list
  | ty n => exact absurd h Bool.false_ne_true
  | ref a => exact absurd h Bool.false_ne_true
  | bag => exact absurd h Bool.false_ne_true
  | ins C fs => exact absurd h Bool.false_ne_true
  | exn a x fs => exact absurd h Bool.false_ne_true
theorem isT_tuple {d : D} (h : d.ty? = true) : isT d "tuple" = some d.isTup := by
  cases d with
  | non => exact kit_NoneType_tuple
  | bl b => exact kit_bool_tuple
  | int i => exact kit_int_tuple
  | str s => exact kit_str_tuple
  | lst xs => exact kit_list_tuple
  | tup xs => exact kit_tuple_tuple
  | dk k => exact kit_dict_tuple
  | dt k => exact kit_dict_tuple
  | ty n => exact absurd h Bool.false_ne_true
  | ref a => exact absurd h Bool.false_ne_true
  | bag => exact absurd h Bool.false_ne_true
  | ins C fs => exact absurd h Bool.false_ne_true
  | exn a x fs => exact absurd h Bool.false_ne_true
theorem s_isTs {Q : D → Prop} {d : D} (h : d.ty? = true) : rIsTD [d, .tup [.ty "list", .ty "tuple"]] Q = Q (.bl (d.isLst || d.isTup)) := by
  have e : isTs d ["list", "tuple"] = some (d.isLst || d.isTup) := by
    unfold isTs isTs isTs
    rw [isT_list h, isT_tuple h]
    simp
  refine propext ⟨fun ⟨Ts, b, h1, h2, h3, q⟩ => ?_, fun q => ⟨_, _, rfl, h, e, q⟩⟩
  cases h1
  rw [e] at h3
  cases h3
  exact q
/-- == of flat values -/
theorem eqv_str {s t : Str} : (D.str s).eqv (.str t) = decide (s = t) := by
  show (s == t) = _
  first | rfl | exact Bool.beq_eq_decide_eq _ _
theorem eqv_int {s t : Int} : (D.int s).eqv (.int t) = decide (s = t) := by
  show (s == t) = _
  first | rfl | exact Bool.beq_eq_decide_eq _ _
theorem eqv_bl {s t : Bool} : (D.bl s).eqv (.bl t) = decide (s = t) := by
  show (s == t) = _
  first | rfl | exact Bool.beq_eq_decide_eq _ _
theorem s_eqS {s t : Str} {neg : Bool} {Q : D → Prop} : Dv.rEqD neg (.str s) (.str t) Q = Q (.bl (if neg then !decide (s = t) else decide (s = t))) := by
  unfold Dv.rEqD
  rw [eqv_str]
  exact propext ⟨fun h => h.2, fun h => ⟨⟨rfl, rfl, Nat.zero_le _, Nat.zero_le _⟩, h⟩⟩
theorem s_eqI {s t : Int} {neg : Bool} {Q : D → Prop} : Dv.rEqD neg (.int s) (.int t) Q = Q (.bl (if neg then !decide (s = t) else decide (s = t))) := by
  unfold Dv.rEqD
  rw [eqv_int]
  exact propext ⟨fun h => h.2, fun h => ⟨⟨rfl, rfl, Nat.zero_le _, Nat.zero_le _⟩, h⟩⟩
theorem s_eqB {s t : Bool} {neg : Bool} {Q : D → Prop} : Dv.rEqD neg (.bl s) (.bl t) Q = Q (.bl (if neg then !decide (s = t) else decide (s = t))) := by
  unfold Dv.rEqD
  rw [eqv_bl]
  exact propext ⟨fun h => h.2, fun h => ⟨⟨rfl, rfl, Nat.zero_le _, Nat.zero_le _⟩, h⟩⟩
theorem s_ifand {Q : D → Nat → Prop} {b c : Bool} {n : Nat} : (if b = true then Q (.bl c) n else Q (.bl false) n) = Q (.bl (b && c)) n := by cases b <;> simp
theorem s_ifor {Q : D → Nat → Prop} {b c : Bool} {n : Nat} : (if b = true then Q (.bl true) n else Q (.bl c) n) = Q (.bl (b || c)) n := by cases b <;> simp
end
end Dv

set_option Elab.async false
set_option linter.all false
set_option maxRecDepth 100000
set_option maxHeartbeats 4000000
/-! SetU: sorted(set(e)), sorted(e, key=len), sorted(e) of texts or of tuples of an int and a text: rules and their readings by value -/
namespace Ss
open PySem PySem.Spec PySem.W PyProof.Rows L2
section
variable {X : Cx}
theorem strsAre {ys : List Str} : ∀ {us : List Value}, Vals (ys.map V.str) us → StrsAre us ys := by
  induction ys with
  | nil => intro us h; cases h; exact .nil
  | cons y ys ih =>
    intro us h
    cases h with
    | cons r t =>
      obtain ⟨k, rfl⟩ := r
      exact .cons y k (ih t)
def tSortedSet (K : PySem.W.Frag) (ta : TE) : TE := fun σ H Q => ta σ H fun x H1 => ∃ l, ∃ xs : List Str, x = .ref l ∧ (SqL K H1 l (xs.map V.str) ∨ SqT K H1 l (xs.map V.str)) ∧ xs.length + 1 < scanBound ∧
  ∀ ns p, Ascending xs ns → H1 p = none → Q (.ref p) (upd H1 p (.lst (ns.map V.str)))
theorem pe_sortedSet {a : Expr} {ta : TE} {p p2 q pos : Pos} (hc : X.calm = true) (hu : X.A.units + 4 < cLine) (hg : Gl X "sorted") (hm : X.mg "sorted" = none) (hg2 : Gl X "set") (hm2 : X.mg "set" = none) (ha : PE X a ta)
    (na : starEach [a] X.env = (false, eval a X.env) :: starEach [] X.env := by rfl) : PE X (.Call (.Name "sorted" p) [.Call (.Name "set" p2) [a] [] q] [] pos) (tSortedSet X.K ta) := by
  refine ⟨fun pins s σ H Q I h => ?_⟩
  refine Call_ (ld_blt I hg hm (by decide +kernel : bootBuiltins "sorted" = some (.builtin "sorted")) ?_)
  refine PyProof.Rows.callWith_builtin1 (PyProof.Rows.args_cons ?_ rfl) rfl rfl
  refine Call_ (ld_blt I hg2 hm2 boot_set ?_)
  refine PyProof.Rows.callWith_type1 (PyProof.Rows.args_cons (thn (ha.run pins s σ H _ I h) fun v s1 ⟨x, H1, I1, r1, q1⟩ => PyProof.Rows.args_nil ?_) na) na rfl
  obtain ⟨l, xs, rfl, hq, hn, q1⟩ := q1
  cases r1
  have fin : ∀ (h' : Heap) (tk : Nat), SetRS X.w h' s1.heap.objs.size xs → (∀ b o, b < s1.heap.objs.size → s1.heap.get? b = some o → h'.get? b = some o) →
      wpAny (model X.prog X.w) X.A (spliced (backTo pos (starEach [] X.env))) (fun vs s₂ => wpAny (model X.prog X.w) X.A (call (.builtin "sorted") (Value.ref s1.heap.objs.size :: vs)) (EP X pins σ Q) X.xe s₂) X.xe { s1 with heap := h', toks := tk } := fun h' tk hS hk => by
    refine PyProof.Rows.args_nil ?_
    have hge : s1.heap.objs.size ≤ h'.objs.size := by
      obtain ⟨o, es, ep, t, ho, _⟩ := hS
      exact Nat.le_of_lt (Heap.lt_size ho)
    refine sorted_strs (s := { s1 with heap := h', toks := tk }) hS (I1.ok.hd hc) hu fun s' pp out c ns k g o hp hg hi asc => ?_
    have hk' : ∀ b u, s1.heap.get? b = some u → s'.heap.get? b = some u := fun b u e => k b u (hk b u (Heap.lt_size e) e)
    have hp' : s1.heap.objs.size ≤ pp := Nat.le_trans hge hp
    have hlen : (ns.map V.str).length ≤ sizeLine := by
      rw [List.length_map]
      have h1 := asc.len
      have h2 : scanBound ≤ sizeLine := by rw [sizeLine_eq]; decide
      omega
    have hfree : H1 pp = none := I1.hok.fresh hp'
    have J : Inv X pins σ (upd H1 pp (.lst (ns.map V.str))) { s1 with heap := s'.heap, gens := s'.gens, drawn := s'.drawn, toks := s'.toks } :=
      I1.call (ch := []) (Un.laid hk' hp' hfree) (I1.hok.laid hk' hp' ⟨hlen, out.toList, c, So.vals_str hi, by rw [Array.toArray_toList]; exact hg⟩) (by rw [g]; exact I1.bare) (fun _ z => nomatch z)
    have e : s' = { s1 with heap := s'.heap, gens := s'.gens, drawn := s'.drawn, toks := s'.toks } := by
      cases s'
      cases s1
      cases o
      rfl
    rw [e]
    exact ⟨.ref pp, _, J, rfl, q1 ns pp asc hfree⟩
  rcases hq with hq | hq
  · obtain ⟨its, r, pl, hz⟩ := I1.list hq
    exact set_list (I1.ok.hd hc) pl.isList (by simpa using strsAre r) hn fun h' tk hS hk => fin h' tk hS hk
  · obtain ⟨its, r, pl, hz⟩ := I1.tuple hq
    exact set_tuple (I1.ok.hd hc) pl (by simpa using strsAre r) hn fun h' tk hS hk => fin h' tk hS hk
/-! ### key=len -/
def keyLen (s : Str) : PyData := .int s.length
def leLen : Str → Str → Bool := dataLe false keyLen
theorem leLen_iff (a b : Str) : leLen a b = true ↔ a.length ≤ b.length := by
  show (!dataLt (keyLen b) (keyLen a)) = true ↔ _
  unfold keyLen
  rw [Bool.not_eq_true', dataLt_int, decide_eq_false_iff_not]
  omega
def tSortedLen (K : PySem.W.Frag) (ta : TE) : TE := fun σ H Q => ta σ H fun x H1 => ∃ l, ∃ xs : List Str, x = .ref l ∧ SqL K H1 l (xs.map V.str) ∧ (∀ y ∈ xs, y.length ≤ sizeLine) ∧
  ∀ p, H1 p = none → Q (.ref p) (upd H1 p (.lst ((xs.mergeSort leLen).map V.str)))
theorem sort_len (x : Addr) : Builtin.«list.sort» ⟨[.ref x], [(Str.ofString "key", .builtin "len")]⟩ = ksk_tree x (.builtin "len") false := rfl
theorem pe_sortedLen {a : Expr} {ta : TE} {p p2 kp pos : Pos} (hu : X.A.units + 4 < cLine) (hg : Gl X "sorted") (hm : X.mg "sorted" = none) (hg2 : Gl X "len") (hm2 : X.mg "len" = none) (ha : PE X a ta)
    (na : starEach [a] X.env = (false, eval a X.env) :: starEach [] X.env := by rfl)
    (he : backTo pos (starEach [a] X.env) = (false, eval a X.env) :: backTo pos (starEach [] X.env) := by rfl) (hpl : (backTo pos (starEach [a] X.env)).any (·.1) = false := by rfl)
    (hall : (backToKw pos (keywordEach [⟨some "key", .Name "len" p2, kp⟩] X.env)).all (·.1.isSome) = true := by rfl) (hnone : (backToKw pos (keywordEach [⟨some "key", .Name "len" p2, kp⟩] X.env)).any (·.1.isNone) = false := by rfl)
    (hks : (backToKw pos (keywordEach [⟨some "key", .Name "len" p2, kp⟩] X.env)).filterMap (·.1) = [Str.ofString "key"] := by rfl) : PE X (.Call (.Name "sorted" p) [a] [⟨some "key", .Name "len" p2, kp⟩] pos) (tSortedLen X.K ta) := by
  refine ⟨fun pins s σ H Q I h => ?_⟩
  refine wpAny_Call_Name_kw (ld_blt I hg hm (by decide +kernel : bootBuiltins "sorted" = some (.builtin "sorted")) ?_)
  refine PyProof.Rows.callWith_kw (PyProof.Rows.args_cons (thn (ha.run pins s σ H _ I h) fun v s1 ⟨x, H1, I1, r1, q1⟩ => PyProof.Rows.args_nil ?_) na) he hpl hall hnone
  rw [hks]
  show wpAny _ _ (evalAll ((do let v ← eval (.Name "len" p2) X.env; standAt pos; pure v) :: [])) _ _ s1
  refine wpAny_evalAll_cons (wpAny_bind (ld_blt I1 hg2 hm2 boot_len (wpAny_bind (wpAny_standAt (wpAny_pure ?_)))))
  refine wpAny_evalAll_nil ?_
  obtain ⟨l, xs, rfl, hs, hb, q⟩ := q1
  cases r1
  obtain ⟨its, rv, hl, hz⟩ := I1.list hs
  have ei := So.each_str rv
  rw [List.length_map] at hz
  refine sorted_key_data (R := fun v b => ∃ t, v = Value.str b t) (b := false) keyLen hl.isList ei (AllAlike.of fun _ _ => by simp [keyLen, alike]) (Sortable.others fun b => ⟨(fun z => by cases z), (fun xs z => by cases z)⟩) hz (fun y _ => ?_) (PyProof.Rows.ksk_s1 _ _) (fun _ => PyProof.Rows.ksk_l1 _ _) sort_len (fun v y hR hy h tk kp => ?_) fun out c h' tk kp hfree hD ho eo => ?_
  · show X.A.units + 2 + 0 < cLine
    omega
  · obtain ⟨t, rfl⟩ := hR
    have hyb := hb y hy
    have hs2 : sizeLine = 16777216 := sizeLine_eq
    refine len_str (by omega) ⟨h, tk + 1 + 1, rfl, fun _ _ e => e, ?_⟩
    exact .int _ _
  · have hlen : ((xs.mergeSort leLen).map V.str).length ≤ sizeLine := by rw [List.length_map, List.length_mergeSort]; exact hz
    have hp : s1.heap.objs.size ≤ s1.heap.objs.size + 1 := Nat.le_succ _
    exact ⟨.ref _, upd H1 (s1.heap.objs.size + 1) (.lst ((xs.mergeSort leLen).map V.str)), I1.laid (t' := tk) kp hp ⟨hlen, out, c, So.vals_str eo, hD⟩, rfl, q _ (I1.hok.fresh hp)⟩
end
end Ss

set_option Elab.async false
set_option linter.all false
set_option maxRecDepth 100000
set_option maxHeartbeats 4000000
/-! DvA: sorted by value -/
namespace Dv
open PySem PySem.Spec PySem.W PyProof.Rows L2
def strsD (xs : List Str) : List D := xs.map D.str
theorem repL_strs {K : PySem.W.Frag} {bg : Option (Addr × Addr)} {H : Hp} : ∀ {vs : List V} {xs : List Str}, RepL K bg H vs (strsD xs) → vs = xs.map V.str ∧ ∀ x ∈ xs, GoodS x
  | _, [], .nil => ⟨rfl, fun _ h => nomatch h⟩
  | _, x :: xs, .cons h t => by
    obtain ⟨h1, h2⟩ := repL_strs t
    cases h with
    | str g =>
      refine ⟨by rw [h1]; rfl, fun y hy => ?_⟩
      rcases List.mem_cons.1 hy with z | z
      · rw [z]; exact g
      · exact h2 y z
theorem repL_ofStrs {K : PySem.W.Frag} {bg : Option (Addr × Addr)} {H : Hp} : ∀ {xs : List Str}, (∀ x ∈ xs, GoodS x) → RepL K bg H (xs.map V.str) (strsD xs)
  | [], _ => .nil
  | x :: xs, h => .cons (.str (h x List.mem_cons_self)) (repL_ofStrs fun y hy => h y (List.mem_cons_of_mem _ hy))
section
variable {X : Cx} {a : Expr} {wa : WE} {p p2 q kp pos : Pos}
def wSortedSet (wa : WE) : WO := fun env n Q => wa env n fun d n1 => ∃ xs, (d = .lst (strsD xs) ∨ d = .tup (strsD xs)) ∧ xs.length + 1 < scanBound ∧ ∀ ns, Ss.Ascending xs ns → Q (.lst (strsD ns)) n1
theorem df_sortedSet (hu : X.A.units + 64 < cLine) (hm : X.mg "sorted" = none) (hm2 : X.mg "set" = none) (ha : DB X a wa) (hc : X.calm = true := by rfl) (hg : Gl X "sorted" := by rfl) (hg2 : Gl X "set" := by rfl)
    (na : starEach [a] X.env = (false, eval a X.env) :: starEach [] X.env := by rfl) : DF X (.Call (.Name "sorted" p) [.Call (.Name "set" p2) [a] [] q] [] pos) (wSortedSet wa) :=
  .of (Ss.pe_sortedSet hc (by omega) hg hm hg2 hm2 ha.pe na) fun σ H Q ⟨c, ad, n, env, Q0, R, q0, q⟩ => ⟨c, ad, n, env, _, R, q0, fun d n1 ⟨xs, ed, hn, q1⟩ v H1 e1 s1 => by
    have fin : ∀ (vs : List V), RepL X.K c.bg (cut (Oa c ad env) H1) vs (strsD xs) → ∀ ns l, Ss.Ascending xs ns → H1 l = none → Q (.ref l) (upd H1 l (.lst (ns.map V.str))) := fun vs r ns l asc hl => by
      obtain ⟨_, g⟩ := repL_strs r
      have hlen : (ns.map V.str).length ≤ sizeLine := by
        rw [List.length_map]
        have h1 := asc.len
        have h2 : scanBound ≤ sizeLine := by rw [sizeLine_eq]; decide
        omega
      obtain ⟨h1, h2, h3, h4⟩ := new_at R e1 hl hlen (repL_ofStrs (xs := ns) fun x hx => g x ((asc.mem x).1 hx))
      exact q _ _ (q1 ns asc) l _ _ h1 h2 h3 h4
    rcases ed with ed | ed
    · subst ed
      obtain ⟨b, ws, rfl, hp, hl, r⟩ := s1.lst'
      obtain ⟨hw, g⟩ := repL_strs r
      exact ⟨b, xs, rfl, .inl (by rw [← hw]; exact .inl (.inl hp)), hn, fun ns l asc hl => fin ws r ns l asc hl⟩
    · subst ed
      obtain ⟨b, ws, rfl, hp, hl, r⟩ := s1.tup'
      obtain ⟨hw, g⟩ := repL_strs r
      exact ⟨b, xs, rfl, .inr (by rw [← hw]; exact hp), hn, fun ns l asc hl => fin ws r ns l asc hl⟩⟩
def wSortedLen (wa : WE) : WO := fun env n Q => wa env n fun d n1 => ∃ xs, d = .lst (strsD xs) ∧ Q (.lst (strsD (xs.mergeSort Ss.leLen))) n1
theorem df_sortedLen (hu : X.A.units + 64 < cLine) (hm : X.mg "sorted" = none) (hm2 : X.mg "len" = none) (ha : DB X a wa) (hg : Gl X "sorted" := by rfl) (hg2 : Gl X "len" := by rfl)
    (na : starEach [a] X.env = (false, eval a X.env) :: starEach [] X.env := by rfl)
    (he : backTo pos (starEach [a] X.env) = (false, eval a X.env) :: backTo pos (starEach [] X.env) := by rfl) (hpl : (backTo pos (starEach [a] X.env)).any (·.1) = false := by rfl)
    (hall : (backToKw pos (keywordEach [⟨some "key", .Name "len" p2, kp⟩] X.env)).all (·.1.isSome) = true := by rfl) (hnone : (backToKw pos (keywordEach [⟨some "key", .Name "len" p2, kp⟩] X.env)).any (·.1.isNone) = false := by rfl)
    (hks : (backToKw pos (keywordEach [⟨some "key", .Name "len" p2, kp⟩] X.env)).filterMap (·.1) = [Str.ofString "key"] := by rfl) : DF X (.Call (.Name "sorted" p) [a] [⟨some "key", .Name "len" p2, kp⟩] pos) (wSortedLen wa) :=
  .of (Ss.pe_sortedLen (by omega) hg hm hg2 hm2 ha.pe na he hpl hall hnone hks) fun σ H Q ⟨c, ad, n, env, Q0, R, q0, q⟩ => ⟨c, ad, n, env, _, R, q0, fun d n1 ⟨xs, ed, q1⟩ v H1 e1 s1 => by
    subst ed
    obtain ⟨b, ws, rfl, hp, hl, r⟩ := s1.lst'
    obtain ⟨hw, g⟩ := repL_strs r
    refine ⟨b, xs, rfl, by rw [← hw]; exact .inl (.inl hp), fun y hy => (g y hy).len, fun l hl' => ?_⟩
    have hlen : ((xs.mergeSort Ss.leLen).map V.str).length ≤ sizeLine := by
      rw [List.length_map, List.length_mergeSort]
      rw [hw, List.length_map] at hl
      exact hl
    obtain ⟨h1, h2, h3, h4⟩ := new_at R e1 hl' hlen (repL_ofStrs (xs := xs.mergeSort Ss.leLen) fun x hx => g x (List.mem_mergeSort.1 hx))
    exact q _ _ q1 l _ _ h1 h2 h3 h4⟩
/-! ### tuples of an int and a text -/
def pairD (p : Int × Str) : D := .tup [.int p.1, .str p.2]
/-- values that are tuples of an int and a text -/
inductive PairsAt (K : PySem.W.Frag) (H : Hp) : List V → List (Int × Str) → Prop
  | nil : PairsAt K H [] []
  | cons {r : Addr} {p : Int × Str} {vs : List V} {ps : List (Int × Str)} (h : SqT K H r [.int p.1, .str p.2]) (g : GoodS p.2) (t : PairsAt K H vs ps) : PairsAt K H (.ref r :: vs) (p :: ps)
theorem pairs_at {K : PySem.W.Frag} {bg : Option (Addr × Addr)} {H : Hp} : ∀ {vs : List V} {ps : List (Int × Str)}, RepL K bg H vs (ps.map pairD) → PairsAt K H vs ps
  | _, [], .nil => .nil
  | _, p :: ps, .cons h t => by
    cases h with
    | tup h hl r =>
      cases r with
      | cons r1 r2 =>
        cases r1 with
        | int i =>
          cases r2 with
          | cons r3 r4 =>
            cases r4
            cases r3 with
            | str g => exact .cons h g (pairs_at t)
theorem pairs_rep {K : PySem.W.Frag} {bg : Option (Addr × Addr)} {H : Hp} : ∀ {vs : List V} {ps : List (Int × Str)}, PairsAt K H vs ps → RepL K bg H vs (ps.map pairD)
  | _, _, .nil => .nil
  | _, _, .cons h g t => .cons (.tup h (by show 2 ≤ sizeLine; decide) (.cons (.int _) (.cons (.str g) .nil))) (pairs_rep t)
theorem each_pair {K : PySem.W.Frag} {H : Hp} : ∀ {us : List Value} {vs : List V} {row : List (Int × Str)}, Vals vs us → PairsAt K H vs row → EachIs (fun v b => ∃ r, v = Value.ref r ∧ SqT K H r [.int b.1, .str b.2] ∧ GoodS b.2) us row
  | _, _, _, .nil, .nil => .nil
  | _, _, _, .cons r h, .cons k g t => .cons ⟨_, r, k, g⟩ (each_pair h t)
theorem pair_each {K : PySem.W.Frag} {H : Hp} : ∀ {us : List Value} {row : List (Int × Str)}, EachIs (fun v b => ∃ r, v = Value.ref r ∧ SqT K H r [.int b.1, .str b.2] ∧ GoodS b.2) us row → ∃ vs, Vals vs us ∧ PairsAt K H vs row
  | _, _, .nil => ⟨[], .nil, .nil⟩
  | _, _, .cons ⟨r, e, k, g⟩ h => by
    obtain ⟨vs, h1, h2⟩ := pair_each h
    exact ⟨.ref r :: vs, .cons e h1, .cons k g h2⟩
theorem PairsAt.len {K : PySem.W.Frag} {H : Hp} : ∀ {vs : List V} {row : List (Int × Str)}, PairsAt K H vs row → vs.length = row.length
  | _, _, .nil => rfl
  | _, _, .cons _ _ t => congrArg (· + 1) t.len
theorem PairsAt.same {K : PySem.W.Frag} {H H' : Hp} (e : Same H H') : ∀ {vs : List V} {row : List (Int × Str)}, PairsAt K H vs row → PairsAt K H' vs row
  | _, _, .nil => .nil
  | _, _, .cons h g t => .cons (sqt_same e h) g (t.same e)
def rSortedPair (K : PySem.W.Frag) : List V → Hp → VK → Prop := fun vs H Q => ∃ (a : Addr) (ws : List V) (row : List (Int × Str)) (H' : Hp), vs = [V.ref a] ∧ SqL K H a ws ∧ Same H' H ∧ PairsAt K H' ws row ∧
  ∀ p ws', H p = none → PairsAt K H' ws' (row.mergeSort So.leP) → Q (.ref p) (upd H p (.lst ws'))
theorem cr_sortedPair (hu : X.A.units + 3 < cLine) : CallR X (.builtin "sorted") (rSortedPair X.K) := by
  intro pins s σ H vs us Q I r h
  obtain ⟨a, ws, row, H', rfl, hs, sm, hk, q⟩ := h
  obtain ⟨its, rv, hl, hz⟩ := I.list hs
  rw [Vals.ref1 r]
  have hlen := hk.len
  have ei := each_pair rv hk
  have er : EachIs (fun v b => ∃ as, Reads s.heap v (So.encP b) as) its row := ei.mono fun v b hv => by
    obtain ⟨r, e, k, g⟩ := hv
    subst e
    obtain ⟨its2, r2, ⟨o, ho, hc, n, hd⟩, _⟩ := I.tuple (sqt_same sm k)
    obtain ⟨u1, u2, e2, ri, rj⟩ := vals2 r2
    subst e2
    obtain ⟨t1, rfl⟩ := ri
    obtain ⟨t2, rfl⟩ := rj
    exact ⟨_, .tuple ho hc hd (.cons (.int _ _) (.cons (.str _ _) .nil))⟩
  refine PySem.W.sorted_data (R := fun v b => ∃ r, v = Value.ref r ∧ SqT X.K H' r [.int b.1, .str b.2] ∧ GoodS b.2) (enc := So.encP) hl.isList ei er (AllAlike.of fun b b' => by simp [So.encP, alike, alikeAll]) (Sortable.tuples fun b => ⟨_, _, rfl⟩) (by omega) (fun b _ => show X.A.units + 2 + 1 < cLine from hu) fun out h1 h2 => ?_
  obtain ⟨ws', h3, h4⟩ := pair_each h2
  obtain ⟨ep, he'⟩ := PyProof.Rows.sortedAll_at s.heap its out.toArray
  have hlen' : ws'.length ≤ sizeLine := by
    rw [h4.len, List.length_mergeSort]
    omega
  exact ⟨.ref _, upd H (s.heap.objs.size + 1) (.lst ws'), I.laid (t' := s.toks) (fun _ _ => PyProof.Rows.sortedAll_old) (Nat.le_succ _) ⟨hlen', out, ep, h3, he'⟩, rfl, q _ _ (I.hok.fresh (Nat.le_succ _)) h4⟩
def wSortedPair (w : WA) : WO := fun env n Q => w env n fun ds n1 => ∃ row : List (Int × Str), ds = [.lst (row.map pairD)] ∧ Q (.lst ((row.mergeSort So.leP).map pairD)) n1
theorem df_sortedPair {w : WA} (hm : X.mg "sorted" = none) (hu : X.A.units + 64 < cLine) (ha : DAB X [a] w) (hg : Gl X "sorted" := by rfl)
    (he : starEach (a :: []) X.env = (false, eval a X.env) :: starEach [] X.env := by rfl) (hpl : (backTo pos (starEach [] X.env)).any (·.1) = false := by rfl) : DF X (.Call (.Name "sorted" p) [a] [] pos) (wSortedPair w) :=
  .of (pe_callB (cr_sortedPair (by omega)) hg hm (by decide +kernel) ha.pa (by decide) (by decide) he hpl) fun σ H Q ⟨c, ad, n, env, Q0, R, q0, q⟩ => ⟨c, ad, n, env, _, R, q0, fun ds n1 ⟨row, ed, q1⟩ vs H1 e1 s1 => by
    subst ed
    obtain ⟨v, rfl, s'⟩ := s1.one
    obtain ⟨b, ws, rfl, hp, hl, r⟩ := s'.lst'
    refine ⟨b, ws, row, cut (Oa c ad env) H1, rfl, .inl (.inl hp), cut_le, pairs_at r, fun l ws' hl' hw => ?_⟩
    obtain ⟨h1, h2, h3, h4⟩ := new_at R e1 hl' (by rw [hw.len, List.length_mergeSort, ← (pairs_at r).len]; exact hl) (pairs_rep hw)
    exact q _ _ q1 l _ _ h1 h2 h3 h4⟩
end
end Dv

set_option Elab.async false
set_option linter.all false
set_option maxRecDepth 100000
set_option maxHeartbeats 4000000
/-! ZipS: zip of two texts -/
namespace Zs
open PySem PySem.Spec PyProof.Rows L2 Dv
def ItzS (x y : Str) : It :=
  ⟨fun i _ => i < min x.cps.size y.cps.size,
   fun i H v H' => ∃ T c d, v = .ref T ∧ H T = none ∧ H' = upd H T (.tup [.str ⟨#[c]⟩, .str ⟨#[d]⟩]) ∧ x.cps[i]? = some c ∧ y.cps[i]? = some d,
   fun i _ => i = min x.cps.size y.cps.size⟩
abbrev StS (x : Str) (t : Tok) (a : Addr) (i : Nat) (h : Heap) : Prop := h.IsStrIter a (strIterType x) x t i
theorem turn_zipS {P : Program} {w : World} {K : PySem.W.Frag} {elts : List Expr} {kk : Nat} {tpos : Pos} {x y : Str} {t u : Tok} {z TI TO i1 i2 : Addr} (D : ZipSep2 z TI TO i1 i2 [i1] [i2]) :
    Turn P w K (.Tuple elts kk tpos) (ItzS x y) (z :: TI :: TO :: ([i1] ++ [i2])) z (fun i h => IsZip h z TI TO .none ∧ IsTupOf2 h TI (.ref i1) (.ref i2) ∧ (∃ a1 a2, IsTupOf2 h TO a1 a2) ∧ StS x t i1 i h ∧ StS y u i2 i h) where
  mem := by simp
  obj := fun i h st c hc => by
    obtain ⟨hz, hTI, ⟨a, b, hTO⟩, ⟨o1, e1, _, d1⟩, ⟨o2, e2, _, d2⟩⟩ := st
    have e' : c = z ∨ c = TI ∨ c = TO ∨ c = i1 ∨ c = i2 := by simpa using hc
    rcases e' with q | q | q | q | q
    · rw [q]; exact ⟨_, hz, fun v q => nomatch q⟩
    · rw [q]; exact ⟨_, hTI, fun v q => nomatch q⟩
    · rw [q]; exact ⟨_, hTO, fun v q => nomatch q⟩
    · rw [q]; exact ⟨o1, e1, fun v q => by rw [d1] at q; cases q⟩
    · rw [q]; exact ⟨o2, e2, fun v q => by rw [d2] at q; cases q⟩
  keep := fun i h h' st k => by
    obtain ⟨hz, hTI, ⟨a, b, hTO⟩, ⟨o1, e1, r1⟩, ⟨o2, e2, r2⟩⟩ := st
    exact ⟨k z (by simp) _ hz, k TI (by simp) _ hTI, ⟨a, b, k TO (by simp) _ hTO⟩, ⟨o1, k i1 (by simp) _ e1, r1⟩, ⟨o2, k i2 (by simp) _ e2, r2⟩⟩
  item := by
    intro X hP hw hK hc i pins s σ H E I hf st hg
    subst hP hw hK
    have hh : X.A.in1.handled = none := I.ok.hd hc
    have W := WalksT.zipD2 (prog := X.prog) (w := X.w) (A := X.A) D (Draws.text hh i1 x t) (Draws.text hh i2 y u)
    refine W.item i s _ _ hg st fun T vals h' tk ⟨u1, u2, ⟨c, t1, hc1, e1⟩, ⟨d, t2, hd1, e2⟩, ev⟩ hT hTup hm hk => ⟨_, rfl, ?_⟩
    refine W.go elts kk tpos i T { s with heap := h', toks := tk } _ _ hm fun h'' st'' hk2 => ?_
    subst ev e1 e2
    have hT2 : h''.IsTuple T #[.str ⟨#[c]⟩ t1, .str ⟨#[d]⟩ t2] := hTup.at fun o e => hk2 T o (W.apart i T h' hm) e
    have hfr : H T = none := I.hok.fresh hT
    have new : ObjOk X.prog X.w (upd H T (.tup [.str ⟨#[c]⟩, .str ⟨#[d]⟩])) h'' T (.tup [.str ⟨#[c]⟩, .str ⟨#[d]⟩]) := by
      obtain ⟨o, ho, hcl, n, hd⟩ := hT2
      exact ⟨by show 2 ≤ sizeLine; decide, [.str ⟨#[c]⟩ t1, .str ⟨#[d]⟩ t2], .cons ⟨t1, rfl⟩ (.cons ⟨t2, rfl⟩ .nil), ⟨o, ho, hcl, n, hd⟩⟩
    have sub : ∀ b, b ∉ (z :: TI :: TO :: ([i1] ++ [i2])) → b ∉ [z, TO, i1, i2] := fun b h1 h2 => h1 (by
      have h2' : b = z ∨ b = TO ∨ b = i1 ∨ b = i2 := by simpa using h2
      rcases h2' with q | q | q | q <;> simp [q])
    have I1 : Inv X pins σ (upd H T (.tup [.str ⟨#[c]⟩, .str ⟨#[d]⟩])) { s with heap := h'', toks := tk } :=
      I.turnedNew (t' := tk) (ch := z :: TI :: TO :: ([i1] ++ [i2])) (fun b o hb q => hk2 b o (sub b hb) (hk b o (sub b hb) q)) hf hT new
    refine ⟨.ref T, _, I1, rfl, ⟨T, c, d, rfl, hfr, rfl, hc1, hd1⟩, st'', fun b hb => ?_⟩
    have hbn : b ≠ T := fun q => by
      have hlt : b < s.heap.objs.size := by
        obtain ⟨hz, hTI, ⟨a1, a2, hTO⟩, ⟨o1, e1, _⟩, ⟨o2, e2, _⟩⟩ := st
        have e' : b = z ∨ b = TI ∨ b = TO ∨ b = i1 ∨ b = i2 := by simpa using hb
        rcases e' with q | q | q | q | q
        · rw [q]; exact Heap.lt_size hz
        · rw [q]; exact Heap.lt_size hTI
        · rw [q]; exact Heap.lt_size hTO
        · rw [q]; exact Heap.lt_size e1
        · rw [q]; exact Heap.lt_size e2
      rw [q] at hlt
      exact Nat.not_lt.2 hT hlt
    rw [upd_ne hbn]
    exact (hf b hb).1
  done := by
    intro X hP hw hK hc i pins s σ H E I hf st hg
    subst hP hw hK
    have hh : X.A.in1.handled = none := I.ok.hd hc
    have W := WalksT.zipD2 (prog := X.prog) (w := X.w) (A := X.A) D (Draws.text hh i1 x t) (Draws.text hh i2 y u)
    have hi : i = min x.cps.size y.cps.size := hg
    subst hi
    refine W.done s _ _ st fun h' tk hk => ⟨rfl, I.turnedL (t' := tk) (ch := z :: TI :: TO :: ([i1] ++ [i2])) (fun b o hb q => hk b o (fun h2 => hb ?_) q) hf⟩
    have h2' : b = z ∨ b = TO ∨ b = i1 ∨ b = i2 := by simpa using h2
    rcases h2' with q | q | q | q <;> simp [q]
  self := fun A i s Q E st h => wpAny_pyIter_zip st.1 h
def iZipS (ta : TA) : TI := fun σ H R => ta σ H fun vs H1 => ∃ x y : Str, vs = [.str x, .str y] ∧ R (ItzS x y) H1
theorem pi_zipS {X : Cx} {e e2 : Expr} {ta : TA} {p pos tpos : Pos} {elts : List Expr} {kk : Nat} (hg : Gl X "zip") (hm : X.mg "zip" = none) (ha : PA X [e, e2] ta)
    (hs : starEach [e, e2] X.env = (false, eval e X.env) :: starEach [e2] X.env := by rfl) (hpl : (backTo pos (starEach [e2] X.env)).any (·.1) = false := by rfl) :
    PI X (.Tuple elts kk tpos) (.Call (.Name "zip" p) [e, e2] [] pos) (iZipS ta) := by
  refine ⟨fun pins s σ H R I h => ?_⟩
  refine Call_ (ld_blt I hg hm PyProof.Rows.boot_zip (PyProof.Rows.callWith_type1 (thn (ha.run pos pins s σ H _ I h) fun us s1 ⟨vs, H1, I1, r1, q1⟩ => ?_) hs hpl))
  obtain ⟨x, y, ex, q⟩ := q1
  subst ex
  cases r1 with
  | cons r rr =>
    cases rr with
    | cons r' rr =>
      cases rr
      obtain ⟨t, rfl⟩ := r
      obtain ⟨u, rfl⟩ := r'
      have fresh5 : ∀ c, c ∈ ((s1.heap.objs.size + 4) :: (s1.heap.objs.size + 2) :: (s1.heap.objs.size + 3) :: ([s1.heap.objs.size] ++ [s1.heap.objs.size + 1])) → FpOk X pins H1 c := fun c hcm => by
        have e' : c = s1.heap.objs.size + 4 ∨ c = s1.heap.objs.size + 2 ∨ c = s1.heap.objs.size + 3 ∨ c = s1.heap.objs.size ∨ c = s1.heap.objs.size + 1 := by simpa using hcm
        have hle : s1.heap.objs.size ≤ c := by omega
        exact I1.fpOk hle (I1.hok.fresh hle)
      refine zip_begins2 (begins_text x t) (begins_text y u) trivial trivial fun h' hz hTI hTO h1 h2 hsz hk => wpAny_pyIter_zip hz ?_
      have I2 : Inv X pins σ H1 { s1 with heap := h' } := I1.kept (t' := s1.toks) hk
      refine ⟨s1.heap.objs.size + 4, _, _, _, H1, rfl, I2, turn_zipS (x := x) (y := y) (t := t) (u := u) (z := s1.heap.objs.size + 4) (TI := s1.heap.objs.size + 2) (TO := s1.heap.objs.size + 3) (i1 := s1.heap.objs.size) (i2 := s1.heap.objs.size + 1) ⟨?_, ?_, ?_, ?_, ?_, ?_, ?_, ?_, ?_, ?_, ?_, ?_, ?_⟩, ⟨hz, hTI, ⟨_, _, hTO⟩, ⟨_, h1, rfl, rfl⟩, ⟨_, h2, rfl, rfl⟩⟩, fresh5, q⟩ <;> simp
def zipSD (x y : Str) : List D := (x.cps.toList.zip y.cps.toList).map fun p => .tup [.str ⟨#[p.1]⟩, .str ⟨#[p.2]⟩]
theorem zipSD_len (x y : Str) : (zipSD x y).length = min x.cps.size y.cps.size := by unfold zipSD; rw [List.length_map, List.length_zip, Array.length_toList, Array.length_toList]
theorem yl_zipS {K : PySem.W.Frag} {bg : Option (Addr × Addr)} {O : Addr → Prop} {H : Hp} {x y : Str} (gx : GoodS x) (gy : GoodS y) : Yl K bg O H (ItzS x y) (zipSD x y) := by
  refine ⟨fun H2 sm => ?_, fun i H2 sm hi => ?_, fun i H2 v H3 hlt sm ⟨T, c, d, ev, hT, e3, h1, h2⟩ => ?_⟩
  · exact zipSD_len x y
  · rw [zipSD_len] at hi
    exact hi
  · subst ev e3
    have h1' : x.cps.toList[i]? = some c := by rw [Array.getElem?_toList]; exact h1
    have h2' : y.cps.toList[i]? = some d := by rw [Array.getElem?_toList]; exact h2
    refine ⟨.tup [.str ⟨#[c]⟩, .str ⟨#[d]⟩], ?_, fun b o hb => ?_, fun O2 hO2 hO => ?_⟩
    · unfold zipSD
      rw [List.getElem?_map, List.getElem?_zip_eq_some (z := (c, d)) |>.2 ⟨h1', h2'⟩]
      rfl
    · rw [upd_ne (fun z => by rw [z, hT] at hb; cases hb)]
      exact hb
    · exact (pair_new hT hO2 (.str (one_good gx (List.mem_of_getElem? h1'))) (.str (one_good gy (List.mem_of_getElem? h2')))).2
def wZipS (w : WA) : WI := fun env n Q => w env n fun ds n1 => ∃ x y, ds = [.str x, .str y] ∧ Q (zipSD x y) n1
theorem di_zipS {X : Cx} {e1 e2 : Expr} {w : WA} {p pos tpos : Pos} {elts : List Expr} {kk : Nat} (hm : X.mg "zip" = none) (ha : DA X [e1, e2] w) (hg : Gl X "zip" := by rfl)
    (hs : starEach [e1, e2] X.env = (false, eval e1 X.env) :: starEach [e2] X.env := by rfl) (hpl : (backTo pos (starEach [e2] X.env)).any (·.1) = false := by rfl) : DI X (.Tuple elts kk tpos) (.Call (.Name "zip" p) [e1, e2] [] pos) (wZipS w) :=
  .of (pi_zipS hg hm ha.pa hs hpl) fun σ H R ⟨c, ad, n, env, Y0, RL, q0, q⟩ => ⟨c, ad, n, env, _, RL, q0, fun ds n1 ⟨x, y, ed, q1⟩ vs H1 e1 r1 => by
    subst ed
    cases r1 with
    | cons h t => cases t with
      | cons h' t' =>
        cases t'
        cases h with
        | str gx =>
          cases h' with
          | str gy => exact ⟨x, y, rfl, q _ _ q1 _ _ e1 (yl_zipS gx gy)⟩⟩
end Zs

set_option Elab.async false
set_option linter.all false
set_option maxRecDepth 100000
set_option maxHeartbeats 4000000
/-! DvB: all, any, sum of lists; text.index; two names stored at once -/
namespace Dv
open PySem PySem.Spec PyProof.Rows L2
section
variable {X : Cx}
theorem repL_bls {K : PySem.W.Frag} {bg : Option (Addr × Addr)} {H : Hp} : ∀ {vs : List V} {bs : List Bool}, RepL K bg H vs (bs.map D.bl) → vs = bs.map V.bl
  | _, [], .nil => rfl
  | _, b :: bs, .cons h t => by
    cases h
    rw [repL_bls t]
    rfl
theorem repL_ints {K : PySem.W.Frag} {bg : Option (Addr × Addr)} {H : Hp} : ∀ {vs : List V} {bs : List Int}, RepL K bg H vs (bs.map D.int) → vs = bs.map V.int
  | _, [], .nil => rfl
  | _, b :: bs, .cons h t => by
    cases h
    rw [repL_ints t]
    rfl
def rAllD : RC := fun ds Q => ∃ bs : List Bool, ds = [.lst (bs.map D.bl)] ∧ Q (.bl (bs.all id))
theorem cd_all (hc : X.calm = true) : CallD X (.builtin "all") rAllD := by
  refine ⟨⟨_, cr_all hc, ?_⟩⟩
  rintro bg O H vs ds Q0 Q hO s ⟨bs, rfl, h⟩ q
  obtain ⟨v, rfl, s'⟩ := s.one
  obtain ⟨p, ws, rfl, hp, hl, r⟩ := s'.lst'
  exact ⟨p, bs, rfl, by rw [← repL_bls r]; exact .inl (.inl hp), q _ h _ _ (.refl _) (.bl _)⟩
def rAnyD : RC := fun ds Q => ∃ bs : List Bool, ds = [.lst (bs.map D.bl)] ∧ Q (.bl (bs.any id))
theorem cd_any (hc : X.calm = true) : CallD X (.builtin "any") rAnyD := by
  refine ⟨⟨_, cr_any hc, ?_⟩⟩
  rintro bg O H vs ds Q0 Q hO s ⟨bs, rfl, h⟩ q
  obtain ⟨v, rfl, s'⟩ := s.one
  obtain ⟨p, ws, rfl, hp, hl, r⟩ := s'.lst'
  exact ⟨p, bs, rfl, by rw [← repL_bls r]; exact .inl (.inl hp), q _ h _ _ (.refl _) (.bl _)⟩
def rSumD : RC := fun ds Q => ∃ bs : List Int, ds = [.lst (bs.map D.int)] ∧ Q (.int bs.sum)
theorem cd_sum (hc : X.calm = true) : CallD X (.builtin "sum") rSumD := by
  refine ⟨⟨_, cr_sum hc, ?_⟩⟩
  rintro bg O H vs ds Q0 Q hO s ⟨bs, rfl, h⟩ q
  obtain ⟨v, rfl, s'⟩ := s.one
  obtain ⟨p, ws, rfl, hp, hl, r⟩ := s'.lst'
  exact ⟨p, bs, rfl, by rw [← repL_ints r]; exact .inl (.inl hp), q _ h _ _ (.refl _) (.int _)⟩
/-- x.index(y) of texts -/
def rIndexS : RR := fun x y Q => match x, y with
  | .str a, .str b => ∃ i rest, Builtin.Str.occurrences a b 0 a.length 1 = i :: rest ∧ Q (.int (i : Nat))
  | _, _ => False
theorem md_index : MtD1 X "str.index" rIndexS := by
  refine ⟨⟨_, mt_sindex, ?_⟩⟩
  intro bg O H v1 v2 d1 d2 Q0 Q hO s1 s2 h q
  unfold rIndexS at h
  split at h
  · obtain ⟨i, rest, e, h⟩ := h
    cases s1.str'.1; cases s2.str'.1
    exact ⟨_, _, i, rest, rfl, rfl, e, q _ h _ _ (.refl _) (.int _)⟩
  · exact h.elim
theorem de_index {o e : Expr} {wa wb : WE} {apos pos : Pos} (ho : DB X o wa) (he : DB X e wb)
    (hs : starEach [e] X.env = [(false, eval e X.env)] := by rfl) (hbase : attributeBase o "index" X.env (eval o X.env) = eval o X.env := by rfl) (hline : (apos.endLine == pos.line) = true := by rfl) : DE X (.Call (.Attribute o "index" apos) [e] [] pos) (wMt1 rIndexS wa wb) :=
  de_m1 PySem.F.slot_str_index PySem.F.type_str_index md_index ho he hs hbase hline
/-- a, b = e1, e2 -/
theorem ds_par {Y : XI} {i j : Nat} {x y : Str} {a b : Expr} {w : WA} {px py pt pos : Pos} {kt k2 pt2} (hN : X.N.Nodup) (hi : X.N[i]? = some x) (hj : X.N[j]? = some y) (hij : i ≠ j)
    (hx : X.env.scope.names.lookup x = some .local) (hy : X.env.scope.names.lookup y = some .local) (ha : DA X [a, b] w)
    (hw : swappedStores [.Tuple [.Name x px, .Name y py] kt pt] (.Tuple [a, b] k2 pt2) X.env = pure (some [x, y]) := by rfl)
    (hc : X.calm = true := by rfl) (hs : swapsWithSole [.Tuple [.Name x px, .Name y py] kt pt] (.Tuple [a, b] k2 pt2) pos.line X.env = pure false := by rfl) :
    DS X Y (.Assign [.Tuple [.Name x px, .Name y py] kt pt] (.Tuple [a, b] k2 pt2) pos) (wPar i j w) :=
  .of (ps_par hc hN hi hj hij hx hy ha.pa hw hs) fun E σ H ⟨c, ad, n, env, D0, R, q0, S⟩ => ⟨c, ad, n, env, _, R, q0, fun ds n1 ⟨d, e, ed, q1⟩ vs H1 e1 r1 => by
    subst ed
    cases r1 with
    | @cons v _ _ _ h t =>
      cases t with
      | @cons v2 _ _ _ h2 t =>
        cases t
        have R1 := (R.step e1).set (i := i) h
        have oal : ∀ a, Oa c ad (env.set i (.val d)) a → Oa c ad env a := fun a => oa_less (fun o z => by cases z)
        refine ⟨v, v2, rfl, ?_⟩
        first
        | exact S.nx _ _ q1 _ _ _ (R1.set (i := j) (h2.same (cut_mono fun a o h1 h2 => ⟨fun z => h1 (oal a z), h2⟩)))
        | skip⟩
theorem s_all {Q : D → Prop} {bs : List Bool} : rAllD [.lst (bs.map D.bl)] Q = Q (.bl (bs.all id)) := propext ⟨fun ⟨b, e, h⟩ => by
  have : bs = b := by
    have e' := D.lst.inj (List.cons.inj e).1
    exact List.map_inj_right (fun x y z => D.bl.inj z) |>.1 e'
  subst this
  exact h, fun h => ⟨bs, rfl, h⟩⟩
end
end Dv

set_option Elab.async false
set_option linter.all false
set_option maxRecDepth 100000
set_option maxHeartbeats 4000000
/-! DvC: readings of comprehensions and loops -/
namespace Dv
open PySem PySem.Spec PyProof.Rows L2
section
variable {env : En} {i n : Nat} {wa wb : WE} {g : WG} {wt : WT} {we : WE} {vs : List Nat}
def asZip (d e : D) (Q : List D → Prop) : Prop := match d, e with
  | .lst xs, .lst ys => Q (zipD xs ys)
  | .tup xs, .tup ys => Q (zipD xs ys)
  | _, _ => False
def asStr (d : D) (Q : Str → Prop) : Prop := match d with
  | .str s => Q s
  | _ => False
theorem s_zip {Q : List D → Nat → Prop} : wZip (wCons wa (wCons wb wNil)) env n Q = wa env n fun d n1 => wb env n1 fun e n2 => asZip d e fun ys => Q ys n2 := by
  unfold wZip wCons wNil
  congr 1
  funext d n1
  congr 1
  funext e n2
  refine propext ⟨fun ⟨xs, ys, h, q⟩ => ?_, fun h => ?_⟩
  · rcases h with h | h <;> cases h <;> exact q
  · unfold asZip at h
    split at h
    · exact ⟨_, _, .inl rfl, h⟩
    · exact ⟨_, _, .inr rfl, h⟩
    · exact h.elim
theorem s_zipS {Q : List D → Nat → Prop} : Zs.wZipS (wCons wa (wCons wb wNil)) env n Q = wa env n fun d n1 => wb env n1 fun e n2 => asStr d fun x => asStr e fun y => Q (Zs.zipSD x y) n2 := by
  unfold Zs.wZipS wCons wNil
  congr 1
  funext d n1
  congr 1
  funext e n2
  refine propext ⟨fun ⟨xs, ys, h, q⟩ => ?_, fun h => ?_⟩
  · cases h; exact q
  · unfold asStr at h
    split at h
    · split at h
      · exact ⟨_, _, rfl, h⟩
      · exact h.elim
    · exact h.elim
theorem s_rng1 {Q : List D → Nat → Prop} : wRng1 (wCons wa wNil) env n Q = wa env n fun d n1 => asInt d fun j => (-(2 ^ 62) ≤ j ∧ j < 2 ^ 62) ∧ Q (rngD 0 j.toNat) n1 := by
  unfold wRng1 wCons wNil
  congr 1
  funext d n1
  rw [← ex_int]
  exact propext ⟨fun ⟨j, h, h1, h2, q⟩ => ⟨j, (List.cons.inj h).1, ⟨h1, h2⟩, q⟩, fun ⟨j, h, ⟨h1, h2⟩, q⟩ => ⟨j, by rw [h], h1, h2, q⟩⟩
theorem s_rng2 {Q : List D → Nat → Prop} : wRng2 (wCons wa (wCons wb wNil)) env n Q = wa env n fun d n1 => wb env n1 fun e n2 => asInt d fun i => asInt e fun j => (-(2 ^ 62) ≤ i ∧ i < 2 ^ 62 ∧ -(2 ^ 62) ≤ j ∧ j < 2 ^ 62) ∧ Q (rngD i (j - i).toNat) n2 := by
  unfold wRng2 wCons wNil
  congr 1
  funext d n1
  congr 1
  funext e n2
  rw [← ex_int]
  simp only [← ex_int]
  exact propext ⟨fun ⟨i, j, h, h1, q⟩ => ⟨i, (List.cons.inj h).1, j, (List.cons.inj (List.cons.inj h).2).1, h1, q⟩, fun ⟨i, h, j, h', h1, q⟩ => ⟨i, j, by rw [h, h'], h1, q⟩⟩
theorem asZip_lst {xs ys : List D} {Q : List D → Prop} : asZip (.lst xs) (.lst ys) Q = Q (zipD xs ys) := rfl
theorem asZip_tup {xs ys : List D} {Q : List D → Prop} : asZip (.tup xs) (.tup ys) Q = Q (zipD xs ys) := rfl
theorem asStr_str {s : Str} {Q : Str → Prop} : asStr (.str s) Q = Q s := rfl
theorem rngD_len (lo : Int) (k : Nat) : (rngD lo k).length = k := by unfold rngD; simp
theorem rngD_get {lo : Int} {k i : Nat} {y : D} (h : (rngD lo k)[i]? = some y) : i < k ∧ y = .int (lo + (i : Nat)) := by
  have hl : i < (rngD lo k).length := (List.getElem?_eq_some_iff.1 h).1
  rw [rngD_len] at hl
  refine ⟨hl, ?_⟩
  unfold rngD at h
  rw [List.getElem?_map, List.getElem?_range hl] at h
  exact (Option.some.inj h).symm
/-- what is left of a comprehension when what it walks is known -/
def LcR (g : WG) (wt : WT) (we : WE) (vs : List Nat) (env : En) (ys : List D) (n : Nat) (Q : List D → Nat → Prop) : Prop := ∃ Iv : Nat → List D → Nat → Prop, Iv 0 [] n ∧ (∀ ds n, Iv ys.length ds n → Q ds n) ∧
  ∀ i y ds n, ys[i]? = some y → Iv i ds n → g y (wipeE env vs) fun env2 => wt env2 n fun k n2 => if k = true then we env2 n2 fun d n3 => ds.length < sizeLine ∧ Iv (i + 1) (ds ++ [d]) n3 else Iv (i + 1) ds n2
theorem s_lc {wi : WI} {Q : Ob → Nat → Prop} : wLc wi g wt we vs env n Q = (noOwn env vs = true ∧ wi env n fun ys n1 => LcR g wt we vs env ys n1 fun ds n => Q (.lst ds) n) := rfl
/-- what is left of a loop when what it walks is known -/
def ForR (g : WG) (w : WS) (ys : List D) (D : DEnds) (env : En) (n : Nat) : Prop := ∃ Inv : Nat → En → Nat → Prop, Inv 0 env n ∧ (∀ env n, Inv ys.length env n → D.nx env n) ∧
  ∀ i y env n, ys[i]? = some y → Inv i env n → g y env fun env' => w { D with nx := Inv (i + 1), ct := Inv (i + 1), bk := D.nx } env' n
theorem s_for {wi : WI} {w : WS} {D : DEnds} : wFor wi g w D env n = wi env n fun ys n1 => ForR g w ys D env n1 := rfl
/-- a comprehension without draws -/
theorem lc_map {ys : List D} {Q : List D → Nat → Prop} (f : D → D) (hl : ys.length ≤ sizeLine) (hQ : Q (ys.map f) n)
    (h : ∀ (i : Nat) (y : D), ys[i]? = some y → ∀ R : D → Nat → Prop, R (f y) n → g y (wipeE env vs) fun env2 => we env2 n R) :
    LcR g wYes we vs env ys n Q := by
  refine ⟨fun i ds n' => ds = (ys.take i).map f ∧ n' = n, ⟨rfl, rfl⟩, ?_, ?_⟩
  · rintro ds n' ⟨rfl, rfl⟩
    rw [List.take_length]
    exact hQ
  · rintro i y ds n' hy ⟨rfl, rfl⟩
    have hi : i < ys.length := (List.getElem?_eq_some_iff.1 hy).1
    refine h i y hy _ ⟨?_, ?_, rfl⟩
    · rw [List.length_map, List.length_take]
      omega
    · rw [List.take_add_one, hy, List.map_append]
      rfl
/-- the same with a test -/
theorem lc_filter {ys : List D} {Q : List D → Nat → Prop} (p : D → Bool) (f : D → D) (hl : ys.length ≤ sizeLine) (hQ : Q ((ys.filter p).map f) n)
    (h : ∀ (i : Nat) (y : D), ys[i]? = some y → ∀ (R : D → Nat → Prop) (S : Nat → Prop), (p y = true → R (f y) n) → (p y = false → S n) → g y (wipeE env vs) fun env2 => wt env2 n fun k n2 => if k = true then we env2 n2 R else S n2) :
    LcR g wt we vs env ys n Q := by
  refine ⟨fun i ds n' => ds = ((ys.take i).filter p).map f ∧ n' = n, ⟨rfl, rfl⟩, ?_, ?_⟩
  · rintro ds n' ⟨rfl, rfl⟩
    rw [List.take_length]
    exact hQ
  · rintro i y ds n' hy ⟨rfl, rfl⟩
    have hi : i < ys.length := (List.getElem?_eq_some_iff.1 hy).1
    have et : (ys.take (i + 1)).filter p = (ys.take i).filter p ++ [y].filter p := by
      rw [List.take_add_one, hy, List.filter_append]
      rfl
    refine h i y hy _ _ (fun hp => ⟨?_, ?_, rfl⟩) (fun hp => ⟨?_, rfl⟩)
    · rw [List.length_map]
      have := List.length_filter_le p (ys.take i)
      rw [List.length_take] at this
      omega
    · rw [et, List.map_append, List.filter_cons_of_pos hp]
      rfl
    · rw [et, List.filter_cons_of_neg (by rw [hp]; exact Bool.false_ne_true)]
      simp
/-- a comprehension that draws: each item is one of V, at most c draws for each -/
theorem lc_draw {ys : List D} {Q : List D → Nat → Prop} (V : Nat → D → Prop) (c : Nat) (hl : ys.length ≤ sizeLine) (hQ : ∀ ds n', ds.length = ys.length → (∀ (i : Nat) (d : D), ds[i]? = some d → V i d) → n ≤ n' → n' ≤ n + ys.length * c → Q ds n')
    (h : ∀ (i : Nat) (y : D), ys[i]? = some y → ∀ (n1 : Nat) (R : D → Nat → Prop), n ≤ n1 → n1 ≤ n + i * c → (∀ d n2, V i d → n1 ≤ n2 → n2 ≤ n1 + c → R d n2) → g y (wipeE env vs) fun env2 => we env2 n1 R) :
    LcR g wYes we vs env ys n Q := by
  refine ⟨fun i ds n' => ds.length = i ∧ (∀ (j : Nat) (d : D), ds[j]? = some d → V j d) ∧ n ≤ n' ∧ n' ≤ n + i * c, ⟨rfl, fun j d e => by simp at e, Nat.le_refl _, by omega⟩, ?_, ?_⟩
  · rintro ds n' ⟨h1, h2, h3, h4⟩
    exact hQ ds n' h1 h2 h3 h4
  · rintro i y ds n' hy ⟨h1, h2, h3, h4⟩
    have hi : i < ys.length := (List.getElem?_eq_some_iff.1 hy).1
    refine h i y hy n' _ h3 h4 fun d n2 hv hn hn2 => ⟨by omega, by rw [List.length_append, h1]; rfl, fun j e he => ?_, by omega, ?_⟩
    · by_cases hj : j < ds.length
      · rw [List.getElem?_append_left hj] at he
        exact h2 j e he
      · rw [List.getElem?_append_right (by omega)] at he
        have hj2 : j - ds.length = 0 := by
          cases z : j - ds.length with
          | zero => rfl
          | succ k => rw [z] at he; simp at he
        rw [hj2] at he
        have : j = i := by omega
        rw [this]
        simp at he
        rw [← he]
        exact hv
    · rw [Nat.succ_mul]
      omega
end
end Dv

set_option Elab.async false
set_option linter.all false
set_option maxRecDepth 100000
set_option maxHeartbeats 4000000
/-! DvD: texts of signs: join, times; lengths -/
namespace Dv
open PySem PySem.Spec PyProof.Rows L2
theorem len_toList (s : Str) : s.length = s.cps.toList.length := (Array.length_toList).symm
def sgn (c : Nat) : Str := ⟨#[c]⟩
theorem signs_of {P : Nat → Prop} : ∀ {ds : List D}, (∀ (i : Nat) (d : D), ds[i]? = some d → ∃ c, P c ∧ d = .str (sgn c)) → ∃ cs : List Nat, ds = cs.map (fun c => D.str (sgn c)) ∧ ∀ c ∈ cs, P c
  | [], _ => ⟨[], rfl, fun c h => by cases h⟩
  | d :: ds, h => by
    obtain ⟨c, hc, e⟩ := h 0 d rfl
    obtain ⟨cs, e2, h2⟩ := signs_of (ds := ds) fun i d' h' => h (i + 1) d' (by simpa using h')
    refine ⟨c :: cs, by rw [e, e2]; rfl, fun x hx => ?_⟩
    rcases List.mem_cons.1 hx with e | hx
    · rw [e]; exact hc
    · exact h2 x hx
theorem inter_nil {α : Type} : ∀ (l : List (List α)), (l.intersperse []).flatten = l.flatten
  | [] => rfl
  | [x] => by simp
  | x :: y :: l => by
    rw [List.intersperse_cons₂, List.flatten_cons, List.flatten_cons, inter_nil (y :: l)]
    rfl
theorem join_nil (ss : List Str) : (Txt.join "" ss).cps.toList = (ss.map fun z : Str => z.cps.toList).flatten := by
  rw [join_codes]
  exact inter_nil _
theorem join_signs (cs : List Nat) : (Txt.join "" (cs.map sgn)).cps.toList = cs := by
  rw [join_nil, List.map_map]
  induction cs with
  | nil => rfl
  | cons c cs ih =>
    rw [List.map_cons, List.flatten_cons, ih]
    rfl
theorem signs_len (cs : List Nat) : ((cs.map sgn).map (·.length)).sum = cs.length := by
  induction cs with
  | nil => rfl
  | cons c cs ih =>
    rw [List.map_cons, List.map_cons, List.sum_cons, ih, List.length_cons]
    show 1 + cs.length = _
    omega
theorem strsOf_signs (cs : List Nat) : strsOf (cs.map fun c => D.str (sgn c)) = some (cs.map sgn) := by
  have : (cs.map fun c => D.str (sgn c)) = (cs.map sgn).map D.str := by rw [List.map_map]; rfl
  rw [this]
  exact strsOf_map _
theorem mul_codes (s : Str) (n : Int) : (Txt.mul s n).cps.toList = (List.replicate n.toNat s.cps.toList).flatten := by
  unfold Txt.mul
  by_cases h0 : n < 1
  · rw [if_pos h0]
    have : n.toNat = 0 := by omega
    rw [this]
    rfl
  · rw [if_neg h0]
    split
    · rename_i h1
      have h1' : n = 1 ∨ s.length = 0 := by simpa using h1
      rcases h1' with h1' | h1'
      · subst h1'
        simp
      · rw [len_toList] at h1'
        have e := List.length_eq_zero_iff.1 h1'
        rw [e]
        simp
    · have key : ∀ (k : Nat) (a : Array Nat), ((List.replicate k s.cps).foldl (· ++ ·) a).toList = a.toList ++ (List.replicate k s.cps.toList).flatten := by
        intro k
        induction k with
        | zero => intro a; simp
        | succ k ih =>
          intro a
          rw [List.replicate_succ, List.foldl_cons, ih, List.replicate_succ, List.flatten_cons, Array.toList_append, List.append_assoc]
      show ((List.replicate n.toNat s.cps).foldl (· ++ ·) #[]).toList = _
      rw [key]
      rfl
theorem mul_len (s : Str) (n : Int) : (Txt.mul s n).length = n.toNat * s.length := by
  rw [len_toList, mul_codes, List.length_flatten, List.map_replicate, List.sum_replicate_nat, ← len_toList]
theorem app_codes (s t : Str) : (s ++ t).cps.toList = s.cps.toList ++ t.cps.toList := by
  show (s.cps ++ t.cps).toList = _
  simp
theorem s_inL {neg : Bool} {x : D} {ys : List D} {Q : D → Prop} : Dv.rInD neg x (.lst ys) Q = ((x.data = true ∧ D.datas ys = true ∧ x.dep ≤ 63 ∧ D.deps ys ≤ 63) ∧ Q (.bl (if neg then !ys.any fun z => z.eqv x else ys.any fun z => z.eqv x))) := rfl
theorem s_inT {neg : Bool} {x : D} {ys : List D} {Q : D → Prop} : Dv.rInD neg x (.tup ys) Q = ((x.flatD = true ∧ ys.all D.flatD = true) ∧ Q (.bl (if neg then !ys.any fun z => z.eqv x else ys.any fun z => z.eqv x))) := rfl
end Dv

set_option Elab.async false
set_option linter.all false
set_option maxRecDepth 100000
set_option maxHeartbeats 4000000
/-! DvL: a draw, the bag, the law's own body: from the bag on by value -/
namespace Dv
open PySem PySem.Spec PyProof.Rows L2
theorem bag_ne {H : Hp} {b l : Addr} {p r m c : Int} {ns : List Int} (h : H b = some (bagL l p r m c)) (h2 : H l = some (.lst (ns.map V.int))) : l ≠ b := fun e => by
  subst e
  rw [h] at h2
  have z := HO.lst.inj (Option.some.inj h2)
  cases ns with
  | nil => cases z
  | cons x r => cases z
def tops : Nat := 8000
def spDraw : Sp := fun vs H Q _ => ∃ (b l : Addr) (n : Nat) (top : Int), vs = [.ref b, .int top] ∧ BagAt H b l n ∧ n < 2 ^ 40 ∧ 0 < top ∧ top.natAbs < 2 ^ tops ∧
  ∀ o k, BagAt (upd H b o) b l (n + 1) → (∃ xs, o = .lst xs) → 0 ≤ k → k < top → Q (.int k) (upd H b o)
def spBag (K : PySem.W.Frag) : Sp := fun vs H Q _ => ∃ (a : Addr) (ns : List Int), vs = [.ref a] ∧ SqL K H a (ns.map V.int) ∧ ns.length ≤ 63 ∧
  ∀ H' b l, Same H H' → H b = none → BagAt H' b l 0 → Q (.ref b) H'
def spLaw (K : PySem.W.Frag) : Sp := fun vs H Q _ => ∃ (a : Addr) (ns : List Int), vs = [.ref a] ∧ SqL K H a (ns.map V.int) ∧ ns.length ≤ 63 ∧ ∀ H', Q (.bl true) H'
section
variable {P : Program} {w : World} {K : PySem.W.Frag} {mg : Str → Option Value} {base : Heap}
def sp_draw : DSp := fun ds n Q _ => ∃ top : Int, ds = [.bag, .int top] ∧ n < 2 ^ 40 ∧ 0 < top ∧ top.natAbs < 2 ^ tops ∧ ∀ k : Int, 0 ≤ k → k < top → Q (.int k) (n + 1)
theorem draw_dv {f : Addr} {fd : FuncData} {k : Nat} {ps : List Str} (h : FnOk P w K mg base CX0 k f fd ps spDraw) : FnOk P w K mg base CX0 k f fd ps (lSp K sp_draw) := by
  refine h.imp fun vs H Q E ⟨c, ds, n, Q0, E0, ⟨h0, h1, hc⟩, r, ⟨top, ed, hn, ht, hb, hq⟩, h4, h5⟩ => ?_
  subst ed
  cases r with
  | cons r1 r2 =>
    cases r2 with
    | cons r2 r3 =>
      cases r3
      cases r1 with
      | @bag b l eb =>
        cases r2
        obtain ⟨bat, hb1, hb2⟩ := hc b l eb
        refine ⟨b, l, n, top, rfl, bat, hn, ht, hb, fun o k bat' _ k0 k1 => h4 _ _ (hq k k0 k1) _ _ ⟨fun a u e na => ?_, fun b' l' e => ?_⟩ (.int _)⟩
        · rw [upd_ne (fun z => na ⟨l, by rw [z]; exact eb⟩)]
          exact e
        · rw [eb] at e
          cases e
          exact ⟨bat', hb1, hb2⟩
/-- the ends of a law: it returns True -/
def endsLaw : DEnds := { nx := fun _ _ => False, rt := fun d _ => d = .bl true }
/-- the slots behind the bag's making -/
def lawEnv (N : List Str) (i : Nat) : En := (List.replicate N.length SD.un).set i (.val .bag)
theorem no_own_un {m i : Nat} {j : Nat} : ¬ Own ((List.replicate m SD.un).set i (.val .bag)) j := fun ⟨o, e⟩ => by
  by_cases h : j = i
  · subst h
    by_cases hl : j < (List.replicate m SD.un).length
    · rw [List.getElem?_set_self hl] at e
      cases e
    · rw [List.getElem?_eq_none (by simpa using hl)] at e
      cases e
  · rw [List.getElem?_set_ne (Ne.symm h), List.getElem?_replicate] at e
    split at e <;> cases e
/-- THE RULE for a law: the bag made first -/
theorem dok_law {st : Stmt} {f fb : Addr} {fd fdb : FuncData} {N : List Str} {sc bn : Str} {k i : Nat} {p1 p2 p3 p4 p5 : Pos} (F : Fun K "law" "law" st f fd) (S : FnScope N [sc] (defScope st))
    (B : FnOk P w K mg base CX0 k fb fdb [sc] (spBag K)) (mb : mg "_law_bag" = some (.ref fb)) (kb : PySem.W.keepIn K (.ref fb) = true) (bb : Binds K fdb [sc] [])
    (h0 : N[0]? = some sc) (hi : N[i]? = some bn) (hb : defBody st = .Assign [.Name bn p1] (.Call (.Name "_law_bag" p2) [.Name sc p3] [] p4) p5 :: (defBody st).tail)
    (hfirst : ∀ (cdv : Value) (A : Around) (outer : List Env) (s : Shared) (H : Hp) (E : XK), Room k (A.deeper (envOfC "law" (defScope st) s.heap.objs.size f cdv)) →
      PS (cxOf CX0 P w K mg base N "law" (defScope st) f cdv A outer s H E).nox (.Assign [.Name bn p1] (.Call (.Name "_law_bag" p2) [.Name sc p3] [] p4) p5) (tAsg (tCall (spBag K) [] E0 (tCons (tVar 0) tNil)) (gName i)))
    (hbody : ∀ (cdv : Value) (A : Around) (outer : List Env) (s : Shared) (H : Hp) (E : XK), Room k (A.deeper (envOfC "law" (defScope st) s.heap.objs.size f cdv)) →
      ∃ t, DSs (cxOf CX0 P w K mg base N "law" (defScope st) f cdv A outer s H E).nox (y0 H) (defBody st).tail t ∧ t endsLaw (lawEnv N i) 0) : FnOk P w K mg base CX0 (k + 1) f fd [sc] (spLaw K) := by
  refine F.ok S (fun vs H Q E ⟨a, ns, e, _⟩ => by rw [e]; rfl) (fun cdv A outer s H vs Q E hr h => ?_)
  obtain ⟨a, ns, rfl, hS, hlen, q⟩ := h
  obtain ⟨t, ht, hq⟩ := hbody cdv A outer s H E hr
  rw [hb]
  refine ⟨_, pss_cons (hfirst cdv A outer s H E hr) ht.ps, ?_⟩
  refine ⟨.ref a, by unfold L2.start; rfl, a, ns, rfl, hS, hlen, fun H' b l sm hn bat => ?_⟩
  have hlb : ∀ x y, (some (b, l) : Option (Addr × Addr)) = some (x, y) → x = b ∧ y = l := fun x y e => by cases e; exact ⟨rfl, rfl⟩
  have hil : i < N.length := (List.getElem?_eq_some_iff.1 hi).1
  have h1l : 1 ≤ N.length := by
    have := (List.getElem?_eq_some_iff.1 h0).1
    omega
  have nbag : ∀ x, (⟨H, fun x => x = b ∨ x = l, some (b, l), fun _ => False⟩ : Ctx).isBag x → x = b := fun x ⟨y, e⟩ => (hlb x y e).1 |> fun z => by
    cases e
    rfl
  have R : Rel K ⟨H, fun x => x = b ∨ x = l, some (b, l), fun _ => False⟩ (fun _ => 0) 0 ((L2.start N [.ref a]).set i (some (.ref b))) H' (lawEnv N i) := by
    have nol : ∀ x, (x = b ∨ x = l) → H' x ≠ none := fun x hx => by
      obtain ⟨ns', p, r, m, c, g1, g2, _⟩ := bat
      rcases hx with e | e
      · rw [e, g1]; exact fun z => nomatch z
      · rw [e, g2]; exact fun z => nomatch z
    refine ⟨?_, fun x o hx _ => sm x o hx, nol, fun x y e => ?_, fun j _ hj => absurd hj no_own_un, fun j hj => absurd hj no_own_un, fun j hj => absurd hj no_own_un, fun j sd e => ?_, fun a h => h.elim⟩
    · unfold lawEnv L2.start
      rw [List.length_set, List.length_replicate, List.length_set, List.length_append, List.length_map, List.length_replicate]
      show N.length ≤ 1 + (N.length - 1)
      omega
    · cases e
      exact ⟨bat, .inl rfl, .inr rfl⟩
    · unfold lawEnv at e
      by_cases z : j = i
      · subst z
        rw [List.getElem?_set_self (by rw [List.length_replicate]; exact hil)] at e
        obtain rfl := Option.some.inj e
        refine ⟨.ref b, ?_, .bag rfl⟩
        rw [List.getElem?_set_self]
        unfold L2.start
        rw [List.length_append, List.length_map, List.length_replicate]
        show j < 1 + (N.length - 1)
        omega
      · rw [List.getElem?_set_ne (Ne.symm z), List.getElem?_replicate] at e
        split at e
        · cases e; trivial
        · cases e
  refine ⟨_, _, 0, _, endsLaw, R, hq, ?_⟩
  refine ⟨fun env n h => h.elim, fun env n h => h.elim, fun env n h => h.elim, fun d n h v H2 _ _ r => ?_, fun o n h => h.elim, fun env n x h => h.elim, fun a h => .inl h⟩
  have h' : d = .bl true := h
  subst h'
  cases r
  exact q H2
end
end Dv

set_option Elab.async false
set_option linter.all false
set_option maxRecDepth 100000
set_option maxHeartbeats 4000000
/-! DvE: defs as they lie in the heap; keywords bound -/
namespace Dv
open PySem PySem.Spec PyProof.Rows L2
def FunAt (K : PySem.W.Frag) (x qual : Str) (st : Stmt) (f : Addr) : Prop := ∃ fd : FuncData, Fun K x qual st f fd
theorem funAt_mk {K : PySem.W.Frag} {x qual : Str} {st : Stmt} {f : Addr} {oc : Value} {od an : Option Addr} {osl : Array (Option Value)} {kV doc pm cdv ct : Value} (l : K.lookup f = some ⟨oc, od, .func (PySem.W.fnOf x qual (defArgs st) (defBody st) (defScope st) .none kV doc pm an cdv ct), osl⟩)
    (c : PySem.W.codeIn K cdv qual = true) (k : PySem.W.keepIn K (.ref f) = true) : FunAt K x qual st f := ⟨_, fun_mk l c k⟩
/-- a call by keywords alone: ks in the call's order, ix the places of the parameters in it -/
theorem kbinds {K : PySem.W.Frag} {x qual : Str} {st : Stmt} {f : Addr} {fd : FuncData} {ps ks : List Str} {ix : List Nat} (F : Fun K x qual st f fd) (hp : ps ≠ [])
    (h : ∀ (kV doc pm : Value) (an : Option Addr) (cdv ct : Value) (ws : List Value), ws.length = ks.length → bindArgs (PySem.W.fnOf x qual (defArgs st) (defBody st) (defScope st) .none kV doc pm an cdv ct) ⟨[], ks.zip ws⟩ = pure (ps.zip (ix.filterMap fun i => ws[i]?))) : KBinds K fd ps ks (pickL ks.length ix) (pickL ks.length ix) := by
  obtain ⟨oc, od, kV, doc, pm, an, cdv, ct, osl, rfl, lk, hcd⟩ := F.ex
  exact kb_of hp fun s ws hl => .of_eq (h kV doc pm an cdv ct ws hl)
end Dv

set_option Elab.async false
set_option linter.all false
set_option maxRecDepth 100000
set_option maxHeartbeats 4000000
/-! DvX: exceptions by value: calls that may raise, raise, try -/
namespace Dv
open PySem PySem.Spec PyProof.Rows L2 Ke
abbrev XW := EX → Nat → Prop
/-- an expression that may raise: what is wanted then comes first -/
abbrev WEX := XW → WE
abbrev WAX := XW → WA
def lEX (K : PySem.W.Frag) (Y : XI) (w : WEX) : TE := fun σ H Q => ∃ c ad n env Q0 E0, Rel K c ad n σ H env ∧ w E0 env n Q0 ∧ (∀ d n', Q0 d n' → ∀ v H', EStp c H H' n' → Rep K c.bg (cut (Oa c ad env) H') v d → Q v H') ∧
  ∀ x n', E0 x n' → ∀ od H', EStp c H H' n' → ExR K c.bg (Oa c ad env) H' x od → Y.W (.ref x.C) od σ H'
def lAX (K : PySem.W.Frag) (Y : XI) (w : WAX) : TA := fun σ H Q => ∃ c ad n env Q0 E0, Rel K c ad n σ H env ∧ w E0 env n Q0 ∧ (∀ ds n', Q0 ds n' → ∀ vs H', EStp c H H' n' → RepL K c.bg (cut (Oa c ad env) H') vs ds → Q vs H') ∧
  ∀ x n', E0 x n' → ∀ od H', EStp c H H' n' → ExR K c.bg (Oa c ad env) H' x od → Y.W (.ref x.C) od σ H'
structure DEX (X : Cx) (Y : XI) (e : Expr) (w : WEX) : Prop where
  pe : PE X e (lEX X.K Y w)
structure DAX (X : Cx) (Y : XI) (es : List Expr) (w : WAX) : Prop where
  pa : PA X es (lAX X.K Y w)
theorem ExR.same {K : PySem.W.Frag} {bg : Option (Addr × Addr)} {O O' : Addr → Prop} {H H' : Hp} {x : EX} {od : Option Addr} (e : Same (cut O H) (cut O' H')) (h : ExR K bg O H x od) : ExR K bg O' H' x od := by
  cases od with
  | none => exact h
  | some d =>
    obtain ⟨fs, fv, h1, h2, h3⟩ := h
    exact ⟨fs, fv, h1, e _ _ h2, h3.same e⟩
section
variable {X : Cx} {Y : XI} {e : Expr} {es : List Expr} {we : WEX} {w : WE} {wa : WA} {wx : WAX} {pos p : Pos} {x : Str}
theorem DEX.of {t : TE} (h : PE X e t) (k : ∀ σ H Q, lEX X.K Y we σ H Q → t σ H Q) : DEX X Y e we := ⟨peImp h k⟩
theorem DE.toX (h : DE X e w) : DEX X Y e (fun _ => w) := .of h.pe fun σ H Q ⟨c, ad, n, env, Q0, E0, R, q0, q, qe⟩ => ⟨c, ad, n, env, Q0, R, q0, q⟩
theorem DA.toX (h : DA X es wa) : DAX X Y es (fun _ => wa) := ⟨paImp h.pa fun σ H Q ⟨c, ad, n, env, Q0, E0, R, q0, q, qe⟩ => ⟨c, ad, n, env, Q0, R, q0, q⟩⟩
def wNilX : WAX := fun _ => wNil
def wConsX (w : WEX) (r : WAX) : WAX := fun E env n Q => w E env n fun d n1 => r E env n1 fun ds n2 => Q (d :: ds) n2
theorem dax_nil : DAX X Y [] wNilX := da_nil.toX
theorem dax_cons {a : Expr} (h : DEX X Y a we) (k : DAX X Y es wx) (hs : starEach (a :: es) X.env = (false, eval a X.env) :: starEach es X.env := by rfl) : DAX X Y (a :: es) (wConsX we wx) := ⟨paImp (pa_cons h.pe k.pa hs) fun σ H Q ⟨c, ad, n, env, Q0, E0, R, q0, q, qe⟩ =>
  ⟨c, ad, n, env, _, E0, R, q0, fun d n1 q1 v H1 e1 r1 => ⟨c, ad, n1, env, _, E0, R.step e1, q1, fun ds n2 q2 vs H2 e2 r2 => q _ _ q2 _ _ (e1.trans e2) (.cons (r1.same (e2.cut R.oaB)) r2), fun x n2 hx od H2 e2 r2 => qe _ _ hx _ _ (e1.trans e2) r2⟩, qe⟩⟩
theorem de_tupX {x1} (h : DAX X Y es wx) : DEX X Y (.Tuple es x1 pos) (fun E => wTup (wx E)) := .of (pe_tup h.pa) fun σ H Q ⟨c, ad, n, env, Q0, E0, R, q0, q, qe⟩ => ⟨c, ad, n, env, _, E0, R, q0, fun ds n1 ⟨hz, q1⟩ vs H1 e1 r1 => ⟨by rw [r1.len]; exact hz, fun p hp => by
  obtain ⟨sm, rp⟩ := rep_newT (R.step e1).oaD hp (by rw [r1.len]; exact hz) r1
  exact q _ _ q1 _ _ (e1.trans (.of_same e1.bag sm)) rp⟩, qe⟩
/-! ### calls -/
def wFnX (sp : DSp) (wa : WA) : WEX := fun E env n Q => wa env n fun ds n1 => sp ds n1 Q E
theorem fnX_read {K : PySem.W.Frag} {Y : XI} {sp : DSp} {σ : L2.St} {H : Hp} {Q : VK} (h : lEX K Y (wFnX sp wa) σ H Q) : tCallS (lSp K sp) (L2.WE Y.W) (lA K wa) σ H Q := by
  obtain ⟨c, ad, n, env, Q0, E0, R, q0, q, qe⟩ := h
  refine ⟨c, ad, n, env, _, R, q0, fun ds n1 q1 vs H1 e1 r1 => ?_⟩
  have R1 := R.step e1
  refine ⟨⟨H1, Oa c ad env, c.bg, fun _ => False⟩, ds, n1, Q0, E0, ⟨rfl, R1.oaD, fun b l eb => ?_⟩, r1, q1, fun d n2 hd v H2 e2 r2 => ?_, fun x n2 hx od H2 e2 r2 => ?_⟩
  · obtain ⟨h1, h2, h3⟩ := R1.bag b l eb
    exact ⟨h1, .inl h2, .inl h3⟩
  · exact q _ _ hd _ _ (e1.trans (e2.cx (c := c) rfl R1.bag)) r2
  · exact qe _ _ hx _ _ (e1.trans (e2.cx (c := c) rfl R1.bag)) r2
theorem de_callX {k : Nat} {ps : List Str} {sp : DSp} (C : Cal X.prog X.w X.K X.mg X.base (L2.CX X.prog X.w) k x ps sp) (tk : Takes X Y.W) (hr : Room k X.A) (ha : DA X (e :: es) wa) (hg : Gl X x := by rfl)
    (hdb : (x == ("__debug__" : Str)) = false := by decide) (he : starEach (e :: es) X.env = (false, eval e X.env) :: starEach es X.env := by rfl) (hpl : (backTo pos (starEach es X.env)).any (·.1) = false := by rfl) : DEX X Y (.Call (.Name x p) (e :: es) [] pos) (wFnX sp wa) := by
  obtain ⟨g, gd, F, hm, hk, hb⟩ := C.ex
  exact .of (pe_callS F hr hg hm hk hb (fun σ => passAt tk σ) ha.pa hdb he hpl) fun σ H Q h => fnX_read h
/-- a def that may raise, called where it does not -/
theorem de_callL {k : Nat} {ps : List Str} {sp : DSp} (C : Cal X.prog X.w X.K X.mg X.base (L2.CX X.prog X.w) k x ps sp) (hr : Room k X.A) (ha : DA X (e :: es) wa) (hg : Gl X x := by rfl)
    (hdb : (x == ("__debug__" : Str)) = false := by decide) (he : starEach (e :: es) X.env = (false, eval e X.env) :: starEach es X.env := by rfl) (hpl : (backTo pos (starEach es X.env)).any (·.1) = false := by rfl) : DE X (.Call (.Name x p) (e :: es) [] pos) (wFn sp wa) := by
  obtain ⟨g, gd, F, hm, hk, hb⟩ := C.ex
  exact .of (pe_call F hr hg hm hk hb .nil passL ha.pa hdb he hpl) fun σ H Q h => fn_read h
/-! ### statements -/
theorem ds_exprX (h : DEX X Y e we) (hs : swapsWith e none pos.line X.env = pure false := by rfl) : DS X Y (.Expr e pos) (fun D env n => we (fun x n' => D.ex env n' x) env n fun _ n1 => D.nx env n1) := .of (ps_expr h.pe hs) fun E σ H ⟨c, ad, n, env, D0, R, q0, S⟩ =>
  ⟨c, ad, n, env, _, _, R, q0, fun d n1 q1 v H1 e1 r1 => S.nx _ _ q1 _ _ _ (R.step e1), fun x n1 hx od H1 e1 r1 => S.ex _ _ _ hx _ _ _ _ (R.step e1) r1⟩
def wRetX (we : WEX) : WS := fun D env n => we (fun x n' => D.ex env n' x) env n D.rt
theorem ds_retX (h : DEX X Y e we) : DS X Y (.Return (some e) pos) (wRetX we) := .of (ps_ret h.pe) fun E σ H ⟨c, ad, n, env, D0, R, q0, S⟩ =>
  ⟨c, ad, n, env, _, _, R, q0, fun d n1 q1 v H1 e1 r1 => S.rt _ _ q1 _ _ (R.back e1) e1.bag (r1.same oa_ge), fun x n1 hx od H1 e1 r1 => S.ex _ _ _ hx _ _ _ _ (R.step e1) r1⟩
def wSetX (i : Nat) (we : WEX) : WS := fun D env n => we (fun x n' => D.ex env n' x) env n fun d n1 => D.nx (env.set i (.val d)) n1
theorem ds_setX {i : Nat} {pos' : Pos} (hN : X.N.Nodup) (hi : X.N[i]? = some x) (hx : Loc X.env.scope x) (h : DEX X Y e we) (hs : swapsWith e (some (.Name x pos')) pos.line X.env = pure false := by rfl) (hf : X.fn x = true ∨ X.env.scope.names.lookup x = some .local := by first | exact .inl rfl | exact .inr rfl | assumption) :
    DS X Y (.Assign [.Name x pos'] e pos) (wSetX i we) := .of (ps_set hN hi hx h.pe hs hf) fun E σ H ⟨c, ad, n, env, D0, R, q0, S⟩ =>
  ⟨c, ad, n, env, _, _, R, q0, fun d n1 q1 v H1 e1 r1 => S.nx _ _ q1 _ _ _ ((R.step e1).set r1), fun x n1 hx od H1 e1 r1 => S.ex _ _ _ hx _ _ _ _ (R.step e1) r1⟩
/-! ### raise -/
theorem zip_rep {K : PySem.W.Frag} {bg : Option (Addr × Addr)} {H : Hp} : ∀ {ns : List Str} {vs : List V} {ds : List D}, RepL K bg H vs ds → RepF K bg H (ns.zip vs) (ns.zip ds)
  | [], _, _, _ => .nil
  | _ :: _, _, _, .nil => .nil
  | _ :: _, _, _, .cons h t => .cons h (zip_rep t)
theorem RepF.app {K : PySem.W.Frag} {bg : Option (Addr × Addr)} {H : Hp} : ∀ {vs ws : List (Str × V)} {ds es : List (Str × D)}, RepF K bg H vs ds → RepF K bg H ws es → RepF K bg H (vs ++ ws) (ds ++ es)
  | _, _, _, _, .nil, h => h
  | _, _, _, _, .cons h t, k => .cons h (RepF.app t k)
theorem RepF.rev {K : PySem.W.Frag} {bg : Option (Addr × Addr)} {H : Hp} : ∀ {vs : List (Str × V)} {ds : List (Str × D)}, RepF K bg H vs ds → RepF K bg H vs.reverse ds.reverse
  | _, _, .nil => .nil
  | _, _, .cons h t => by
    rw [List.reverse_cons, List.reverse_cons]
    exact (RepF.rev t).app (.cons h .nil)
theorem RepF.nil_iff {K : PySem.W.Frag} {bg : Option (Addr × Addr)} {H : Hp} {vs : List (Str × V)} {ds : List (Str × D)} (h : RepF K bg H vs ds) : vs = [] ↔ ds = [] := by cases h <;> simp
/-- a new exception raised: let go, its dict stays -/
theorem throw_at {K : PySem.W.Frag} {Y : XI} {c : Ctx} {ad : Nat → Addr} {n n1 : Nat} {σ : L2.St} {H H1 H' : Hp} {env : En} {D0 : DEnds} {E : Ends} {a C : Addr} {fv : List (Str × V)} {fs : List (Str × D)} (R : Rel K c ad n σ H env) (S : SEnds K Y c D0 E) (e1 : EStp c H H1 n1)
    (na : H1 a = none) (sm : Same H1 H') (nw : ExcNew H1 H' a C fv) (r : RepF K c.bg (cut (Oa c ad env) H1) fv fs) (xc : XCl K C) (hq : D0.ex env n1 ⟨C, if fs = [] then none else some fs⟩) :
    ∃ (a' C' : Addr) (d : Option Addr), V.ref a = .ref a' ∧ H' a' = some (exo a' C' d) ∧ Y.H a' = none ∧ XCl K C' ∧
      match d with
      | none => Y.W (.ref C') none σ (delH H' a')
      | some dx => ∃ fs, H' dx = some (exd dx fs) ∧ Y.W (.ref C') (some dx) σ (upd (delH H' a') dx (.xd fs)) := by
  have R1 := R.step e1
  have ha0 : Y.H a = none := by
    cases z : Y.H a with
    | none => rfl
    | some o =>
      rcases S.h0 a (by rw [z]; exact fun z => nomatch z) with h | h | h
      · cases q : c.H0 a with
        | none => exact absurd q h
        | some o' =>
          by_cases hb : c.isBag a
          · exact absurd na (R1.dom a (oa_bag R1.bag hb))
          · rw [R1.base a o' q hb] at na; cases na
      · exact absurd na (R1.dom a (oa_bag R1.bag h))
      · exact absurd na (R1.ex0 a h)
  have hbag : ∀ G : Hp, (∀ b o, H1 b = some o → G b = some o) → CW c n1 G := fun G hk b l eb => by
    obtain ⟨⟨ns, q, r', m, k, h1, h2, h3⟩, h4⟩ := R1.bag _ _ eb
    exact ⟨⟨ns, q, r', m, k, hk _ _ h1, hk _ _ h2, h3⟩, h4⟩
  rcases nw with ⟨e0, ha⟩ | ⟨d, hda, nd, ha, hd, hne⟩
  · refine ⟨a, C, none, rfl, ha, ha0, xc, ?_⟩
    have hk : ∀ b o, H1 b = some o → delH H' a b = some o := fun b o h => by
      rw [delH_ne (fun z => by rw [z, na] at h; cases h)]
      exact sm _ _ h
    have e2 : EStp c H (delH H' a) n1 := ⟨fun b o h hb => hk _ _ (e1.keep b o h hb), hbag _ hk⟩
    have ef : fs = [] := r.nil_iff.1 e0
    rw [if_pos ef] at hq
    exact S.ex env n1 ⟨C, none⟩ hq _ _ _ none (R.step e2) rfl
  · refine ⟨a, C, some d, rfl, ha, ha0, xc, fv, hd, ?_⟩
    have hk : ∀ b o, H1 b = some o → upd (delH H' a) d (.xd fv) b = some o := fun b o h => by
      rw [upd_ne (fun z => by rw [z, nd] at h; cases h), delH_ne (fun z => by rw [z, na] at h; cases h)]
      exact sm _ _ h
    have e2 : EStp c H (upd (delH H' a) d (.xd fv)) n1 := ⟨fun b o h hb => hk _ _ (e1.keep b o h hb), hbag _ hk⟩
    have ef : fs ≠ [] := fun z => hne (r.nil_iff.2 z)
    rw [if_neg ef] at hq
    refine S.ex env n1 ⟨C, some fs⟩ hq _ _ _ (some d) (R.step e2) ⟨fs, fv, rfl, ?_, r.same (cut_mono fun b o h1 h2 => ⟨h1, hk _ _ h2⟩)⟩
    rw [cut_out (R1.free nd)]
    exact upd_same
def wRaise (C : Addr) (ns : List Str) (wa : WA) : WS := fun D env n => wa env n fun ds n1 => ds.length = ns.length ∧ D.ex env n1 ⟨C, if (ns.zip ds).reverse = [] then none else some (ns.zip ds).reverse⟩
theorem ds_raise {C : Addr} {ns : List Str} {p2 : Pos} (O : CtorOk X.prog X.w X.K X.mg X.base x C ns) (tk : Takes X Y.W) (hr : Room 2 X.A) (ha : DA X (e :: es) wa) (hY : Y.H = X.H_0 := by rfl) (hx : X.ex = [] := by rfl) (hc : X.calm = true := by rfl) (hg : Gl X x := by rfl)
    (hdb : (x == ("__debug__" : Str)) = false := by decide) (hz : ns.length ≤ 1000 := by decide)
    (he : starEach (e :: es) X.env = (false, eval e X.env) :: starEach es X.env := by rfl) (hpl : (backTo p2 (starEach es X.env)).any (·.1) = false := by rfl) : DS X Y (.Raise (some (.Call (.Name x p) (e :: es) [] p2)) none pos) (wRaise C ns wa) :=
  .of (ps_raise hc tk (pmk_throw hx (pe_ctor O hr hg ha.pa hdb hz he hpl))) fun E σ H ⟨c, ad, n, env, D0, R, q0, S⟩ => by
    refine ⟨c, ad, n, env, _, R, q0, fun ds n1 ⟨hl, q1⟩ vs H1 e1 r1 => ⟨by rw [r1.len]; exact hl, fun a H' na sm nw => ?_⟩⟩
    rw [← hY]
    exact throw_at R S e1 na sm nw (zip_rep r1).rev O.xc q1
theorem ds_raise0 {C : Addr} {p2 : Pos} (O : CtorOk X.prog X.w X.K X.mg X.base x C []) (tk : Takes X Y.W) (hr : Room 2 X.A) (hY : Y.H = X.H_0 := by rfl) (hx : X.ex = [] := by rfl) (hc : X.calm = true := by rfl) (hg : Gl X x := by rfl)
    (hdb : (x == ("__debug__" : Str)) = false := by decide) : DS X Y (.Raise (some (.Call (.Name x p) [] [] p2)) none pos) (wRaise C [] wNil) :=
  .of (ps_raise hc tk (pmk_throw hx (pe_ctor0 O hr hg hdb))) fun E σ H ⟨c, ad, n, env, D0, R, ⟨hl, q1⟩, S⟩ => by
    refine ⟨rfl, fun a H' na sm nw => ?_⟩
    rw [← hY]
    exact throw_at R S (.refl R.bag) na sm nw .nil O.xc q1
end
/-! ### defs that may raise -/
def yX (E : XK) (H : Hp) : XI := ⟨fun cls d _ H => E cls d H, H⟩
def dEndsX (Q : D → Nat → Prop) (E : EX → Nat → Prop) : DEnds := { nx := fun _ n => Q .non n, rt := Q, rf := fun o n => Q o.d n, ex := fun _ n x => E x n }
section
variable {P : Program} {w : World} {K : PySem.W.Frag} {mg : Str → Option Value} {base : Heap}
theorem dokX {x qual : Str} {st : Stmt} {f : Addr} {fd : FuncData} {N ps : List Str} {k : Nat} {sp : DSp} (F : Fun K x qual st f fd) (S : FnScope N ps (defScope st)) (len : ∀ ds n Q E, sp ds n Q E → ds.length = ps.length)
    (hbody : ∀ (cdv : Value) (A : Around) (outer : List Env) (s : Shared) (H : Hp) (E : XK), Room k (A.deeper (envOfC qual (defScope st) s.heap.objs.size f cdv)) →
      ∃ t, DSs (cxOf (L2.CX P w) P w K mg base N qual (defScope st) f cdv A outer s H E) (yX E H) (defBody st) t ∧ ∀ ds n Q E, sp ds n Q E → t (dEndsX Q E) (startD N ds) n) : FnOk P w K mg base (L2.CX P w) (k + 1) f fd ps (lSp K sp) := by
  refine F.okX S (fun vs H Q E ⟨c, ds, n, Q0, E0, h1, h2, h3, h4⟩ => by rw [h2.len]; exact len _ _ _ _ h3) (fun cdv A outer s H vs Q E hr h => ?_)
  obtain ⟨t, ht, hq⟩ := hbody cdv A outer s H E hr
  obtain ⟨⟨H0, O0, bg, X0⟩, ds, n, Q0, E0, ⟨h0, h1, hcw⟩, h2, h3, h4, h5⟩ := h
  simp only at h0
  subst h0
  refine ⟨_, ht.ps, ⟨_, _, n, _, dEndsX Q0 E0, rel_start h1 hcw h2, hq ds n Q0 E0 h3, ?_⟩⟩
  refine ⟨fun env n' hn σ H' ad R => ?_, fun env n' hn => hn.elim, fun env n' hn => hn.elim, fun d n' hd v H' hb hc r => ?_, fun o n' hd p u H' hp hb hc hu r => ?_, fun env n' x hx σ H' ad od R r => ?_, fun a h => .inl h⟩
  · exact h4 _ _ hn .non H' ⟨R.base, R.bag⟩ .non
  · exact h4 _ _ hd v H' ⟨hb, hc⟩ r
  · refine h4 _ _ hd _ H' ⟨hb, hc⟩ (r.rep (cut_mono fun a o h1 h2 => ⟨fun z => h1 (.inl z), h2⟩) ?_)
    rw [cut_out (fun z => h1 p z hp)]
    exact hu
  · exact h5 _ _ hx od H' ⟨R.base, R.bag⟩ (r.same oa_ge)
/-- in a def that may raise -/
theorem takesX {N : List Str} {qual : Str} {scope : Scope} {f : Addr} {cd : Value} {A : Around} {outer : List Env} {s : Shared} {H : Hp} {E : XK} : Takes (cxOf (L2.CX P w) P w K mg base N qual scope f cd A outer s H E) (yX E H).W := takes_of rfl rfl rfl rfl
end
end Dv

set_option Elab.async false
set_option linter.all false
set_option maxRecDepth 100000
set_option maxHeartbeats 4000000
/-! DvT: try by value -/
namespace Dv
open PySem PySem.Spec PyProof.Rows L2 Ke
abbrev SuiteD := Addr → Value → Option Addr → WS
/-- a clause: its class, its name's slot, its suite -/
abbrev ClD := Addr × Option Nat × SuiteD
def noEx (D : DEnds) : DEnds := { D with ex := fun _ _ _ => False }
def unE (i : Nat) (D : DEnds) : DEnds := { D with nx := fun env n => D.nx (env.set i .un) n, bk := fun env n => D.bk (env.set i .un) n, ct := fun env n => D.ct (env.set i .un) n, ex := fun _ _ _ => False }
def ySu (Y : XI) : XI := ⟨fun _ _ _ _ => False, Y.H⟩
def wHandle (K : PySem.W.Frag) (D : DEnds) (x : EX) (env : En) (n : Nat) : List ClD → Prop
  | [] => D.ex env n x
  | (c, none, w) :: r => ∃ b, PySem.W.exmOne K (.ref x.C) (.ref c) = some b ∧ (b = true → ∀ a od, w a (.ref x.C) od (noEx D) env n) ∧ (b = false → wHandle K D x env n r)
  | (c, some i, w) :: r => ∃ b, PySem.W.exmOne K (.ref x.C) (.ref c) = some b ∧ (b = true → (x.fs = none → ∀ a, w a (.ref x.C) none (unE i D) (env.set i (.val (.ref a))) n) ∧ ∀ fs, x.fs = some fs → ∀ a dd, w a (.ref x.C) (some dd) (unE i D) (env.set i (.val (.exn a dd fs))) n) ∧ (b = false → wHandle K D x env n r)
def wTry (K : PySem.W.Frag) (wb : WS) (l : List ClD) : WS := fun D env n => wb { D with ex := fun env n x => wHandle K D x env n l } env n
inductive DClauses (X : Cx) (Y : XI) : List ExceptHandler → List ClD → Prop
  | done : DClauses X Y [] []
  | bare {x : Str} {c : Addr} {w : SuiteD} {b₀ : Stmt} {su : List Stmt} {np p' : Pos} {hds : List ExceptHandler} {l : List ClD} (hc : Names X x (.ref c))
      (hsu : ∀ (a : Addr) (oe : Obj) (cls : Value) (d : Option Addr) (pn : List (Addr × Obj)), Zc cls d oe → (∃ vs, oe.data = .fields vs) → DSs (X.suite a ((a, oe) :: pn)) (ySu Y) (b₀ :: su) (w a cls d)) (r : DClauses X Y hds l) : DClauses X Y (.ExceptHandler (some (.Name x np)) none (b₀ :: su) p' :: hds) ((c, none, w) :: l)
  | named {x n : Str} {c : Addr} {i : Nat} {w : SuiteD} {b₀ : Stmt} {su : List Stmt} {np p' : Pos} {hds : List ExceptHandler} {l : List ClD} (hi : X.N[i]? = some n) (hln : X.env.kindOf n = some .local) (hc : Names X x (.ref c))
      (hsu : ∀ (a : Addr) (oe : Obj) (cls : Value) (d : Option Addr) (pn : List (Addr × Obj)), Zc cls d oe → (∃ vs, oe.data = .fields vs) → DSs (X.suite a ((a, oe) :: pn)) (ySu Y) (b₀ :: su) (w a cls d)) (r : DClauses X Y hds l) : DClauses X Y (.ExceptHandler (some (.Name x np)) (some n) (b₀ :: su) p' :: hds) ((c, some i, w) :: l)
def clOf (K : PySem.W.Frag) (Y : XI) (l : List ClD) : List (Value × Option Nat × Ke.Suite) := l.map fun p => (.ref p.1, p.2.1, fun a cls d => lS K (ySu Y) (p.2.2 a cls d))
theorem DClauses.to {X : Cx} {Y : XI} {hds : List ExceptHandler} {l : List ClD} (h : DClauses X Y hds l) : Clauses X hds (clOf X.K Y l) := by
  induction h with
  | done => exact .done
  | bare hc hsu r ih => exact .bare hc (fun a oe cls d pn hz hf => (hsu a oe cls d pn hz hf).ps) ih
  | named hi hln hc hsu r ih => exact .named hi hln hc (fun a oe cls d pn hz hf => (hsu a oe cls d pn hz hf).ps) ih
theorem handle_mix {K : PySem.W.Frag} {Y : XI} {c : Ctx} {D0 : DEnds} {E : Ends} (S : SEnds K Y c D0 E) {x : EX} {env : En} {n : Nat} {σ : L2.St} {H : Hp} {ad : Nat → Addr} {od : Option Addr} (R : Rel K c ad n σ H env) (r : ExR K c.bg (Oa c ad env) H x od) :
    ∀ {l : List ClD}, wHandle K D0 x env n l → wMix K Y.W E (clOf K Y l) (.ref x.C) od σ H
  | [], h => S.ex env n x h σ H ad od R r
  | (cl, none, w) :: l, ⟨b, hb, h1, h2⟩ => ⟨b, hb, fun e a na => ⟨c, ad, n, env, noEx D0, R, h1 e a od, ⟨S.nx, S.bk, S.ct, S.rt, S.rf, fun env n x h => h.elim, S.h0⟩⟩, fun e => handle_mix S R r (h2 e)⟩
  | (cl, some i, w) :: l, ⟨b, hb, h1, h2⟩ => ⟨b, hb, fun e a na => by
      obtain ⟨g1, g2⟩ := h1 e
      have SE : SEnds K (ySu Y) c (unE i D0) (nameless i E) := ⟨fun env n h σ H ad R => S.nx _ _ h _ _ _ R.forgetS, fun env n h σ H ad R => S.bk _ _ h _ _ _ R.forgetS, fun env n h σ H ad R => S.ct _ _ h _ _ _ R.forgetS, S.rt, S.rf, fun env n x h => h.elim, S.h0⟩
      cases od with
      | none => exact ⟨c, ad, n, _, unE i D0, R.set (v := .ref a) (.ref a), g1 r a, SE⟩
      | some d =>
        obtain ⟨fs, fv, q1, q2, q3⟩ := r
        exact ⟨c, ad, n, _, unE i D0, R.set (v := .ref a) (d := .exn a d fs) (.exn q2 q3), g2 fs q1 a d, SE⟩, fun e => handle_mix S R r (h2 e)⟩
section
variable {X : Cx} {Y : XI} {body : List Stmt} {h₀ : ExceptHandler} {hds : List ExceptHandler} {l : List ClD} {pos : Pos} {wb : WS}
theorem ds_try (hN : X.N.Nodup) (tk : Takes X Y.W) (hh : DClauses X Y (h₀ :: hds) l)
    (hb : ∀ (W : L2.WX) (pn : List (Addr × Obj)) (xe : Value → Shared → Prop), Takes (X.tr pn xe) W → PassesOwn (model X.prog X.w) X.A X.env xe → DSs (X.tr pn xe) ⟨W, Y.H⟩ body wb)
    (hst : X.stack = X.env :: X.outer := by rfl) (hfl : X.env.frame = some X.env.locals := by rfl) : DS X Y (.Try body (h₀ :: hds) [] [] pos) (wTry X.K wb l) :=
  .of (ps_tryMix (tb := fun W => lS X.K ⟨W, Y.H⟩ wb) hst hfl hN tk (fun W pn xe t p => (hb W pn xe t p).ps) hh.to) fun E σ H ⟨c, ad, n, env, D0, R, q0, S⟩ =>
    ⟨c, ad, n, env, _, R, q0, ⟨S.nx, S.bk, S.ct, S.rt, S.rf, fun env n x h σ H ad od R r => handle_mix S R r h, S.h0⟩⟩
/-- e.f of the caught exception -/
def wXf (i : Nat) (a : Addr) (cls : Value) (d : Option Addr) (C : Addr) (f : Str) : WE := fun env n Q => ∃ dd fs v, env[i]? = some (.val (.exn a dd fs)) ∧ cls = .ref C ∧ d = some dd ∧ fs.lookup f = some v ∧ Q v n
theorem RepF.lookup {K : PySem.W.Frag} {bg : Option (Addr × Addr)} {H : Hp} {f : Str} {d : D} : ∀ {vs : List (Str × V)} {ds : List (Str × D)}, RepF K bg H vs ds → ds.lookup f = some d → ∃ v, vs.lookup f = some v ∧ Rep K bg H v d
  | _, _, .nil, h => by cases h
  | (g, v) :: vs, (_, e) :: ds, .cons h t, q => by
    rw [List.lookup_cons] at q ⊢
    by_cases z : (f == g) = true
    · rw [z] at q ⊢
      cases q
      exact ⟨v, rfl, h⟩
    · have z' : (f == g) = false := by simpa using z
      rw [z'] at q ⊢
      exact RepF.lookup t q
theorem de_xf {a C : Addr} {oe : Obj} {cls : Value} {d : Option Addr} {pn : List (Addr × Obj)} {f x : Str} {p : Pos} (i : Nat) (T : XfC X.K C) (hno : PySem.W.findIn X.K (.ref C) f = some none) (hz : Zc cls d oe) (hf : ∃ vs, oe.data = .fields vs)
    (hN : X.N[i]? = some x := by rfl) (hv : Vis X.env.scope x := by first | exact Or.inl rfl | exact Or.inr (Or.inl rfl) | exact Or.inr (Or.inr rfl)) (hd : (x == ("__debug__" : Str)) = false := by decide)
    (hcd : (x == ("__classdict__" : Str)) = false := by decide) (hb : attributeBase (.Name x p) f X.env (eval (.Name x p) X.env) = eval (.Name x p) X.env := by rfl) : DE (X.suite a ((a, oe) :: pn)) (.Attribute (.Name x p) f pos) (wXf i a cls d C f) :=
  .of (pe_xf T hno hz hf (pe_var (X := X.suite a ((a, oe) :: pn)) hN hv hd hcd) hb) fun σ H Q ⟨c, ad, n, env, Q0, R, ⟨dd, fs, v, he, hcl, hdd, hl, q0⟩, q⟩ => by
    have sl := R.slot i _ he
    obtain ⟨w, h1, h2⟩ := sl
    cases h2 with
    | exn h3 h4 =>
      obtain ⟨u, g1, g2⟩ := RepF.lookup h4 hl
      exact ⟨_, h1, rfl, hcl, dd, _, u, hdd, cut_le _ _ h3, g1, q _ _ q0 _ _ (.refl R.bag) g2⟩
end
end Dv

set_option Elab.async false
set_option linter.all false
set_option maxRecDepth 100000
set_option maxHeartbeats 4000000
/-! DvY: own classes by value: fields, instances made, methods -/
namespace Dv
open PySem PySem.Spec PyProof.Rows L2 Ke
/-! ### rules whose way out may look at the slots -/
section
variable {X : Cx} {CT : CXT} {k m : Nat} {fi C : Addr} {gd : FuncData} {ps kn : List Str} {sp : Sp} {Ex : L2.St → XK} {x nm : Str} {p pos ap : Pos} {e o : Expr} {es : List Expr} {kws : List Keyword} {ta : TE} {t tk : TA} {g : List Value → List Value → List Value} {gV : List V → List V → List V}
def tMk (C : Addr) (n m : Nat) (sp : Sp) (gV : List V → List V → List V) (Ex : L2.St → XK) (t tk : TA) : TE := fun σ H Q => t σ H fun vs H1 => tk σ H1 fun zs H2 => vs.length = n ∧ zs.length = m ∧
  ∀ a d, H2 a = none → H2 d = none → d ≠ a → sp (gV (.ref a :: vs) zs) (upd (upd H2 d (.own a)) a (.ins C d [])) (fun v H3 => v = .non ∧ Q (.ref a) H3) (Ex σ)
theorem run_mk {pins : List (Addr × Obj)} {σ : L2.St} {H : Hp} {s : Shared} {Q : VK} {us ws : List Value} {vs zs : List V} (M : Mk X.K C fi) (F : FnOk X.prog X.w X.K X.mg X.base CT k fi gd ps sp) (hr : Room (k + 1) X.A) (hb : KBn X.K gd ps (m + 1) kn g gV)
    (hx : PassesAt CT X σ (Ex σ)) (I : Inv X pins σ H s) (r : Vals vs us) (rz : Vals zs ws) (l1 : vs.length = m) (l2 : zs.length = kn.length)
    (hq : ∀ a d, H a = none → H d = none → d ≠ a → sp (gV (.ref a :: vs) zs) (upd (upd H d (.own a)) a (.ins C d [])) (fun v H2 => v = .non ∧ Q (.ref a) H2) (Ex σ)) :
    wpAny (model X.prog X.w) X.A (call (.ref C) us (kn.zip ws)) (EP X pins σ Q) X.xe s := by
  have q0 := hq (s.heap.objs.size + 1) s.heap.objs.size (I.hok.fresh (Nat.le_succ _)) (I.hok.fresh (Nat.le_refl _)) (Nat.ne_of_lt (Nat.lt_succ_self _))
  have J := Inv.made (C := C) I
  have ra : Vals (V.ref (s.heap.objs.size + 1) :: vs) (Value.ref (s.heap.objs.size + 1) :: us) := .cons rfl r
  have hn : (Value.ref (s.heap.objs.size + 1) :: us).length = m + 1 := by rw [List.length_cons, ← r.length, l1]
  have ran := F.run _ X.stack _ _ ⟨Value.ref (s.heap.objs.size + 1) :: us, kn.zip ws⟩ (g (Value.ref (s.heap.objs.size + 1) :: us) ws) _ _ (Ex σ) (hr.make C us (kn.zip ws)) (J.env0.make C us (kn.zip ws)) (hb.to _ (Value.ref (s.heap.objs.size + 1) :: us) ws J.kIn hn (rz.length.symm.trans l2)) (hb.rel ra rz) q0
  refine wpAny_call (make_map (f := fi) I.kIn M.makes M.init (beq_iff_eq.mp M.fn) (codeAny_mono ran fun res s' hr' => ?_))
  match res, hr' with
  | .error u, h => exact hx pins _ _ u s' J h
  | .ok (.ret u), h =>
    obtain ⟨v, G, J2, rv, ev, q3⟩ := J.after h
    subst ev
    exact ⟨rv, V.ref (s.heap.objs.size + 1), G, J2, rfl, q3⟩
  | .ok .next, h => exact h.elim
  | .ok .brk, h => exact h.elim
  | .ok .cont, h => exact h.elim
theorem pe_mk (M : Mk X.K C fi) (F : FnOk X.prog X.w X.K X.mg X.base CT k fi gd ps sp) (hr : Room (k + 1) X.A) (hg : Gl X x) (hm : X.mg x = some (.ref C)) (hb : KBn X.K gd ps (m + 1) [] g gV) (hx : ∀ σ, PassesAt CT X σ (Ex σ)) (ha : PA X (e :: es) t)
    (hdb : (x == ("__debug__" : Str)) = false := by decide) (he : starEach (e :: es) X.env = (false, eval e X.env) :: starEach es X.env := by rfl) (hpl : (backTo pos (starEach es X.env)).any (·.1) = false := by rfl) :
    PE X (.Call (.Name x p) (e :: es) [] pos) (tMk C m 0 sp gV Ex t tNil) := by
  refine ⟨fun pins s σ H Q I h => wpAny_Call_Name_kw (ld_glob I hg hm ?_ hdb)⟩
  refine PySem.W.callWith_K (h₀ := X.base) I.ok.mod.kin M.kp (thn (ha.run pos pins s σ H _ I h) fun us s1 hh => ?_) he hpl
  obtain ⟨vs, H1, I1, r, l1, _, q⟩ := hh
  exact ⟨I1.kIn, run_mk (ws := []) (zs := []) M F hr hb (hx σ) I1 r .nil l1 rfl q⟩
theorem pe_mkK (M : Mk X.K C fi) (F : FnOk X.prog X.w X.K X.mg X.base CT k fi gd ps sp) (hr : Room (k + 1) X.A) (hg : Gl X x) (hm : X.mg x = some (.ref C)) (hb : KBn X.K gd ps 1 kn g gV) (hx : ∀ σ, PassesAt CT X σ (Ex σ)) (hkw : PK X kws tk)
    (hall : (backToKw pos (keywordEach kws X.env)).all (·.1.isSome) = true := by rfl) (hks : (backToKw pos (keywordEach kws X.env)).filterMap (·.1) = kn := by rfl) (hdb : (x == ("__debug__" : Str)) = false := by decide)
    (hpl : ((backTo pos (starEach [] X.env)).any (·.1) || (backToKw pos (keywordEach kws X.env)).any (·.1.isNone)) = false := by rfl) : PE X (.Call (.Name x p) [] kws pos) (tMk C 0 kn.length sp gV Ex tNil tk) := by
  refine ⟨fun pins s σ H Q I h => wpAny_Call_Name_kw (ld_glob I hg hm ?_ hdb)⟩
  refine PySem.W.callWith_KW0 (h₀ := X.base) I.ok.mod.kin M.kp hall (thn (hkw.run pos pins s σ H _ I h) fun ws s2 hh => ?_) hpl
  obtain ⟨zs, H2, I2, rz, _, l2, q⟩ := hh
  refine ⟨I2.kIn, ?_⟩
  rw [hks]
  exact run_mk (us := []) (vs := []) M F hr hb (hx σ) I2 .nil rz rfl l2 q
/-- o.m(e, ..) -/
def tMt (C : Addr) (nm : Str) (sp : Sp) (Ex : L2.St → XK) (ta : TE) (t : TA) : TE := fun σ H Q => ta σ H fun y H1 => ∃ a d fs, y = .ref a ∧ H1 a = some (.ins C d fs) ∧ fs.lookup nm = none ∧ t σ H1 fun vs H2 => sp (y :: vs) H2 Q (Ex σ)
theorem pe_mt {pl : Sem Bool} (ho : PE X o ta) (c : Cls X.K C) (hm : Meth X.K C nm fi) (F : FnOk X.prog X.w X.K X.mg X.base CT k fi gd ps sp) (hr : Room k X.A) (hb : Binds X.K gd ps []) (hx : ∀ σ, PassesAt CT X σ (Ex σ)) (ha : PA X (e :: es) t)
    (hst : starEach (e :: es) X.env = (false, eval e X.env) :: starEach es X.env := by rfl) (hpl : (backTo pos (starEach es X.env)).any (·.1) = false := by rfl)
    (ht : eval (.Call (.Attribute o nm ap) (e :: es) [] pos) X.env = (do
      let rv ← eval o X.env
      standAt ap.atName
      let (fv, hd) ← holding [rv] (getMethod rv nm pl)
      callWith pos fv hd (backTo pos (starEach (e :: es) X.env)) (backToKw pos (keywordEach [] X.env))) := by rfl) : PE X (.Call (.Attribute o nm ap) (e :: es) [] pos) (tMt C nm sp Ex ta t) := by
  refine ⟨fun pins s σ H Q I h => PySem.W.methodCall_KW (pl := pl) (thn (ho.run pins s σ H _ I h) fun u s1 hh => ?_) ht⟩
  obtain ⟨y, H1, I1, ry, a, d, fs, ey, ea, l, q⟩ := hh
  subst ey
  obtain rfl : u = Value.ref a := ry
  refine getmeth_ok I1 ea c hm l (PySem.W.callWith_K (first := [.ref a]) (h₀ := X.base) I.ok.mod.kin hm.kp (thn (ha.run pos pins s1 σ H1 _ I1 q) fun us s2 hh => ?_) hst hpl)
  obtain ⟨vs, H2, I2, r, q2⟩ := hh
  exact ⟨I2.kIn, run_fnS (us := .ref a :: us) (vs := .ref a :: vs) F hr hb (hx σ) I2 (.cons rfl r) q2⟩
theorem pe_mt0 {pl : Sem Bool} (ho : PE X o ta) (c : Cls X.K C) (hm : Meth X.K C nm fi) (F : FnOk X.prog X.w X.K X.mg X.base CT k fi gd ps sp) (hr : Room k X.A) (hb : Binds X.K gd ps []) (hx : ∀ σ, PassesAt CT X σ (Ex σ))
    (ht : eval (.Call (.Attribute o nm ap) [] [] pos) X.env = (do
      let rv ← eval o X.env
      standAt ap.atName
      let (fv, hd) ← holding [rv] (getMethod rv nm pl)
      callWith pos fv hd (backTo pos (starEach [] X.env)) (backToKw pos (keywordEach [] X.env))) := by rfl) : PE X (.Call (.Attribute o nm ap) [] [] pos) (tMt C nm sp Ex ta tNil) := by
  refine ⟨fun pins s σ H Q I h => PySem.W.methodCall_KW (pl := pl) (thn (ho.run pins s σ H _ I h) fun u s1 hh => ?_) ht⟩
  obtain ⟨y, H1, I1, ry, a, d, fs, ey, ea, l, q⟩ := hh
  subst ey
  obtain rfl : u = Value.ref a := ry
  exact getmeth_ok I1 ea c hm l (PySem.W.callWith_K0 (first := [.ref a]) I1.kIn hm.kp (run_fnS (us := [.ref a]) (vs := [.ref a]) F hr hb (hx σ) I1 (.cons rfl .nil) q))
end
end Dv

set_option Elab.async false
set_option linter.all false
set_option maxRecDepth 100000
set_option maxHeartbeats 4000000
/-! DvZ: own classes by value: fields read and stored, __init__, instances, methods -/
namespace Dv
open PySem PySem.Spec PyProof.Rows L2 Ke
theorem Sh.ins' {K : PySem.W.Frag} {bg : Option (Addr × Addr)} {O : Addr → Prop} {H : Hp} {v : V} {C : Addr} {fs : List (Str × D)} (h : Sh K bg O H v (.ins C fs)) : ∃ a dx fv, v = .ref a ∧ H a = some (.ins C dx fv) ∧ RepF K bg (cut O H) fv fs := by
  generalize e : D.ins C fs = d at h
  cases h with
  | rep h =>
    subst e
    cases h with
    | ins h r => exact ⟨_, _, _, rfl, cut_le _ _ h, r⟩
  | @own a u o hb h r =>
    cases o with
    | ins x C' fs' =>
      cases e
      cases r with
      | ins r => exact ⟨_, _, _, rfl, h, r⟩
    | lst k => cases e
    | dk k => cases e
    | dt k => cases e
def putD (f : Str) (v : D) : List (Str × D) → List (Str × D)
  | [] => [(f, v)]
  | (g, x) :: r => if g = f then (g, v) :: r else (g, x) :: putD f v r
section
variable {K : PySem.W.Frag} {bg : Option (Addr × Addr)} {H : Hp}
theorem RepF.put {f : Str} {v : V} {d : D} (h : Rep K bg H v d) : ∀ {vs : List (Str × V)} {ds : List (Str × D)}, RepF K bg H vs ds → RepF K bg H (putF f v vs) (putD f d ds)
  | _, _, .nil => .cons h .nil
  | (g, _) :: _, (_, _) :: _, .cons k t => by
    unfold putF putD
    split
    · exact .cons h t
    · exact .cons k (RepF.put h t)
theorem RepF.len : ∀ {vs : List (Str × V)} {ds : List (Str × D)}, RepF K bg H vs ds → vs.length = ds.length
  | _, _, .nil => rfl
  | _, _, .cons _ t => congrArg (· + 1) (RepF.len t)
theorem RepF.lookupN {f : Str} : ∀ {vs : List (Str × V)} {ds : List (Str × D)}, RepF K bg H vs ds → ds.lookup f = none → vs.lookup f = none
  | _, _, .nil, _ => rfl
  | (g, v) :: vs, (_, e) :: ds, .cons h t, q => by
    rw [List.lookup_cons] at q ⊢
    by_cases z : (f == g) = true
    · rw [z] at q; cases q
    · have z' : (f == g) = false := by simpa using z
      rw [z'] at q ⊢
      exact RepF.lookupN t q
end
section
variable {X : Cx} {Y : XI} {C : Addr} {f nm x : Str} {o e : Expr} {es : List Expr} {wo we : WE} {wa : WA} {pos p ap : Pos}
def wFld (C : Addr) (f : Str) (wo : WE) : WE := fun env n Q => wo env n fun d n1 => ∃ fs v, d = .ins C fs ∧ fs.lookup f = some v ∧ Q v n1
theorem de_fld (T : Cls X.K C) (N : NoAttr X.K C f) (ho : DB X o wo) (hb : attributeBase o f X.env (eval o X.env) = eval o X.env := by rfl) : DE X (.Attribute o f pos) (wFld C f wo) :=
  .of (pe_fld ho.pe hb) fun σ H Q ⟨c, ad, n, env, Q0, R, q0, q⟩ => ⟨c, ad, n, env, _, R, q0, fun d n1 ⟨fs, v, ed, hl, q1⟩ w H1 e1 s1 => by
    subst ed
    obtain ⟨a, dx, fv, rfl, ha, r⟩ := s1.ins'
    obtain ⟨u, g1, g2⟩ := RepF.lookup r hl
    exact ⟨a, C, dx, fv, u, rfl, ha, T, N, g1, q _ _ q1 _ _ e1 g2⟩⟩
/-- x.f = e, x an own new instance -/
def wPutF (i : Nat) (C : Addr) (f : Str) (we : WE) : WS := fun D env n => ∃ y fs, env[i]? = some (.own (.ins y C fs)) ∧ fs.length < 1000 ∧ we env n fun d n1 => D.nx (env.set i (.own (.ins y C (putD f d fs)))) n1
theorem ds_putF (i : Nat) {p' : Pos} (T : Cls X.K C) (Nf : NoAttr X.K C f) (h : DE X e we) (hN : X.N[i]? = some x := by rfl) (hv : Vis X.env.scope x := by first | exact Or.inl rfl | exact Or.inr (Or.inl rfl) | exact Or.inr (Or.inr rfl)) (hd : (x == ("__debug__" : Str)) = false := by decide)
    (hcd : (x == ("__classdict__" : Str)) = false := by decide) (hs : swapsWith e (some (.Attribute (.Name x p) f p')) pos.line X.env = pure false := by rfl) : DS X Y (.Assign [.Attribute (.Name x p) f p'] e pos) (wPutF i C f we) :=
  .of (ps_fld (pe_var hN hv hd hcd) h.pe hs) fun E σ H ⟨c, ad, n, env, D0, R, ⟨y, fs, he, hl, q0⟩, S⟩ => ⟨c, ad, n, env, _, R, q0, fun d n1 q1 v H1 e1 r1 => by
    have R1 := R.step e1
    obtain ⟨h1, u, h2, h3⟩ := R1.slot i _ he
    cases h3 with
    | ins r =>
      exact ⟨_, h1, ad i, C, _, _, rfl, h2, T, Nf, by rw [r.len]; exact hl, S.nx _ _ q1 _ _ _ (R1.change he (.ins (r.put r1)))⟩⟩
end
/-! ### __init__ -/
abbrev DSpI := List D → Nat → (List (Str × D) → Nat → Prop) → (EX → Nat → Prop) → Prop
def lSpI (K : PySem.W.Frag) (C : Addr) (sp : DSpI) : Sp := fun vs H Q E => ∃ (x dx : Addr) (us : List V) (c : Ctx) (ds : List D) (n : Nat) (Q0 : List (Str × D) → Nat → Prop) (E0 : EX → Nat → Prop), vs = .ref x :: us ∧
  (H x = some (.ins C dx []) ∧ c.H0 x = none ∧ ¬ c.O0 x ∧ (∀ a o, c.H0 a = some o → ¬ c.isBag a → H a = some o) ∧ (∀ a, c.O0 a → H a ≠ none) ∧ (∀ a, H a ≠ none → c.H0 a ≠ none ∨ c.isBag a ∨ c.X0 a) ∧ (∀ a, c.X0 a → H a ≠ none) ∧ CW c n H) ∧
  RepL K c.bg (cut (fun a => c.O0 a ∨ a = x) H) us ds ∧ sp ds n Q0 E0 ∧
  (∀ fs n', Q0 fs n' → ∀ dx' fv H', (∀ a o, c.H0 a = some o → ¬ c.isBag a → H' a = some o) → CW c n' H' → H' x = some (.ins C dx' fv) → RepF K c.bg (cut (fun a => c.O0 a ∨ a = x) H') fv fs → Q .non H') ∧
  ∀ y n', E0 y n' → ∀ od H', (∀ a o, c.H0 a = some o → ¬ c.isBag a → H' a = some o) → CW c n' H' → ExR K c.bg c.O0 H' y od → E (.ref y.C) od H'
def startI (x C : Addr) (N : List Str) (ds : List D) : En := .own (.ins x C []) :: (ds.map .val ++ List.replicate (N.length - 1 - ds.length) .un)
def dEndsI (x C : Addr) (Q : List (Str × D) → Nat → Prop) (E : EX → Nat → Prop) : DEnds := { nx := fun env n => ∃ fs, env[0]? = some (.own (.ins x C fs)) ∧ Q fs n, rt := fun _ _ => False, ex := fun _ n y => E y n }
theorem own_startI {x C : Addr} {N : List Str} {ds : List D} {i : Nat} (h : Own (startI x C N ds) i) : i = 0 := by
  obtain ⟨o, e⟩ := h
  cases i with
  | zero => rfl
  | succ i =>
    unfold startI at e
    rw [List.getElem?_cons_succ] at e
    by_cases hi : i < ds.length
    · rw [List.getElem?_append_left (by simpa using hi), List.getElem?_map] at e
      cases z : ds[i]? with
      | none => rw [z] at e; cases e
      | some d => rw [z] at e; cases e
    · rw [List.getElem?_append_right (by simpa using hi), List.getElem?_replicate] at e
      split at e <;> cases e
theorem rel_startI {K : PySem.W.Frag} {c : Ctx} {N : List Str} {H : Hp} {n : Nat} {x dx C : Addr} {us : List V} {ds : List D} (hx : H x = some (.ins C dx [])) (h0 : c.H0 x = none) (hO : ¬ c.O0 x) (hb : ∀ a o, c.H0 a = some o → ¬ c.isBag a → H a = some o) (hd : ∀ a, c.O0 a → H a ≠ none)
    (hX : ∀ a, c.X0 a → H a ≠ none) (hc : CW c n H) (r : RepL K c.bg (cut (fun a => c.O0 a ∨ a = x) H) us ds) (hN : 1 ≤ N.length) : Rel K c (fun _ => x) n (L2.start N (.ref x :: us)) H (startI x C N ds) := by
  have hl := r.len
  have oa : ∀ a, Oa c (fun _ => x) (startI x C N ds) a → c.O0 a ∨ a = x := fun a h => h.imp id fun ⟨_, _, e⟩ => e
  have sm : Same (cut (fun a => c.O0 a ∨ a = x) H) (cut (Oa c (fun _ => x) (startI x C N ds)) H) := cut_mono fun a o h1 h2 => ⟨fun z => h1 (oa a z), h2⟩
  refine ⟨?_, hb, hd, hc, fun i j h1 h2 _ => (own_startI h1).trans (own_startI h2).symm, fun i _ => h0, fun i _ => hO, fun i sd e => ?_, hX⟩
  · unfold startI L2.start
    simp [hl]
    omega
  · cases i with
    | zero =>
      cases e
      exact ⟨rfl, _, hx, .ins .nil⟩
    | succ i =>
      unfold startI at e
      rw [List.getElem?_cons_succ] at e
      by_cases hi : i < ds.length
      · rw [List.getElem?_append_left (by simpa using hi), List.getElem?_map] at e
        cases z : ds[i]? with
        | none => rw [z] at e; cases e
        | some d =>
          rw [z] at e
          cases e
          obtain ⟨v, h1, h2⟩ := r.getD z
          refine ⟨v, ?_, h2.same sm⟩
          unfold L2.start
          rw [List.getElem?_append_left (by rw [List.length_map, List.length_cons, hl]; omega), List.getElem?_map, List.getElem?_cons_succ, h1]
          rfl
      · rw [List.getElem?_append_right (by simpa using hi), List.getElem?_replicate] at e
        split at e
        · cases e; trivial
        · cases e
section
variable {P : Program} {w : World} {K : PySem.W.Frag} {mg : Str → Option Value} {base : Heap}
/-- THE RULE for an __init__ that may raise -/
theorem dokI {x qual : Str} {st : Stmt} {f C : Addr} {fd : FuncData} {N ps : List Str} {k : Nat} {sp : DSpI} (F : Fun K x qual st f fd) (S : FnScope N ps (defScope st)) (hN : 1 ≤ N.length) (len : ∀ ds n Q E, sp ds n Q E → ds.length + 1 = ps.length)
    (hbody : ∀ (cdv : Value) (A : Around) (outer : List Env) (s : Shared) (H : Hp) (E : XK), Room k (A.deeper (envOfC qual (defScope st) s.heap.objs.size f cdv)) →
      ∃ t, DSs (cxOf (L2.CX P w) P w K mg base N qual (defScope st) f cdv A outer s H E) (yX E H) (defBody st) t ∧ ∀ ds n Q E, sp ds n Q E → ∀ y, t (dEndsI y C Q E) (startI y C N ds) n) : FnOk P w K mg base (L2.CX P w) (k + 1) f fd ps (lSpI K C sp) := by
  refine F.okX S (fun vs H Q E ⟨y, dx, us, c, ds, n, Q0, E0, ev, _, h2, h3, _⟩ => by rw [ev, List.length_cons, h2.len]; exact len _ _ _ _ h3) (fun cdv A outer s H vs Q E hr h => ?_)
  obtain ⟨t, ht, hq⟩ := hbody cdv A outer s H E hr
  obtain ⟨y, dx, us, c, ds, n, Q0, E0, rfl, ⟨g1, g2, g3, g4, g5, g6, g7, g8⟩, h2, h3, h4, h5⟩ := h
  refine ⟨_, ht.ps, ⟨c, _, n, _, dEndsI y C Q0 E0, rel_startI g1 g2 g3 g4 g5 g7 g8 h2 hN, hq ds n Q0 E0 h3 y, ?_⟩⟩
  refine ⟨fun env n' hn σ H' ad R => ?_, fun env n' hn => hn.elim, fun env n' hn => hn.elim, fun d n' hd => hd.elim, fun o n' hd => hd.elim, fun env n' x hx σ H' ad od R r => ?_, fun a ha => g6 a ha⟩
  · obtain ⟨fs, he, q0⟩ := hn
    obtain ⟨s1, u, s2, s3⟩ := R.slot 0 _ he
    generalize ez : ad 0 = z at s2 s3
    cases s3 with
    | ins r =>
      refine h4 fs n' q0 _ _ H' R.base R.bag s2 (r.same (cut_mono fun a o k1 k2 => ⟨fun z => k1 ?_, k2⟩))
      rcases z with z | z
      · exact .inl z
      · exact .inr ⟨0, ⟨_, he⟩, by rw [ez]; exact z⟩
  · exact h5 _ _ hx od H' R.base R.bag (r.same oa_ge)
end
end Dv

set_option Elab.async false
set_option linter.all false
set_option maxRecDepth 100000
set_option maxHeartbeats 4000000
/-! DvI: instances made, methods called, isinstance of any value -/
namespace Dv
open PySem PySem.Spec PyProof.Rows L2 Ke
theorem passLA {X : Cx} {σ : L2.St} : PassesAt (L2.CX X.prog X.w) X σ E0 := fun pins H s e s' I c => passL pins σ H s e s' I c
theorem pass0A {X : Cx} {σ : L2.St} {E : XK} : PassesAt CX0 X σ E := fun _ _ _ _ _ _ h => h.elim
section
variable {X : Cx} {Y : XI} {C fi : Addr} {gd : FuncData} {k : Nat} {f nm x : Str} {o e : Expr} {es : List Expr} {wo we : WE} {wa : WA} {pos p ap : Pos} {kws : List Keyword} {ps : List Str} {spI : DSpI}
/-! ### instances made -/
def wMkX (C : Addr) (spI : DSpI) (wa : WA) : WEX := fun E env n Q => wa env n fun ds n1 => spI ds n1 (fun fs n2 => Q (.ins C fs) n2) E
theorem mk_to {K : PySem.W.Frag} {c : Ctx} {ad : Nat → Addr} {n n1 : Nat} {σ : L2.St} {H H1 : Hp} {env : En} {vs : List V} {ds : List D} {Q0 : D → Nat → Prop} {Q : VK} {E0' : XW} {EE : XK} (R : Rel K c ad n σ H env) (e1 : EStp c H H1 n1) (r1 : RepL K c.bg (cut (Oa c ad env) H1) vs ds)
    (q1 : spI ds n1 (fun fs n2 => Q0 (.ins C fs) n2) E0') (q : ∀ d n', Q0 d n' → ∀ v H', EStp c H H' n' → Rep K c.bg (cut (Oa c ad env) H') v d → Q v H') (qe : ∀ x n', E0' x n' → ∀ od H', EStp c H H' n' → ExR K c.bg (Oa c ad env) H' x od → EE (.ref x.C) od H')
    (a d : Addr) (na : H1 a = none) (nd : H1 d = none) (hne : d ≠ a) : lSpI K C spI (.ref a :: vs) (upd (upd H1 d (.own a)) a (.ins C d [])) (fun v H2 => v = .non ∧ Q (.ref a) H2) EE := by
  have R1 := R.step e1
  have nO := R1.free na
  have k1 : ∀ b o, H1 b = some o → upd (upd H1 d (.own a)) a (.ins C d []) b = some o := fun b o h => by
    rw [upd_ne (fun z => by rw [z, na] at h; cases h), upd_ne (fun z => by rw [z, nd] at h; cases h)]
    exact h
  have hcw : ∀ {H2 : Hp} {n2 : Nat}, CW ⟨H1, Oa c ad env, c.bg, fun z => z = a ∨ z = d⟩ n2 H2 → CW c n2 H2 := fun {H2 n2} h b l eb => by
    obtain ⟨h1, _, _⟩ := h b l eb
    obtain ⟨_, h2, h3⟩ := R1.bag b l eb
    exact ⟨h1, h2, h3⟩
  have stp : ∀ {H2 : Hp} {n2 : Nat}, (∀ b o, H1 b = some o → ¬ (⟨H1, Oa c ad env, c.bg, fun z => z = a ∨ z = d⟩ : Ctx).isBag b → H2 b = some o) → CW ⟨H1, Oa c ad env, c.bg, fun z => z = a ∨ z = d⟩ n2 H2 → EStp c H H2 n2 := fun {H2 n2} hb hc =>
    e1.trans ⟨fun b o h hn => hb b o h (fun ⟨l, z⟩ => hn ⟨l, z⟩), hcw hc⟩
  refine ⟨a, d, vs, ⟨H1, Oa c ad env, c.bg, fun z => z = a ∨ z = d⟩, ds, n1, fun fs n2 => Q0 (.ins C fs) n2, E0', rfl, ⟨upd_same, na, nO, fun b o h _ => k1 b o h, fun b hb => ?_, fun b hb => ?_, fun b hb => ?_, fun b l eb => ?_⟩, ?_, q1, fun fs n2 hq dx fv H2 hb hc hx r => ⟨rfl, ?_⟩, fun y n2 hy od H2 hb hc r => qe y n2 hy od H2 (stp hb hc) r⟩
  · cases z : H1 b with
    | none => exact absurd z (R1.oaDom hb)
    | some o => rw [k1 b o z]; exact fun z => nomatch z
  · by_cases za : b = a
    · exact .inr (.inr (.inl za))
    · by_cases zd : b = d
      · exact .inr (.inr (.inr zd))
      · rw [upd_ne za, upd_ne zd] at hb
        exact .inl hb
  · rcases hb with z | z
    · rw [z, upd_same]; exact fun z => nomatch z
    · rw [z, upd_ne hne, upd_same]; exact fun z => nomatch z
  · obtain ⟨⟨ns, q', r', m, kk, h1, h2, h3⟩, h4, h5⟩ := R1.bag b l eb
    exact ⟨⟨ns, q', r', m, kk, k1 _ _ h1, k1 _ _ h2, h3⟩, .inl h4, .inl h5⟩
  · refine r1.same (cut_mono fun b o h1 h2 => ⟨fun z => z.elim h1 fun z => ?_, k1 b o h2⟩)
    rw [z, na] at h2; cases h2
  · refine q _ _ hq _ H2 (stp hb hc) (.ins (by rw [cut_out nO]; exact hx) (r.same (cut_mono fun b o h1 h2 => ⟨fun z => h1 (.inl z), h2⟩)))
theorem kbn_pos {K : PySem.W.Frag} {fd : FuncData} {qs : List Str} (hb : Binds K fd qs []) : KBn K fd qs qs.length [] (fun us _ => us) (fun vs _ => vs) :=
  ⟨fun s us ws kI l1 l2 => by
    match ws, l2 with
    | [], _ =>
      have := hb s us kI (by rw [List.append_nil]; exact l1)
      rw [List.append_nil] at this
      exact this, fun r _ => r⟩
theorem de_mkX (M : Mk X.K C fi) (F : FnOk X.prog X.w X.K X.mg X.base (L2.CX X.prog X.w) k fi gd ("self" :: ps) (lSpI X.K C spI)) (hm : X.mg x = some (.ref C)) (hb : Binds X.K gd ("self" :: ps) []) (tk : Takes X Y.W) (hr : Room (k + 1) X.A) (ha : DA X (e :: es) wa) (hg : Gl X x := by rfl)
    (hl : ∀ ds n Q E, spI ds n Q E → ds.length = ps.length := by intro ds n Q E h; exact h.1)
    (hdb : (x == ("__debug__" : Str)) = false := by decide) (he : starEach (e :: es) X.env = (false, eval e X.env) :: starEach es X.env := by rfl) (hpl : (backTo pos (starEach es X.env)).any (·.1) = false := by rfl) : DEX X Y (.Call (.Name x p) (e :: es) [] pos) (wMkX C spI wa) :=
  .of (pe_mk M F hr hg hm (kbn_pos hb) (fun σ => passAt tk σ) ha.pa hdb he hpl) fun σ H Q ⟨c, ad, n, env, Q0, E0', R, q0, q, qe⟩ => ⟨c, ad, n, env, _, R, q0, fun ds n1 q1 vs H1 e1 r1 => ⟨by rw [r1.len, hl _ _ _ _ q1], rfl, fun a d na nd hne => mk_to R e1 r1 q1 q qe a d na nd hne⟩⟩
def wMk (C : Addr) (spI : DSpI) (wa : WA) : WE := fun env n Q => wa env n fun ds n1 => spI ds n1 (fun fs n2 => Q (.ins C fs) n2) noE
theorem de_mk (M : Mk X.K C fi) (F : FnOk X.prog X.w X.K X.mg X.base (L2.CX X.prog X.w) k fi gd ("self" :: ps) (lSpI X.K C spI)) (hm : X.mg x = some (.ref C)) (hb : Binds X.K gd ("self" :: ps) []) (hr : Room (k + 1) X.A) (ha : DA X (e :: es) wa) (hg : Gl X x := by rfl)
    (hl : ∀ ds n Q E, spI ds n Q E → ds.length = ps.length := by intro ds n Q E h; exact h.1)
    (hdb : (x == ("__debug__" : Str)) = false := by decide) (he : starEach (e :: es) X.env = (false, eval e X.env) :: starEach es X.env := by rfl) (hpl : (backTo pos (starEach es X.env)).any (·.1) = false := by rfl) : DE X (.Call (.Name x p) (e :: es) [] pos) (wMk C spI wa) :=
  .of (pe_mk (Ex := fun _ => E0) M F hr hg hm (kbn_pos hb) (fun σ => passLA) ha.pa hdb he hpl) fun σ H Q ⟨c, ad, n, env, Q0, R, q0, q⟩ => ⟨c, ad, n, env, _, R, q0, fun ds n1 q1 vs H1 e1 r1 => ⟨by rw [r1.len, hl _ _ _ _ q1], rfl, fun a d na nd hne => mk_to R e1 r1 q1 q (fun x n' z => z.elim) a d na nd hne⟩⟩
/-- one keyword, the only parameter -/
theorem de_mkK1 {kn : Str} {kp : Pos} {nmK : Option Str} (M : Mk X.K C fi) (F : FnOk X.prog X.w X.K X.mg X.base (L2.CX X.prog X.w) k fi gd ["self", kn] (lSpI X.K C spI)) (hm : X.mg x = some (.ref C)) (hb : KBn X.K gd ["self", kn] 1 [kn] (fun us ws => us ++ ws) (fun vs zs => vs ++ zs)) (tk : Takes X Y.W) (hr : Room (k + 1) X.A) (ha : DK X kws wa) (hg : Gl X x := by rfl)
    (hl : ∀ ds n Q E, spI ds n Q E → ds.length = 1 := by intro ds n Q E h; exact h.1)
    (hall : (backToKw pos (keywordEach kws X.env)).all (·.1.isSome) = true := by rfl) (hks : (backToKw pos (keywordEach kws X.env)).filterMap (·.1) = [kn] := by rfl) (hdb : (x == ("__debug__" : Str)) = false := by decide)
    (hpl : ((backTo pos (starEach [] X.env)).any (·.1) || (backToKw pos (keywordEach kws X.env)).any (·.1.isNone)) = false := by rfl) : DEX X Y (.Call (.Name x p) [] kws pos) (wMkX C spI wa) :=
  .of (pe_mkK M F hr hg hm hb (fun σ => passAt tk σ) ha.pk hall hks hdb hpl) fun σ H Q ⟨c, ad, n, env, Q0, E0', R, q0, q, qe⟩ => ⟨c, ad, n, env, _, R, q0, fun ds n1 q1 vs H1 e1 r1 => ⟨rfl, by rw [r1.len, hl _ _ _ _ q1]; rfl, fun a d na nd hne => mk_to R e1 r1 q1 q qe a d na nd hne⟩⟩
/-! ### methods -/
def wMtX (C : Addr) (nm : Str) (sp : DSp) (wo : WEX) (wa : WA) : WEX := fun E env n Q => wo E env n fun d n1 => ∃ fs, d = .ins C fs ∧ fs.lookup nm = none ∧ wa env n1 fun ds n2 => sp (d :: ds) n2 Q E
variable {wox : WEX} {sp : DSp} {qs : List Str}
theorem mt_to {K : PySem.W.Frag} {c : Ctx} {ad : Nat → Addr} {n : Nat} {σ : L2.St} {H : Hp} {env : En} {Q0 : D → Nat → Prop} {Q : VK} {E0' : XW} {EE : XK} (R : Rel K c ad n σ H env) (q0 : wMtX C nm sp wox wa E0' env n Q0)
    (q : ∀ d n', Q0 d n' → ∀ v H', EStp c H H' n' → Rep K c.bg (cut (Oa c ad env) H') v d → Q v H') (qe : ∀ x n', E0' x n' → ∀ od H', EStp c H H' n' → ExR K c.bg (Oa c ad env) H' x od → Y.W (.ref x.C) od σ H')
    (qw : ∀ x n', E0' x n' → ∀ od H', EStp c H H' n' → ExR K c.bg (Oa c ad env) H' x od → EE (.ref x.C) od H') :
    lEX K Y wox σ H fun y H1 => ∃ a d fs, y = .ref a ∧ H1 a = some (.ins C d fs) ∧ fs.lookup nm = none ∧ lA K wa σ H1 fun vs H2 => lSp K sp (y :: vs) H2 Q EE := by
  refine ⟨c, ad, n, env, _, E0', R, q0, fun d n1 ⟨fs, ed, hl, q1⟩ v H1 e1 r1 => ?_, qe⟩
  subst ed
  have R1 := R.step e1
  have r1' := r1
  cases r1 with
  | @ins a _ dx fv _ h r =>
    refine ⟨a, dx, fv, rfl, (cut_some h).2, r.lookupN hl, c, ad, n1, env, _, R1, q1, fun ds n2 q2 vs H2 e2 r2 => ?_⟩
    have R2 := R1.step e2
    refine ⟨⟨H2, Oa c ad env, c.bg, fun _ => False⟩, _, n2, Q0, E0', ⟨rfl, R2.oaD, fun b l eb => ?_⟩, .cons (r1'.same (e2.cut R.oaB)) r2, q2, fun d n3 hd v H3 e3 r3 => ?_, fun x n3 hx od H3 e3 r3 => ?_⟩
    · obtain ⟨h1, h2, h3⟩ := R2.bag b l eb
      exact ⟨h1, .inl h2, .inl h3⟩
    · exact q _ _ hd _ _ ((e1.trans e2).trans (e3.cx (c := c) rfl R2.bag)) r3
    · exact qw _ _ hx _ _ ((e1.trans e2).trans (e3.cx (c := c) rfl R2.bag)) r3
theorem de_mt0X {pl : Sem Bool} (T : Cls X.K C) (hM : Meth X.K C nm fi) (F : FnOk X.prog X.w X.K X.mg X.base (L2.CX X.prog X.w) k fi gd ["self"] (lSp X.K sp)) (hb : Binds X.K gd ["self"] []) (tk : Takes X Y.W) (hr : Room k X.A) (ho : DEX X Y o wox)
    (ht : eval (.Call (.Attribute o nm ap) [] [] pos) X.env = (do
      let rv ← eval o X.env
      standAt ap.atName
      let (fv, hd) ← holding [rv] (getMethod rv nm pl)
      callWith pos fv hd (backTo pos (starEach [] X.env)) (backToKw pos (keywordEach [] X.env))) := by rfl) : DEX X Y (.Call (.Attribute o nm ap) [] [] pos) (wMtX C nm sp wox wNil) :=
  .of (pe_mt0 ho.pe T hM F hr hb (fun σ => passAt tk σ) ht) fun σ H Q ⟨c, ad, n, env, Q0, E0', R, q0, q, qe⟩ => by
    obtain ⟨c', ad', n', env', Q1, E1, R', q1, h1, h2⟩ := mt_to (Y := Y) (EE := fun cls d H' => Y.W cls d σ H') R q0 q qe qe
    refine ⟨c', ad', n', env', Q1, E1, R', q1, fun d n1 hd v H1 e1 r1 => ?_, h2⟩
    obtain ⟨a, d, fs, g1, g2, g3, g4⟩ := h1 d n1 hd v H1 e1 r1
    obtain ⟨c2, ad2, n2, env2, Q2, R2, k1, k2⟩ := g4
    exact ⟨a, d, fs, g1, g2, g3, k2 _ _ k1 _ _ (.refl R2.bag) .nil⟩
/-- a method that lets nothing out -/
theorem de_mt0 {pl : Sem Bool} (T : Cls X.K C) (hM : Meth X.K C nm fi) (F : FnOk X.prog X.w X.K X.mg X.base CX0 k fi gd ["self"] (lSp X.K sp)) (hb : Binds X.K gd ["self"] []) (hr : Room k X.A) (ho : DEX X Y o wox)
    (ht : eval (.Call (.Attribute o nm ap) [] [] pos) X.env = (do
      let rv ← eval o X.env
      standAt ap.atName
      let (fv, hd) ← holding [rv] (getMethod rv nm pl)
      callWith pos fv hd (backTo pos (starEach [] X.env)) (backToKw pos (keywordEach [] X.env))) := by rfl) : DEX X Y (.Call (.Attribute o nm ap) [] [] pos) (wMtX C nm sp wox wNil) :=
  .of (pe_mt0 (Ex := fun σ cls d H' => Y.W cls d σ H') ho.pe T hM F hr hb (fun σ => pass0A) ht) fun σ H Q ⟨c, ad, n, env, Q0, E0', R, q0, q, qe⟩ => by
    obtain ⟨c', ad', n', env', Q1, E1, R', q1, h1, h2⟩ := mt_to (Y := Y) (EE := fun cls d H' => Y.W cls d σ H') R q0 q qe qe
    refine ⟨c', ad', n', env', Q1, E1, R', q1, fun d n1 hd v H1 e1 r1 => ?_, h2⟩
    obtain ⟨a, d, fs, g1, g2, g3, g4⟩ := h1 d n1 hd v H1 e1 r1
    obtain ⟨c2, ad2, n2, env2, Q2, R2, k1, k2⟩ := g4
    exact ⟨a, d, fs, g1, g2, g3, k2 _ _ k1 _ _ (.refl R2.bag) .nil⟩
end
end Dv

set_option Elab.async false
set_option linter.all false
set_option maxRecDepth 100000
set_option maxHeartbeats 4000000
/-! DvJ: isinstance of any value, an own instance among them; == of instances -/
namespace Dv
open PySem PySem.Spec PyProof.Rows L2 Ke
/-- an own class as isinstance looks at it -/
structure ClsX (K : PySem.W.Frag) (C : Addr) : Prop where
  cl : Cls K C
  ha : PySem.W.findIn K (.ref C) "__class__" = some (some (.builtin "object.__class__"))
  hn : PySem.W.specialIn K (.builtin "object.__class__") "__get__" = some (some (.builtin "getset_descriptor.__get__"))
  tk : PySem.W.takesIn K (.builtin "object.__class__") = some true
  hm : PySem.W.mroIn K C (.type "object") = some true
/-- .. and no built-in kind's -/
structure ClsP (K : PySem.W.Frag) (C : Addr) : Prop extends ClsX K C where
  kL : PySem.W.kitOne K (.ref C) (.type "list") = some false
  kT : PySem.W.kitOne K (.ref C) (.type "tuple") = some false
  kS : PySem.W.kitOne K (.ref C) (.type "str") = some false
  kI : PySem.W.kitOne K (.ref C) (.type "int") = some false
  kB : PySem.W.kitOne K (.ref C) (.type "bool") = some false
/-- a value of a known kind -/
def D.kind (K : PySem.W.Frag) (d : D) : Prop := d.ty? = true ∨ ∃ C fs, d = .ins C fs ∧ ClsP K C
def tyVal : D → Option Value
  | .ins C _ => some (.ref C)
  | d => d.tyName.map Value.type
def clVal : D → Option Value
  | .ty T => some (.type T)
  | .ref C => some (.ref C)
  | _ => none
theorem kind_ty {K : PySem.W.Frag} {d : D} {t : Value} (h : d.kind K) (e : tyVal d = some t) {bg : Option (Addr × Addr)} {O : Addr → Prop} {H : Hp} {v : V} (s : Sh K bg O H v d) : TyX K H v t := by
  rcases h with h | ⟨C, fs, rfl, T⟩
  · cases z : d.tyName with
    | none =>
      have : d.ty? = false := by unfold D.ty?; rw [z]; rfl
      rw [this] at h; cases h
    | some n =>
      have : tyVal d = some (.type n) := by
        cases d <;> cases z <;> rfl
      rw [this] at e
      cases e
      exact s.ty z
  · cases e
    obtain ⟨a, dx, fv, rfl, ha, r⟩ := s.ins'
    exact .base (.ins ha T.cl T.ha T.hn T.tk T.hm)
def rIsC (K : PySem.W.Frag) : RC := fun ds Q => ∃ d c t u b, ds = [d, c] ∧ d.kind K ∧ tyVal d = some t ∧ clVal c = some u ∧ PySem.W.kitOne K t u = some b ∧ Q (.bl b)
theorem Sh.clv {K : PySem.W.Frag} {bg : Option (Addr × Addr)} {O : Addr → Prop} {H : Hp} {v : V} {c : D} {u : Value} (s : Sh K bg O H v c) (e : clVal c = some u) : ClsV v u := by
  cases c with
  | ty T => cases e; cases s.ty'; exact .ty _
  | ref C => cases e; cases s.ref'; exact .own _
  | _ => cases e
section
variable {X : Cx}
theorem cd_isC : CallD X (.builtin "isinstance") (rIsC X.K) := by
  refine ⟨⟨_, call_isi, ?_⟩⟩
  rintro bg O H vs ds Q0 Q hO s ⟨d, c, t, u, b, rfl, hk, ht, hu, hb, h⟩ q
  obtain ⟨v, w, rfl, s1, s2⟩ := s.two
  exact ⟨v, w, t, u, b, rfl, s2.clv hu, kind_ty hk ht s1, hb, q _ h _ _ (.refl _) (.bl _)⟩
/-- one of a tuple of classes -/
def clVals : List D → Option (List Value)
  | [] => some []
  | c :: r => match clVal c, clVals r with
    | some u, some us => some (u :: us)
    | _, _ => none
theorem cls_rep {K : PySem.W.Frag} {bg : Option (Addr × Addr)} {H : Hp} : ∀ {vs : List V} {ds : List D} {us : List Value}, RepL K bg H vs ds → clVals ds = some us → Paired ClsV vs us
  | _, _, us, .nil, h => by cases h; exact .nil
  | _, d :: ds, us, .cons h t, e => by
    unfold clVals at e
    split at e
    · rename_i u us' h1 h2
      cases e
      refine .cons ?_ (cls_rep t h2)
      cases d with
      | ty T => cases h1; cases h; exact .ty _
      | ref C => cases h1; cases h; exact .own _
      | _ => cases h1
    · cases e
def rIsCT (K : PySem.W.Frag) : RC := fun ds Q => ∃ d cs t us b, ds = [d, .tup cs] ∧ d.kind K ∧ tyVal d = some t ∧ clVals cs = some us ∧ PySem.W.kitAny K t us = some b ∧ Q (.bl b)
theorem cd_isCT : CallD X (.builtin "isinstance") (rIsCT X.K) := by
  refine ⟨⟨_, call_isiS, ?_⟩⟩
  rintro bg O H vs ds Q0 Q hO s ⟨d, cs, t, us, b, rfl, hk, ht, hu, hb, h⟩ q
  obtain ⟨v, w, rfl, s1, s2⟩ := s.two
  obtain ⟨p, ws, rfl, hp, hl, r⟩ := s2.tup'
  exact ⟨v, p, ws, t, us, b, rfl, hp, cls_rep r hu, kind_ty hk ht s1, hb, q _ h _ _ (.refl _) (.bl _)⟩
end
/-! ### the answers for the built-in kinds -/
theorem tyVal_ty {d : D} (h : d.ty? = true) : ∃ n, d.tyName = some n ∧ tyVal d = some (.type n) := by
  obtain ⟨n, hn⟩ := Option.isSome_iff_exists.1 (show d.tyName.isSome = true from h)
  refine ⟨n, hn, ?_⟩
  cases d <;> cases hn <;> rfl
theorem kit_of_isT {K : PySem.W.Frag} {d : D} {T : String} {b : Bool} (h : d.ty? = true) (e : isT d T = some b) : ∃ t, tyVal d = some t ∧ PySem.W.kitOne K t (.type T) = some b := by
  obtain ⟨n, hn, ht⟩ := tyVal_ty h
  unfold isT at e
  rw [hn] at e
  exact ⟨_, ht, kit_ty e⟩
theorem s_isC {K : PySem.W.Frag} {d : D} {T : String} {b : Bool} {Q : D → Prop} (h : d.kind K) (e1 : d.ty? = true → isT d T = some b) (e2 : ∀ C fs, d = .ins C fs → ClsP K C → PySem.W.kitOne K (.ref C) (.type T) = some b) : rIsC K [d, .ty T] Q = Q (.bl b) := by
  have key : ∃ t, tyVal d = some t ∧ PySem.W.kitOne K t (.type T) = some b := by
    rcases h with h | ⟨C, fs, rfl, P⟩
    · exact kit_of_isT h (e1 h)
    · exact ⟨_, rfl, e2 C fs rfl P⟩
  obtain ⟨t, ht, hk⟩ := key
  refine propext ⟨fun ⟨d', c, t', u, b', ed, _, h2, h3, h4, q⟩ => ?_, fun q => ⟨d, .ty T, t, .type T, b, rfl, h, ht, rfl, hk, q⟩⟩
  cases ed
  rw [ht] at h2
  cases h2
  cases h3
  rw [hk] at h4
  cases h4
  exact q
theorem s_isC_list {K : PySem.W.Frag} {d : D} {Q : D → Prop} (h : d.kind K) : rIsC K [d, .ty "list"] Q = Q (.bl d.isLst) := s_isC h isT_list fun C fs e P => by rw [e]; exact P.kL
theorem s_isC_tuple {K : PySem.W.Frag} {d : D} {Q : D → Prop} (h : d.kind K) : rIsC K [d, .ty "tuple"] Q = Q (.bl d.isTup) := s_isC h isT_tuple fun C fs e P => by rw [e]; exact P.kT
theorem s_isC_str {K : PySem.W.Frag} {d : D} {Q : D → Prop} (h : d.kind K) : rIsC K [d, .ty "str"] Q = Q (.bl d.isStr) := s_isC h isT_str fun C fs e P => by rw [e]; exact P.kS
theorem s_isC_int {K : PySem.W.Frag} {d : D} {Q : D → Prop} (h : d.kind K) : rIsC K [d, .ty "int"] Q = Q (.bl d.isInt) := s_isC h isT_int fun C fs e P => by rw [e]; exact P.kI
theorem s_isC_bool {K : PySem.W.Frag} {d : D} {Q : D → Prop} (h : d.kind K) : rIsC K [d, .ty "bool"] Q = Q (.bl d.isBool) := s_isC h isT_bool fun C fs e P => by rw [e]; exact P.kB
theorem s_isCT {K : PySem.W.Frag} {d : D} {Q : D → Prop} (h : d.kind K) : rIsCT K [d, .tup [.ty "list", .ty "tuple"]] Q = Q (.bl (d.isLst || d.isTup)) := by
  have key : ∃ t, tyVal d = some t ∧ PySem.W.kitAny K t [.type "list", .type "tuple"] = some (d.isLst || d.isTup) := by
    have two : ∀ {t : Value} {a b : Bool}, PySem.W.kitOne K t (.type "list") = some a → PySem.W.kitOne K t (.type "tuple") = some b → PySem.W.kitAny K t [.type "list", .type "tuple"] = some (a || b) := fun {t a b} h1 h2 => by
      cases a with
      | true => exact kitAny_cons (b := true) h1 (fun h => nomatch h) (fun _ => rfl)
      | false =>
        refine kitAny_cons (b := false) h1 (fun _ => ?_) (fun h => nomatch h)
        cases b with
        | true => exact kitAny_cons (b := true) h2 (fun h => nomatch h) (fun _ => rfl)
        | false => exact kitAny_cons (b := false) h2 (fun _ => kitAny_nil) (fun h => nomatch h)
    rcases h with h | ⟨C, fs, rfl, P⟩
    · obtain ⟨t, h1, h2⟩ := kit_of_isT (K := K) h (isT_list h)
      obtain ⟨t', h3, h4⟩ := kit_of_isT (K := K) h (isT_tuple h)
      rw [h1] at h3
      cases h3
      exact ⟨t, h1, two h2 h4⟩
    · exact ⟨_, rfl, two P.kL P.kT⟩
  obtain ⟨t, ht, hk⟩ := key
  refine propext ⟨fun ⟨d', cs, t', us, b', ed, _, h2, h3, h4, q⟩ => ?_, fun q => ⟨d, _, t, _, _, rfl, h, ht, rfl, hk, q⟩⟩
  cases ed
  rw [ht] at h2
  cases h2
  cases h3
  rw [hk] at h4
  cases h4
  exact q
end Dv

set_option Elab.async false
set_option linter.all false
set_option maxRecDepth 100000
set_option maxHeartbeats 4000000
/-! DvK: == of own instances -/
namespace Dv
open PySem PySem.Spec PyProof.Rows L2 Ke
section
variable {X : Cx} {C g : Addr} {gd : FuncData} {ps : List Str} {k : Nat} {sp : Sp} {op : CmpOp}
def rIns (C : Addr) (sp : Sp) : R2 := fun x y H Q => ∃ a dx fv b dy gv, x = .ref a ∧ y = .ref b ∧ H a = some (.ins C dx fv) ∧ H b = some (.ins C dy gv) ∧ sp [x, y] H Q E0
theorem op_ins (hop : ∀ a b, compareOp op a b = richCompare op a b) (hs : PySem.W.findIn X.K (.ref C) (cmpInfo op).2.1 = some (some (.ref g))) (hf : PySem.W.isFn X.K (.ref g) = true) (F : FnOk X.prog X.w X.K X.mg X.base CX0 k g gd ps sp) (hb : Binds X.K gd ps []) (hr : Room k X.A) :
    OpR X (compareOp op) (rIns C sp) := by
  intro pins s σ H x y v u Q I rx ry ⟨a, dx, fv, b, dy, gv, ex, ey, ha, hb', q⟩
  subst ex ey
  cases (show v = Value.ref a from rx)
  cases (show u = Value.ref b from ry)
  obtain ⟨mA, OA, _, _, _, _⟩ := ins_get I.hok ha
  obtain ⟨mB, OB, _, _, _, _⟩ := ins_get I.hok hb'
  obtain ⟨oA, IA, _⟩ := ObjM.look OA
  obtain ⟨oB, IB, _⟩ := ObjM.look OB
  obtain ⟨m, hF⟩ := I.fr
  rw [hop]
  refine PySem.W.cmp_K (op := op) (tb := .ref C) hr.units0 hF I.ok.mod.kin IA IB.type (by simp [PySem.W.notFirst]) hs hf ?_
  refine wpAny_mono (wpAny_call (run_fnR (us := [.ref a, .ref b]) (vs := [.ref a, .ref b]) (F.raw hb .nil) hr pass0 I (.cons rfl (.cons rfl .nil)) (by simpa using q))) (fun w s' ⟨z', H', I', rz, qz⟩ => SlX.cmpback rz ⟨z', H', I', rz, qz⟩) fun _ _ x => x
end
/-! ### without the bag -/
mutual
def D.noBag : D → Bool
  | .bag => false
  | .lst xs => D.noBags xs
  | .tup xs => D.noBags xs
  | .ins _ fs => D.noBagF fs
  | .dk _ | .dt _ | .exn _ _ _ => false
  | _ => true
def D.noBags : List D → Bool
  | [] => true
  | x :: xs => D.noBag x && D.noBags xs
def D.noBagF : List (Str × D) → Bool
  | [] => true
  | (_, x) :: xs => D.noBag x && D.noBagF xs
end
section
variable {K : PySem.W.Frag} {bg bg' : Option (Addr × Addr)} {H : Hp}
mutual
theorem Rep.nb : ∀ {v : V} {d : D}, Rep K bg H v d → d.noBag = true → Rep K bg' H v d
  | _, _, .non, _ => .non
  | _, _, .bl b, _ => .bl b
  | _, _, .int i, _ => .int i
  | _, _, .str h, _ => .str h
  | _, _, .ty n, _ => .ty n
  | _, _, .ref a, _ => .ref a
  | _, _, .bag h, z => by simp [D.noBag] at z
  | _, _, .lst h hl r, z => .lst h hl (RepL.nb r (by simpa [D.noBag] using z))
  | _, _, .tup h hl r, z => .tup h hl (RepL.nb r (by simpa [D.noBag] using z))
  | _, _, .ins h r, z => .ins h (RepF.nb r (by simpa [D.noBag] using z))
  | _, _, .dk h r, z => by simp [D.noBag] at z
  | _, _, .dt h r, z => by simp [D.noBag] at z
  | _, _, .exn h r, z => by simp [D.noBag] at z
theorem RepL.nb : ∀ {v : List V} {d : List D}, RepL K bg H v d → D.noBags d = true → RepL K bg' H v d
  | _, _, .nil, _ => .nil
  | _, _, .cons h t, z => by
    rw [D.noBags, Bool.and_eq_true] at z
    exact .cons (Rep.nb h z.1) (RepL.nb t z.2)
theorem RepF.nb : ∀ {v : List (Str × V)} {d : List (Str × D)}, RepF K bg H v d → D.noBagF d = true → RepF K bg' H v d
  | _, _, .nil, _ => .nil
  | _, _, .cons h t, z => by
    rw [D.noBagF, Bool.and_eq_true] at z
    exact .cons (Rep.nb h z.1) (RepF.nb t z.2)
end
end
theorem OpD.or {X : Cx} {f : Value → Value → Sem Value} {Rd Rd' : RR} (h : OpD X f Rd) (k : OpD X f Rd') : OpD X f (fun x y Q => Rd x y Q ∨ Rd' x y Q) := by
  obtain ⟨r, h1, h2⟩ := h.ex
  obtain ⟨r', h3, h4⟩ := k.ex
  exact ⟨⟨_, OpR.or h1 h3, fun bg O H v1 v2 d1 d2 Q0 Q hO s1 s2 h q => h.elim (fun h => .inl (h2 bg O H v1 v2 d1 d2 Q0 Q hO s1 s2 h q)) fun h => .inr (h4 bg O H v1 v2 d1 d2 Q0 Q hO s1 s2 h q)⟩⟩
/-- x == y, both of the class at C, neither a new one in the making -/
def rEqI (C : Addr) (sp : DSp) : RR := fun x y Q => (∃ fs gs, x = .ins C fs ∧ y = .ins C gs ∧ x.noBag = true ∧ y.noBag = true) ∧ sp [x, y] 0 (fun d _ => (d.noBag = true ∧ d.flat = true) ∧ Q d) noE
theorem od_eqI {X : Cx} {C g : Addr} {gd : FuncData} {ps : List Str} {k : Nat} {sp : DSp} (hs : PySem.W.findIn X.K (.ref C) "__eq__" = some (some (.ref g))) (hf : PySem.W.isFn X.K (.ref g) = true) (F : FnOk X.prog X.w X.K X.mg X.base CX0 k g gd ps (lSp X.K sp)) (hb : Binds X.K gd ps []) (hr : Room k X.A) :
    OpD X (compareOp .Eq) (rEqI C sp) := by
  refine ⟨⟨_, op_ins (op := .Eq) (fun _ _ => rfl) hs hf F hb hr, ?_⟩⟩
  rintro bg O H v1 v2 d1 d2 Q0 Q hO s1 s2 ⟨⟨fs, gs, rfl, rfl, n1, n2⟩, q0⟩ q
  have r1 : ∃ a dx fv, v1 = .ref a ∧ H a = some (.ins C dx fv) ∧ RepF X.K bg (cut O H) fv fs := s1.ins'
  have r2 : ∃ a dx fv, v2 = .ref a ∧ H a = some (.ins C dx fv) ∧ RepF X.K bg (cut O H) fv gs := s2.ins'
  obtain ⟨a, dx, fv, rfl, ha, ra⟩ := r1
  obtain ⟨b, dy, gv, rfl, hb', rb⟩ := r2
  -- nothing is forbidden to the two themselves
  have hO' : ∀ z, (O z ∧ z ≠ a ∧ z ≠ b) → H z ≠ none := fun z h => hO z h.1
  have sm : Same (cut O H) (cut (fun z => O z ∧ z ≠ a ∧ z ≠ b) H) := cut_mono fun z o h1 h2 => ⟨fun w => h1 w.1, h2⟩
  have g1 : Rep X.K none (cut (fun z => O z ∧ z ≠ a ∧ z ≠ b) H) (.ref a) (.ins C fs) := .ins (by rw [cut_out (fun w => w.2.1 rfl)]; exact ha) ((ra.same sm).nb (by simpa [D.noBag] using n1))
  have g2 : Rep X.K none (cut (fun z => O z ∧ z ≠ a ∧ z ≠ b) H) (.ref b) (.ins C gs) := .ins (by rw [cut_out (fun w => w.2.2 rfl)]; exact hb') ((rb.same sm).nb (by simpa [D.noBag] using n2))
  refine ⟨a, dx, fv, b, dy, gv, rfl, rfl, ha, hb', ⟨H, fun z => O z ∧ z ≠ a ∧ z ≠ b, none, fun _ => False⟩, _, 0, fun d _ => (d.noBag = true ∧ d.flat = true) ∧ Q0 d, noE, ⟨rfl, hO', fun b l e => nomatch e⟩, .cons g1 (.cons g2 .nil), q0, fun d n' ⟨⟨hd, hf⟩, hq⟩ v H' e r => q d hq v H' (fun z o h => e.keep z o h fun ⟨l, w⟩ => nomatch w) ?_, fun x n' z => z.elim⟩
  exact (r.flat hf _).nb hd
end Dv

set_option Elab.async false
set_option linter.all false
set_option maxRecDepth 100000
set_option maxHeartbeats 4000000
/-! EnT: enumerate of a tuple -/
namespace Et
open PySem PySem.Spec PyProof.Rows L2 RZ
open PySem.Sem (wp)
open AutoSeq1 (wpAny_loadPart')
section
variable {prog : Program} {w : World} {A : Around} {E : Value → Shared → Prop} {s : Shared}
/-- the counter stepped and a pair given, once the inner next has answered -/
theorem next_item {e it l : Addr} {i : Nat} {items : Array Value} {x old : Value} {Q : Value → Shared → Prop}
    (he : IsEnum s.heap e it i old) (hit : s.heap.IsTupleIter it l i) (hl : s.heap.IsTuple l items) (hx : items[i]? = some x) (hne : e ≠ it)
    (hQ : ∀ h', IsEnumOut h' e it ((i : Int) + 1) x s.heap.objs.size → h'.IsTupleIter it l (i + 1) →
      h'.get? s.heap.objs.size = some { cls := .type "tuple", data := .seq #[.int i s.toks, x] } → h'.objs.size = s.heap.objs.size + 1 →
      (∀ b o, b ≠ e → b ≠ it → s.heap.get? b = some o → h'.get? b = some o) → Q (.ref s.heap.objs.size) { s with heap := h', toks := s.toks + 1 }) :
    wpAny (model prog w) A (Builtin.«enumerate.__next__» ⟨[.ref e], []⟩) (fun fin s' => ∃ v, fin = .done (.ret v) ∧ Q v s') E s := by
  obtain ⟨hp, g, d, tk, os⟩ := s
  have hel : e < hp.objs.size := Heap.lt_size he
  show wpAny _ _ (field (.ref e) 2 >>= _) _ _ _
  refine wpAny_bind (wpAny_field he rfl (x := .ref it) rfl (wpAny_bind (nextOf_tuple_item hit hl hx fun h1 i1 k1 => ?_)))
  replace k1 : Heap.SameBut it hp h1 := k1
  have e1 : IsEnum h1 e it i old := (k1.2 e hne).trans he
  show wpAny _ _ (field (.ref e) 3 >>= _) _ _ ⟨h1, g, d, tk, os⟩
  refine wpAny_bind (wpAny_field e1 rfl (x := rawInt i) rfl ?_)
  show wpAny _ _ (field (.ref e) 4 >>= _) _ _ ⟨h1, g, d, tk, os⟩
  refine wpAny_bind (wpAny_field e1 rfl (x := .none) rfl ?_)
  show wpAny _ _ (mkInt i >>= _) _ _ ⟨h1, g, d, tk, os⟩
  refine wpAny_bind (wpAny_mkInt ?_)
  show wpAny _ _ (setField (.ref e) 3 (rawInt ((i : Int) + 1)) >>= _) _ _ ⟨h1, g, d, tk + 1, os⟩
  refine wpAny_bind (wpAny_setField_rec e1 (by simp) fun h2 e2 k2 => ?_)
  replace k2 : Heap.SameBut e h1 h2 := k2
  replace e2 : IsEnum h2 e it ((i : Int) + 1) old := e2
  show wpAny _ _ (setField (.ref e) 4 .none >>= _) _ _ ⟨h2, g, d, tk + 1, os⟩
  refine wpAny_bind (wpAny_setField_rec e2 (by simp) fun h3 e3 k3 => ?_)
  replace k3 : Heap.SameBut e h2 h3 := k3
  replace e3 : IsEnum h3 e it ((i : Int) + 1) old := e3
  show wpAny _ _ (newTuple [.int i tk, x] >>= _) _ _ ⟨h3, g, d, tk + 1, os⟩
  refine wpAny_bind (wpAny_newTuple ?_)
  have hsz : h3.objs.size = hp.objs.size := by rw [k3.1, k2.1, k1.1]
  obtain ⟨h4, hh4⟩ : ∃ h4, h4 = h3.push { cls := .type "tuple", data := .seq #[.int i tk, x] } := ⟨_, rfl⟩
  have e4 : IsEnum h4 e it ((i : Int) + 1) old := by rw [hh4]; exact Heap.get?_push_of_some _ e3
  have t4 : h4.get? hp.objs.size = some { cls := .type "tuple", data := .seq #[.int i tk, x] } := by rw [hh4, ← hsz]; exact Heap.get?_push_size _ rfl
  have z4 : h4.objs.size = hp.objs.size + 1 := by rw [hh4, Heap.size_push, hsz]
  have kk4 : ∀ b o, b ≠ e → b ≠ it → hp.get? b = some o → h4.get? b = some o := fun b o n1 n2 q => by
    rw [hh4]; exact Heap.get?_push_of_some _ (k3.extBut b o n1 (k2.extBut b o n1 (k1.extBut b o n2 q)))
  have i4 : h4.IsTupleIter it l (i + 1) := by
    rw [hh4]
    exact ((i1.extBut k2.extBut (Ne.symm hne)).extBut k3.extBut (Ne.symm hne)).at fun o q => Heap.get?_push_of_some _ q
  rw [← hh4]
  show wpAny _ _ (Builtin.SmallTypes.ownedTupleIsFree (.ref e) >>= _) _ _ ⟨h4, g, d, tk + 1, os⟩
  rw [hsz]
  clear hh4 e3 k3 e2 k2 e1 k1 i1 hsz
  refine wpAny_bind ?_
  · unfold Builtin.SmallTypes.ownedTupleIsFree
    refine wpAny_bind (wpAny_field e4 rfl (x := .none) rfl (wpAny_pure ?_))
    simp only [if_true]
    refine wpAny_bind (wpAny_rule (wpAny_bind (wpAny_field e4 rfl (x := old) rfl (wpAny_bind (wpAny_setField_rec e4 (by simp) fun h5 e5 k5 => ?_)))))
    replace k5 : Heap.SameBut e h4 h5 := k5
    replace e5 : IsEnum h5 e it ((i : Int) + 1) x := e5
    show wpAny _ _ (Builtin.SmallTypes.ownedTupleHandOut (.ref e) (.ref hp.objs.size) >>= _) _ _ ⟨h5, g, d, tk + 1, os⟩
    refine wpAny_bind ?_
    · unfold Builtin.SmallTypes.ownedTupleHandOut
      refine wpAny_bind (wpAny_setField_rec e5 (by simp) fun h6 e6 k6 => ?_)
      replace k6 : Heap.SameBut e h5 h6 := k6
      replace e6 : IsEnumOut h6 e it ((i : Int) + 1) x hp.objs.size := e6
      refine wpAny_setField_rec e6 (by simp) fun h7 e7 k7 => ?_
      replace k7 : Heap.SameBut e h6 h7 := k7
      replace e7 : IsEnumOut h7 e it ((i : Int) + 1) x hp.objs.size := e7
      have all : ∀ b o, b ≠ e → h4.get? b = some o → h7.get? b = some o := fun b o n1 q => k7.extBut b o n1 (k6.extBut b o n1 (k5.extBut b o n1 q))
      exact wpAny_bind (wpAny_letGo (wpAny_pure ⟨_, rfl, hQ h7 e7 (i4.at fun o q => all it o (Ne.symm hne) q) (all _ _ (Nat.ne_of_gt hel) t4) (by rw [k7.1, k6.1, k5.1, z4]) fun b o n1 n2 q => all b o n1 (kk4 b o n1 n2 q)⟩))
theorem pyNext_item {e it l : Addr} {i : Nat} {items : Array Value} {x old : Value} {Q : Option Value → Shared → Prop}
    (he : IsEnum s.heap e it i old) (hit : s.heap.IsTupleIter it l i) (hl : s.heap.IsTuple l items) (hx : items[i]? = some x) (hne : e ≠ it)
    (hQ : ∀ h', IsEnumOut h' e it ((i : Int) + 1) x s.heap.objs.size → h'.IsTupleIter it l (i + 1) →
      h'.get? s.heap.objs.size = some { cls := .type "tuple", data := .seq #[.int i s.toks, x] } → h'.objs.size = s.heap.objs.size + 1 →
      (∀ b o, b ≠ e → b ≠ it → s.heap.get? b = some o → h'.get? b = some o) → Q (some (.ref s.heap.objs.size)) { s with heap := h', toks := s.toks + 1 }) :
    wpAny (model prog w) A (pyNext (.ref e)) Q E s := by
  have hT : s.TypeIs (.ref e) "enumerate" := ⟨_, he, rfl⟩
  unfold pyNext
  exact wpAny_bind (wpAny_attempt (wpAny_callSpecial?_slot (name := Str.ofString "__next__") hT F.slot_enumerate_next (wpAny_call_entry F.slot_enumerate_next hT F.entry_enumerate_next (next_item he hit hl hx hne fun h' a b c d k => wpAny_pure (hQ h' a b c d k)) (F.args_enumerate_next_1 _))))
theorem pyNext_end {e it l : Addr} {i : Nat} {items : Array Value} {old : Value} {Q : Option Value → Shared → Prop} (hh : A.handled = none)
    (he : IsEnum s.heap e it i old) (hit : s.heap.IsTupleIter it l i) (hl : s.heap.IsTuple l items) (hx : items[i]? = none)
    (hQ : ∀ h', Heap.ExtBut it s.heap h' → Q none { s with heap := h' }) : wpAny (model prog w) A (pyNext (.ref e)) Q E s := by
  have hT : s.TypeIs (.ref e) "enumerate" := ⟨_, he, rfl⟩
  unfold pyNext
  refine wpAny_bind (wpAny_attempt (wpAny_callSpecial?_slot (name := Str.ofString "__next__") hT F.slot_enumerate_next (wpAny_call_entry F.slot_enumerate_next hT F.entry_enumerate_next ?_ (F.args_enumerate_next_1 _))))
  show wpAny _ _ (field (.ref e) 2 >>= _) _ _ _
  refine wpAny_bind (wpAny_field he rfl (x := .ref it) rfl (wpAny_bind (nextOf_tuple_end hh hit hl hx fun h' x k ⟨o, ho, hc⟩ => ?_)))
  exact wpAny_bind (wpAny_isInstance (T := "StopIteration") (b := true) ⟨o, ho, hc⟩ isSubtype_stop (wpAny_pure (hQ _ k)))
end
theorem meets_new (l : Addr) (items : Array Value) :
    Meets (Builtin.«enumerate.__new__» ⟨[.type "enumerate", .ref l], []⟩) (fun _ R s => s.heap.IsTuple l items ∧
      R (.ok (.ret (.ref (s.heap.push { cls := .type "tuple_iterator", data := .fields #[.ref l, .int 0 0] }).objs.size)))
        { s with heap := (s.heap.push { cls := .type "tuple_iterator", data := .fields #[.ref l, .int 0 0] }).push { cls := .type "enumerate", data := .fields #[.none, .bool false, .ref s.heap.objs.size, rawInt 0, .none, .none] } }) :=
  .of_wp fun prog w A R s h => by
    obtain ⟨hp, g, d, tk, os⟩ := s
    obtain ⟨hl, h⟩ := h
    have hsub := sub_enumerate
    have hL : Heap.IsTuple (Shared.heap ⟨hp, g, d, tk, os⟩) l items := hl
    obtain ⟨⟨c, dct, dt, sl⟩, hl1, hc, n, hd⟩ := id hl
    replace hc : c = .type "tuple" := hc
    replace hd : dt = .seq items n := hd
    subst hc hd
    wp_walk using wpAny_loadPart' hl1
    refine wpAny_stack_any fun st => wpAny_pure ?_
    split
    · rename_i c _ _ _ _ _
      cases (c == Value.type "enumerate")
      · wp_walk using wpAny_loadPart' hl1, wpAny_pyIter_tuple hL
        exact ⟨_, rfl, h⟩
      · wp_walk using wpAny_loadPart' hl1, wpAny_pyIter_tuple hL
        exact ⟨_, rfl, h⟩
    · wp_walk using wpAny_loadPart' hl1, wpAny_pyIter_tuple hL
      exact ⟨_, rfl, h⟩
section
variable {prog : Program} {w : World} {A : Around} {E : Value → Shared → Prop} {s : Shared}
theorem call_enum {l : Addr} {items : Array Value} {Q : Value → Shared → Prop} (hL : s.heap.IsTuple l items)
    (h : ∀ h', IsEnum h' (s.heap.objs.size + 1) s.heap.objs.size 0 .none → h'.IsTupleIter s.heap.objs.size l 0 → h'.objs.size = s.heap.objs.size + 2 →
      (∀ b o, s.heap.get? b = some o → h'.get? b = some o) → Q (.ref (s.heap.objs.size + 1)) { s with heap := h' }) :
    wpAny (model prog w) A (call (.type "enumerate") [.ref l]) Q E s := by
  refine callType_new F.called_enumerate (by decide) (F.typeCall_enumerate_1 _) (F.newCall_enumerate_1 _) (fun obj => F.args_object_init_2 obj _) F.entry_enumerate_new (meets_new l items) ⟨hL, ?_⟩
  have z1 : (s.heap.push { cls := .type "tuple_iterator", data := .fields #[.ref l, .int 0 0] }).objs.size = s.heap.objs.size + 1 := Heap.size_push ..
  have g2 : ((s.heap.push { cls := .type "tuple_iterator", data := .fields #[.ref l, .int 0 0] }).push { cls := .type "enumerate", data := .fields #[.none, .bool false, .ref s.heap.objs.size, rawInt 0, .none, .none] }).get? (s.heap.push { cls := .type "tuple_iterator", data := .fields #[.ref l, .int 0 0] }).objs.size = some _ := Heap.get?_push_size _ rfl
  show _ ∧ _
  rw [z1] at g2 ⊢
  exact ⟨⟨_, g2, rfl⟩, h _ g2 ⟨_, Heap.get?_push_of_some _ (Heap.get?_push_size _ rfl), rfl, rfl⟩ (by rw [Heap.size_push, z1]) fun b o q => Heap.get?_push_of_some _ (Heap.get?_push_of_some _ q)⟩
end
end Et

set_option Elab.async false
set_option linter.all false
set_option maxRecDepth 100000
set_option maxHeartbeats 4000000
/-! EnU: loops over enumerate of a list or of a tuple -/
namespace Et
open PySem PySem.Spec PyProof.Rows L2 RZ Dv
def IteT (K : PySem.W.Frag) (a : Addr) : It :=
  ⟨fun i H => ∃ (xs : List V) (x : V), SqT K H a xs ∧ xs[i]? = some x, fun i H v H' => ∃ T x, v = .ref T ∧ H T = none ∧ H' = upd H T (.tup [.int (i : Nat), x]) ∧ ∀ xs, SqT K H a xs → xs[i]? = some x, fun i H => ∃ xs : List V, SqT K H a xs ∧ xs.length ≤ i⟩
theorem turn_enumT {P : Program} {w : World} {K : PySem.W.Frag} {elts : List Expr} {kk : Nat} {tpos : Pos} (a e it : Addr) :
    Turn P w K (.Tuple elts kk tpos) (IteT K a) [e, it] e (fun i h => (∃ old, IsEnum h e it ((i : Nat) : Int) old) ∧ h.IsTupleIter it a i ∧ e ≠ it) where
  mem := by simp
  obj := fun i h st b hb => by
    obtain ⟨⟨old, he⟩, ⟨o, ho, hc, hd⟩, _⟩ := st
    rcases (show b = e ∨ b = it by simpa using hb) with z | z
    · rw [z]; exact ⟨_, he, fun v q => nomatch q⟩
    · rw [z]; exact ⟨o, ho, fun v q => by rw [hd] at q; cases q⟩
  keep := fun i h h' st k => let ⟨⟨old, he⟩, hi, hne⟩ := st; ⟨⟨old, k e (by simp) _ he⟩, hi.at fun o q => k it (by simp) o q, hne⟩
  item := by
    intro X hP hw hK hc i pins s σ H E I hf st hg
    subst hP hw hK
    obtain ⟨⟨old, he⟩, hit, hne⟩ := st
    obtain ⟨xs, x, hq, hx⟩ := hg
    obtain ⟨its, rv, p, _⟩ := I.tuple hq
    obtain ⟨u, hu, ru⟩ := rv.get hx
    have hel : e < s.heap.objs.size := Heap.lt_size he
    have hil : it < s.heap.objs.size := by obtain ⟨_, q, _⟩ := hit; exact Heap.lt_size q
    refine pyNext_item he hit p (x := u) (by simpa using hu) hne fun h' ho hit' hT hsz hk => ?_
    refine ⟨_, rfl, wpAny_letOwnedTupleGo_enum (s := { s with heap := h', toks := s.toks + 1 }) ho fun h'' he' sb => ?_⟩
    have hT2 : h''.get? s.heap.objs.size = some { cls := .type "tuple", data := .seq #[.int i s.toks, u] } := (sb.2 _ (Nat.ne_of_gt hel)).trans hT
    have new : ObjOk X.prog X.w (upd H s.heap.objs.size (.tup [.int (i : Nat), x])) h'' s.heap.objs.size (.tup [.int (i : Nat), x]) :=
      ⟨by show 2 ≤ sizeLine; decide, [.int i s.toks, u], .cons ⟨_, rfl⟩ (.cons ru .nil), ⟨_, hT2, rfl, _, rfl⟩⟩
    have I1 : Inv X pins σ (upd H s.heap.objs.size (.tup [.int (i : Nat), x])) { s with heap := h'', toks := s.toks + 1 } :=
      I.turnedNew (ch := [e, it]) (fun b ob hb q => (sb.2 b (fun z => hb (by simp [z]))).trans (hk b ob (fun z => hb (by simp [z])) (fun z => hb (by simp [z])) q)) hf (Nat.le_refl _) new
    refine ⟨.ref s.heap.objs.size, _, I1, rfl, ⟨_, x, rfl, I.hok.fresh (Nat.le_refl _), rfl, fun ys hy => by rw [I.tuple_inj hy hq]; exact hx⟩, ⟨⟨u, ?_⟩, hit'.at fun o q => (sb.2 it (Ne.symm hne)).trans q, hne⟩, fun b hb => ?_⟩
    · rw [show ((i + 1 : Nat) : Int) = (i : Int) + 1 by omega]; exact he'
    · have hb' : b < s.heap.objs.size := by
        rcases (show b = e ∨ b = it by simpa using hb) with z | z
        · rw [z]; exact hel
        · rw [z]; exact hil
      rw [upd_ne (Nat.ne_of_lt hb')]
      exact (hf b hb).1
  done := by
    intro X hP hw hK hc i pins s σ H E I hf st hg
    subst hP hw hK
    obtain ⟨⟨old, he⟩, hit, hne⟩ := st
    obtain ⟨xs, hq, hx⟩ := hg
    obtain ⟨its, rv, p, _⟩ := I.tuple hq
    obtain ⟨f0, f1, f2, f3, f4, f5⟩ := hf it (by simp)
    have hl := rv.length
    exact pyNext_end (I.ok.hd hc) he hit p (by simp; omega) fun h' eb => ⟨rfl, I.turned (t' := s.toks) (fun b o hb q => eb b o hb q) f0 f1 f3 f4 f5⟩
  self := fun A i s Q E st h => let ⟨⟨_, he⟩, _⟩ := st; wpAny_pyIter_enum he h
def iEnumA (K : PySem.W.Frag) (ta : TA) : TI := fun σ H R => ta σ H fun vs H1 => ∃ a xs, vs = [.ref a] ∧ ((SqL K H1 a xs ∧ R (Ite K a) H1) ∨ (SqT K H1 a xs ∧ R (IteT K a) H1))
theorem pi_enumA {X : Cx} {e : Expr} {ta : TA} {p pos tpos : Pos} {elts : List Expr} {kk : Nat} (hg : Gl X "enumerate") (hm : X.mg "enumerate" = none) (ha : PA X [e] ta) (hs : starEach [e] X.env = [(false, eval e X.env)] := by rfl) :
    PI X (.Tuple elts kk tpos) (.Call (.Name "enumerate" p) [e] [] pos) (iEnumA X.K ta) := by
  refine ⟨fun pins s σ H R I h => ?_⟩
  refine Call_ (ld_blt I hg hm boot_enumerate (PyProof.Rows.callWith_type1 (thn (ha.run pos pins s σ H _ I h) fun us s1 ⟨vs, H1, I1, r1, q1⟩ => ?_) hs rfl))
  obtain ⟨a, xs, ex, q1⟩ := q1
  subst ex
  cases r1 with
  | cons r rr =>
    cases rr
    cases r
    have fp : ∀ b, b ∈ [s1.heap.objs.size + 1, s1.heap.objs.size] → FpOk X pins H1 b := fun b hb => by
      have hle : s1.heap.objs.size ≤ b := by
        rcases (show b = s1.heap.objs.size + 1 ∨ b = s1.heap.objs.size by simpa using hb) with z | z
        · rw [z]; exact Nat.le_add_right _ _
        · rw [z]; exact Nat.le_refl _
      exact I1.fpOk hle (I1.hok.fresh hle)
    rcases q1 with ⟨hq, q⟩ | ⟨hq, q⟩
    · obtain ⟨its, rv, p', hz⟩ := I1.list hq
      refine call_enumerate_list p'.isList fun h' he hit hsz hk => wpAny_pyIter_enum he ?_
      have I2 : Inv X pins σ H1 { s1 with heap := h' } := I1.kept (t' := s1.toks) hk
      exact ⟨s1.heap.objs.size + 1, [s1.heap.objs.size + 1, s1.heap.objs.size], _, _, H1, rfl, I2, turn_enum a (s1.heap.objs.size + 1) s1.heap.objs.size, ⟨⟨.none, he⟩, hit, Nat.succ_ne_self _⟩, fp, q⟩
    · obtain ⟨its, rv, p', _⟩ := I1.tuple hq
      refine call_enum (show s1.heap.IsTuple a its.toArray from p') fun h' he hit hsz hk => wpAny_pyIter_enum he ?_
      have I2 : Inv X pins σ H1 { s1 with heap := h' } := I1.kept (t' := s1.toks) hk
      exact ⟨s1.heap.objs.size + 1, [s1.heap.objs.size + 1, s1.heap.objs.size], _, _, H1, rfl, I2, turn_enumT a (s1.heap.objs.size + 1) s1.heap.objs.size, ⟨⟨.none, he⟩, hit, Nat.succ_ne_self _⟩, fp, q⟩
/-! ### by value -/
def enumD (xs : List D) : List D := xs.mapIdx fun i x => .tup [.int (i : Nat), x]
theorem enumD_get {xs : List D} {i : Nat} {x : D} (h : xs[i]? = some x) : (enumD xs)[i]? = some (.tup [.int (i : Nat), x]) := by
  unfold enumD
  rw [List.getElem?_mapIdx, h]
  rfl
theorem enumD_len (xs : List D) : (enumD xs).length = xs.length := List.length_mapIdx
theorem yl_enum {K : PySem.W.Frag} {bg : Option (Addr × Addr)} {O : Addr → Prop} {H : Hp} {a : Addr} {vs : List V} {xs : List D} (ha : cut O H a = some (.lst vs)) (r : RepL K bg (cut O H) vs xs) : Yl K bg O H (Ite K a) (enumD xs) := by
  have at1 : ∀ H2, Same (cut O H) H2 → SqL K H2 a vs := fun H2 sm => .inl (.inl (sm _ _ ha))
  have l1 := r.len
  refine ⟨fun H2 sm => ⟨vs, at1 _ sm, by rw [enumD_len]; omega⟩, fun i H2 sm hi => ?_, fun i H2 x H3 hlt sm ⟨T, u, ex, hT, e3, h1⟩ => ?_⟩
  · rw [enumD_len] at hi
    exact ⟨vs, vs[i]'(by omega), at1 _ sm, by simp⟩
  · subst ex e3
    obtain ⟨d, g1, k1⟩ := r.get (h1 vs (at1 _ sm))
    refine ⟨_, enumD_get g1, fun b o hb => ?_, fun O2 hO2 hO => ?_⟩
    · rw [upd_ne (fun z => by rw [z, hT] at hb; cases hb)]
      exact hb
    · have s2 : Same (cut O H) (cut O2 H2) := fun b o hb => by rw [cut_out (hO b o hb)]; exact sm b o hb
      exact (pair_new hT hO2 (.int _) (k1.same s2)).2
theorem yl_enumT {K : PySem.W.Frag} {bg : Option (Addr × Addr)} {O : Addr → Prop} {H : Hp} {a : Addr} {vs : List V} {xs : List D} (ha : SqT K (cut O H) a vs) (r : RepL K bg (cut O H) vs xs) : Yl K bg O H (IteT K a) (enumD xs) := by
  have at1 : ∀ H2, Same (cut O H) H2 → SqT K H2 a vs := fun H2 sm => sqt_same sm ha
  have l1 := r.len
  refine ⟨fun H2 sm => ⟨vs, at1 _ sm, by rw [enumD_len]; omega⟩, fun i H2 sm hi => ?_, fun i H2 x H3 hlt sm ⟨T, u, ex, hT, e3, h1⟩ => ?_⟩
  · rw [enumD_len] at hi
    exact ⟨vs, vs[i]'(by omega), at1 _ sm, by simp⟩
  · subst ex e3
    obtain ⟨d, g1, k1⟩ := r.get (h1 vs (at1 _ sm))
    refine ⟨_, enumD_get g1, fun b o hb => ?_, fun O2 hO2 hO => ?_⟩
    · rw [upd_ne (fun z => by rw [z, hT] at hb; cases hb)]
      exact hb
    · have s2 : Same (cut O H) (cut O2 H2) := fun b o hb => by rw [cut_out (hO b o hb)]; exact sm b o hb
      exact (pair_new hT hO2 (.int _) (k1.same s2)).2
/-- enumerate of a list or of a tuple -/
def wEnum (w : WA) : WI := fun env n Q => w env n fun ds n1 => ∃ xs, (ds = [.lst xs] ∨ ds = [.tup xs]) ∧ Q (enumD xs) n1
theorem di_enum {X : Cx} {e1 : Expr} {w : WA} {p tpos pos : Pos} {elts : List Expr} {kk : Nat} (hm : X.mg "enumerate" = none) (ha : DA X [e1] w) (hg : Gl X "enumerate" := by rfl)
    (hs : starEach [e1] X.env = [(false, eval e1 X.env)] := by rfl) : DI X (.Tuple elts kk tpos) (.Call (.Name "enumerate" p) [e1] [] pos) (wEnum w) :=
  .of (pi_enumA hg hm ha.pa hs) fun σ H R ⟨c, ad, n, env, Y0, RL, q0, q⟩ => ⟨c, ad, n, env, _, RL, q0, fun ds n1 ⟨xs, ed, q1⟩ vs H1 e1 r1 => by
    rcases ed with ed | ed
    · subst ed
      cases r1 with
      | cons h t =>
        cases t
        cases h with
        | @lst a va _ ha hla ra => exact ⟨a, va, rfl, .inl ⟨.inl (.inl (cut_le _ _ ha)), q _ _ q1 _ _ e1 (yl_enum ha ra)⟩⟩
    · subst ed
      cases r1 with
      | cons h t =>
        cases t
        cases h with
        | @tup a va _ ha hla ra => exact ⟨a, va, rfl, .inr ⟨sqt_same cut_le ha, q _ _ q1 _ _ e1 (yl_enumT ha ra)⟩⟩⟩
theorem s_enumL {xs : List D} {env : En} {n : Nat} {i : Nat} {Q : List D → Nat → Prop} : (∃ ys, ([D.lst xs] = [.lst ys] ∨ [D.lst xs] = [.tup ys]) ∧ Q (enumD ys) n) = Q (enumD xs) n :=
  propext ⟨fun ⟨ys, e, q⟩ => by rcases e with e | e <;> cases e; exact q, fun q => ⟨xs, .inl rfl, q⟩⟩
theorem s_enumT {xs : List D} {env : En} {n : Nat} {i : Nat} {Q : List D → Nat → Prop} : (∃ ys, ([D.tup xs] = [.lst ys] ∨ [D.tup xs] = [.tup ys]) ∧ Q (enumD ys) n) = Q (enumD xs) n :=
  propext ⟨fun ⟨ys, e, q⟩ => by rcases e with e | e <;> cases e; exact q, fun q => ⟨xs, .inr rfl, q⟩⟩
end Et

set_option Elab.async false
set_option linter.all false
set_option maxRecDepth 100000
set_option maxHeartbeats 4000000
/-! DvM: list.insert of an own list -/
namespace Dv
open PySem PySem.Spec PyProof.Rows L2 Ke
section
variable {X : Cx} {Y : XI} {e e2 : Expr} {we we2 : WE} {pos : Pos} {env : En} {n i : Nat}
def insL {α : Type} (xs : List α) (k : Nat) (x : α) : List α := xs.take k ++ [x] ++ xs.drop k
theorem insL_len {α : Type} (xs : List α) (k : Nat) (x : α) : (insL xs k x).length = xs.length + 1 := by
  unfold insL
  rw [List.length_append, List.length_append, List.length_take, List.length_drop, List.length_singleton]
  omega
theorem insL_mem {α : Type} {xs : List α} {k : Nat} {x y : α} (h : y ∈ insL xs k x) : y ∈ xs ∨ y = x := by
  unfold insL at h
  rcases List.mem_append.1 h with h | h
  · rcases List.mem_append.1 h with h | h
    · exact .inl (List.mem_of_mem_take h)
    · exact .inr (List.mem_singleton.1 h)
  · exact .inl (List.mem_of_mem_drop h)
def wInsert (i : Nat) (wi we : WE) : WS := fun D env n => ∃ xs, env[i]? = some (.own (.lst xs)) ∧ wi env n fun j n1 => we env n1 fun d n2 => ∃ k : Nat, j = .int k ∧ k ≤ xs.length ∧ xs.length < sizeLine ∧ D.nx (env.set i (.own (.lst (insL xs k d)))) n2
theorem ds_insert (i : Nat) {x : Str} {p apos cpos : Pos} (h : DE X e we) (h' : DE X e2 we2) (hN : X.N[i]? = some x := by rfl) (hv : Vis X.env.scope x := by first | exact Or.inl rfl | exact Or.inr (Or.inl rfl) | exact Or.inr (Or.inr rfl)) (hd : (x == ("__debug__" : Str)) = false := by decide)
    (hcd : (x == ("__classdict__" : Str)) = false := by decide) (hs : swapsWith (.Call (.Attribute (.Name x p) "insert" apos) [e, e2] [] cpos) none pos.line X.env = pure false := by rfl)
    (hbase : attributeBase (.Name x p) "insert" X.env (eval (.Name x p) X.env) = eval (.Name x p) X.env := by rfl)
    (hfew : ((backTo cpos (starEach (e :: [e2]) X.env)).all (fun x => !x.1) && (backToKw cpos (keywordEach [] X.env)).all (fun x => x.1.isSome)
      && decide ((e :: ([e2] : List Expr)).length + ([] : List Keyword).length + (if ([] : List Keyword).isEmpty then 0 else 1) < 30)) = true := by rfl)
    (hline : (apos.endLine == cpos.line) = true := by rfl) (hst : starEach (e :: [e2]) X.env = (false, eval e X.env) :: starEach [e2] X.env := by rfl) (hst2 : starEach (e2 :: []) X.env = (false, eval e2 X.env) :: starEach [] X.env := by rfl) (hplain : (backTo cpos (starEach [e2] X.env)).any (·.1) = false := by rfl) :
    DS X Y (.Expr (.Call (.Attribute (.Name x p) "insert" apos) [e, e2] [] cpos) pos) (wInsert i we we2) :=
  .of (ps_expr (pe_bm PySem.F.plainAttrs_list PySem.F.slot_list_insert PySem.F.type_list_insert mt_insert (pe_var hN hv hd hcd) (pa_cons h.pe (pa_cons h'.pe pa_nil hst2) hst) hbase hfew hline hst hplain) hs) fun E σ H ⟨c, ad, n, env, D0, R, ⟨xs, hx, q0⟩, S⟩ => by
    obtain ⟨vs, h1, h2, hl, r⟩ := rel_own_lst R hx
    refine ⟨_, h1, .inl ⟨rfl, _, .inl (.inl h2)⟩, ⟨c, ad, n, env, _, R, q0, fun j n1 q1 vj H1 e1 r1 => ?_⟩⟩
    refine ⟨c, ad, n1, env, _, R.step e1, q1, fun d n2 ⟨k, ej, hk, hz, q2⟩ v H2 e2 r2 => ?_⟩
    subst ej
    cases r1
    have R2 := (R.step e1).step e2
    obtain ⟨vs, h1, h2, hl, r⟩ := rel_own_lst R2 hx
    have hl2 := r.len
    refine ⟨ad i, vs, k, v, rfl, rfl, h2, by omega, by omega, ?_, S.nx _ _ q2 _ _ _ (R2.change hx (.lst ?_ ?_))⟩
    · have := sizeLine_eq
      omega
    · show (insL vs (k : Int).toNat v).length ≤ sizeLine
      rw [insL_len]
      omega
    · show RepL X.K c.bg _ (vs.take (k : Int).toNat ++ [v] ++ vs.drop (k : Int).toNat) (xs.take k ++ [d] ++ xs.drop k)
      rw [Int.toNat_natCast]
      exact ((r.take k).app (.cons r2 .nil)).app (r.drop k)
end
section
variable {i : Nat} {wi we : WE} {env : En} {n : Nat}
theorem s_insert {D : DEnds} : wInsert i wi we D env n = atOb env i fun o => asLst o fun xs => wi env n fun j n1 => we env n1 fun d n2 => ∃ k : Nat, j = .int k ∧ k ≤ xs.length ∧ xs.length < sizeLine ∧ D.nx (env.set i (.own (.lst (insL xs k d)))) n2 := ex_lst
end
/-- a list or a tuple -/
def asLT (d : D) (Q : List D → Prop) : Prop := match d with
  | .lst xs => Q xs
  | .tup xs => Q xs
  | _ => False
theorem asLT_l {xs : List D} {Q : List D → Prop} : asLT (.lst xs) Q = Q xs := rfl
theorem asLT_t {xs : List D} {Q : List D → Prop} : asLT (.tup xs) Q = Q xs := rfl
theorem s_enum {we : WE} {env : En} {n : Nat} {Q : List D → Nat → Prop} : Et.wEnum (wCons we wNil) env n Q = we env n fun d n1 => asLT d fun xs => Q (Et.enumD xs) n1 := by
  unfold Et.wEnum wCons wNil
  congr 1
  funext d n1
  refine propext ⟨fun ⟨xs, e, q⟩ => ?_, fun h => ?_⟩
  · rcases e with e | e <;> cases e <;> exact q
  · cases d <;> first | exact h.elim | exact ⟨_, .inl rfl, h⟩ | exact ⟨_, .inr rfl, h⟩
theorem cx_K {CX : CXT} {P : Program} {w : World} {K : PySem.W.Frag} {mg : Str → Option Value} {base : Heap} {N : List Str} {qual : Str} {scope : Scope} {f : Addr} {cd : Value} {A : Around} {outer : List Env} {s : Shared} {H : Hp} {E : XK} : (cxOf CX P w K mg base N qual scope f cd A outer s H E).K = K := rfl
/-! ### readings of raise, fields, makes -/
section
variable {env : En} {n i : Nat} {C : Addr} {f : Str} {we : WE} {wa : WA}
theorem s_raise1 {De : DEnds} : wRaise C [f] (wCons we wNil) De env n = we env n fun d n1 => De.ex env n1 ⟨C, some [(f, d)]⟩ := by
  show (we env n fun d n1 => ([d] : List D).length = 1 ∧ De.ex env n1 ⟨C, if ([(f, d)] : List (Str × D)).reverse = [] then none else some ([(f, d)] : List (Str × D)).reverse⟩) = _
  congr 1
  funext d n1
  exact propext ⟨fun h => by have := h.2; rwa [if_neg (by simp)] at this, fun h => ⟨rfl, by rw [if_neg (by simp)]; exact h⟩⟩
def asIns (o : Ob) (C : Addr) (Q : Addr → List (Str × D) → Prop) : Prop := ∃ y fs, o = .ins y C fs ∧ Q y fs
theorem asIns_i {y : Addr} {fs : List (Str × D)} {Q : Addr → List (Str × D) → Prop} : asIns (.ins y C fs) C Q = Q y fs := propext ⟨fun ⟨y', fs', e, q⟩ => by cases e; exact q, fun q => ⟨y, fs, rfl, q⟩⟩
theorem s_putF {D : DEnds} : wPutF i C f we D env n = atOb env i fun o => asIns o C fun y fs => fs.length < 1000 ∧ we env n fun d n1 => D.nx (env.set i (.own (.ins y C (putD f d fs)))) n1 := by
  unfold wPutF asIns
  rw [← ex_ob]
  exact propext ⟨fun ⟨y, fs, h, q⟩ => ⟨_, h, y, fs, rfl, q⟩, fun ⟨o, h, y, fs, e, q⟩ => ⟨y, fs, by rw [h, e], q⟩⟩
def asFld (d : D) (C : Addr) (f : Str) (Q : D → Prop) : Prop := ∃ fs v, d = .ins C fs ∧ fs.lookup f = some v ∧ Q v
theorem s_fld {Q : D → Nat → Prop} : wFld C f we env n Q = we env n fun d n1 => asFld d C f fun v => Q v n1 := rfl
theorem asFld_i {fs : List (Str × D)} {Q : D → Prop} : asFld (.ins C fs) C f Q = asSome (fs.lookup f) Q := by
  rw [← ex_some]
  exact propext ⟨fun ⟨fs', v, e, h, q⟩ => by cases e; exact ⟨v, h, q⟩, fun ⟨v, h, q⟩ => ⟨fs, v, rfl, h, q⟩⟩
theorem s_startI4 {y : Addr} {a b c e : Str} {d : D} : startI y C [a, b, c, e] [d] = [.own (.ins y C []), .val d, .un, .un] := rfl
end
end Dv

set_option Elab.async false
set_option linter.all false
set_option maxRecDepth 100000
set_option maxHeartbeats 4000000
/-! DvO: list(range(n)); range with a step -/
namespace Dv
open PySem PySem.Spec PyProof.Rows L2
section
variable {X : Cx} {Y : XI} {tg a b c : Expr} {we : WE} {w : WA} {pos : Pos}
theorem RepL.rng {K : PySem.W.Frag} {bg : Option (Addr × Addr)} {H : Hp} (lo hi : Int) : RepL K bg H (rgV lo hi) (rngD lo (hi - lo).toNat) := by
  unfold rgV rngD
  generalize (hi - lo).toNat = m
  induction m with
  | zero => exact .nil
  | succ m ih =>
    rw [List.range_succ, List.map_append, List.map_append]
    exact ih.app (.cons (.int _) .nil)
def rListRg (we : WE) : WO := fun env n Q => we env n fun d n1 => ∃ j : Int, d = .int j ∧ (-(2 ^ 62) ≤ j ∧ j ≤ 16777216) ∧ Q (.lst (rngD 0 j.toNat)) n1
theorem df_listRg {p p2 pos2 : Pos} (ml : X.mg "list" = none) (mr : X.mg "range" = none) (ha : DE X a we) (hc : X.calm = true := by rfl) (hg : Gl X "list" := by rfl) (hg2 : Gl X "range" := by rfl)
    (na : starEach [a] X.env = (false, eval a X.env) :: starEach [] X.env := by rfl) (nb : starEach [Expr.Call (.Name "range" p2) [a] [] pos2] X.env = (false, eval (Expr.Call (.Name "range" p2) [a] [] pos2) X.env) :: starEach [] X.env := by rfl) : DF X (.Call (.Name "list" p) [.Call (.Name "range" p2) [a] [] pos2] [] pos) (rListRg we) :=
  .of (pe_listRg hc hg ml (prg_1 hg2 mr ha.pe na) nb) fun σ H Q ⟨c, ad, n, env, Q0, R, q0, q⟩ => ⟨c, ad, n, env, _, R, q0, fun d n1 ⟨j, ed, ⟨h1, h2⟩, q1⟩ v H1 e1 s1 => by
    subst ed
    cases s1
    refine ⟨j, rfl, ⟨by omega, by omega, by omega, by omega, by omega⟩, fun l hl' => ?_⟩
    have hz : (rgV 0 j).length ≤ sizeLine := by rw [rgV_length, sizeLine_eq]; omega
    have r : RepL X.K c.bg (cut (Oa c ad env) H1) (rgV 0 j) (rngD 0 j.toNat) := by
      have := RepL.rng (K := X.K) (bg := c.bg) (H := cut (Oa c ad env) H1) 0 j
      rwa [show (j - 0).toNat = j.toNat by rw [Int.sub_zero]] at this
    obtain ⟨g1, g2, g3, g4⟩ := new_at R e1 hl' hz r
    exact q _ _ q1 l _ _ g1 g2 g3 g4⟩
/-- range(i, j, -1) -/
def rngC (lo c : Int) (n : Nat) : List D := (List.range n).map fun k => .int (lo + (k : Nat) * c)
theorem rngC_len {lo c : Int} {n : Nat} : (rngC lo c n).length = n := by unfold rngC; simp
theorem yl_rngC {K : PySem.W.Frag} {bg : Option (Addr × Addr)} {O : Addr → Prop} {H : Hp} (lo c : Int) (n : Nat) : Yl K bg O H (Itc lo c n) (rngC lo c n) := by
  refine ⟨fun H2 sm => ?_, fun i H2 sm hi => ?_, fun i H2 x H3 hlt sm hy => ?_⟩
  · rw [rngC_len]; exact Nat.le_refl _
  · rw [rngC_len] at hi; exact hi
  · obtain ⟨e, ex⟩ := hy
    subst e ex
    rw [rngC_len] at hlt
    refine ⟨.int (lo + (i : Nat) * c), ?_, .refl _, fun O2 _ _ => .int _⟩
    unfold rngC
    rw [List.getElem?_map, List.getElem?_range hlt]
    rfl
def wRng3 (w : WA) : WI := fun env n Q => w env n fun ds n1 => ∃ i j : Int, ds = [.int i, .int j, .int (-1)] ∧ (-(2 ^ 62) ≤ i ∧ i < 2 ^ 62 ∧ -(2 ^ 62) ≤ j ∧ j < 2 ^ 62) ∧ Q (rngC i (-1) (i - j).toNat) n1
theorem di_rng3 {p : Pos} (hm : X.mg "range" = none) (ha : DA X [a, b, c] w) (hg : Gl X "range" := by rfl) (hs : starEach [a, b, c] X.env = (false, eval a X.env) :: starEach [b, c] X.env := by rfl) (hpl : (backTo pos (starEach [b, c] X.env)).any (·.1) = false := by rfl) : DI X tg (.Call (.Name "range" p) [a, b, c] [] pos) (wRng3 w) :=
  .of (pi_range3 hg hm ha.pa hs hpl) fun σ H R ⟨c, ad, n, env, Y0, RL, q0, q⟩ => ⟨c, ad, n, env, _, RL, q0, fun ds n1 ⟨i, j, ed, ⟨h1, h2, h3, h4⟩, q1⟩ vs H1 e1 r1 => by
    subst ed
    have ev : vs = [.int i, .int j, .int (-1)] := by
      cases r1 with
      | cons h t => cases h; cases t.ints2; rfl
    exact ⟨i, j, -1, (i - j).toNat, ev, .neg h1 h2 h3 h4, q _ _ q1 _ _ e1 (yl_rngC i (-1) (i - j).toNat)⟩⟩
end
section
variable {env : En} {n : Nat} {wa wb we : WE}
theorem s_listRg {Q : Ob → Nat → Prop} : rListRg we env n Q = we env n fun d n1 => asInt d fun j => (-(2 ^ 62) ≤ j ∧ j ≤ 16777216) ∧ Q (.lst (rngD 0 j.toNat)) n1 := by unfold rListRg; simp only [ex_int]
theorem s_rng3 {wc : WE} {Q : List D → Nat → Prop} : wRng3 (wCons wa (wCons wb (wCons wc wNil))) env n Q = wa env n fun d n1 => wb env n1 fun e n2 => wc env n2 fun f n3 => asInt d fun i => asInt e fun j => f = .int (-1) ∧ (-(2 ^ 62) ≤ i ∧ i < 2 ^ 62 ∧ -(2 ^ 62) ≤ j ∧ j < 2 ^ 62) ∧ Q (rngC i (-1) (i - j).toNat) n3 := by
  unfold wRng3 wCons wNil
  congr 1
  funext d n1
  congr 1
  funext e n2
  congr 1
  funext f n3
  rw [← ex_int]
  simp only [← ex_int]
  exact propext ⟨fun ⟨i, j, h, h1, q⟩ => ⟨i, (List.cons.inj h).1, j, (List.cons.inj (List.cons.inj h).2).1, (List.cons.inj (List.cons.inj (List.cons.inj h).2).2).1, h1, q⟩, fun ⟨i, h, j, h', hf, h1, q⟩ => ⟨i, j, by rw [h, h', hf], h1, q⟩⟩
theorem s_par {De : DEnds} {i j : Nat} : wPar i j (wCons wa (wCons wb wNil)) De env n = wa env n fun d n1 => wb env n1 fun e n2 => De.nx ((env.set i (.val d)).set j (.val e)) n2 := by
  unfold wPar wCons wNil
  congr 1
  funext d n1
  congr 1
  funext e n2
  exact propext ⟨fun ⟨a, b, h, q⟩ => by cases h; exact q, fun q => ⟨d, e, rfl, q⟩⟩
end
/-! ### lists of two lengths -/
section
variable {X : Cx}
theorem op_eqLen (hu : X.A.units < cLine) : OpR X (compareOp .Eq) (fun x y H Q => ∃ a b xs ys, x = .ref a ∧ y = .ref b ∧ SqL X.K H a xs ∧ SqL X.K H b ys ∧ xs.length ≠ ys.length ∧ Q (.bl false) H) := by
  intro pins s σ H x y v u Q I rx ry ⟨a, b, xs, ys, ex, ey, ha, hb, hne, q⟩
  subst ex ey
  cases (show v = Value.ref a from rx)
  cases (show u = Value.ref b from ry)
  obtain ⟨its, r1, p1, _⟩ := I.list ha
  obtain ⟨its2, r2, p2, _⟩ := I.list hb
  have l1 := r1.length
  have l2 := r2.length
  exact SeqAt.eq_list_lengthsAt p1.isList p2.isList (by simp only [List.size_toArray, bne_iff_ne]; omega) hu ⟨.bl _, H, I, rfl, q⟩
def rEqLen : RR := fun x y Q => ∃ xs ys, x = .lst xs ∧ y = .lst ys ∧ xs.length ≠ ys.length ∧ Q (.bl false)
theorem od_eqLen (hu : X.A.units + 64 < cLine) : OpD X (compareOp .Eq) rEqLen := by
  refine ⟨⟨_, op_eqLen (by omega), ?_⟩⟩
  rintro bg O H v1 v2 d1 d2 Q0 Q hO s1 s2 ⟨xs, ys, rfl, rfl, hne, h⟩ q
  obtain ⟨p, ws, rfl, hp, hl, r⟩ := s1.lst'
  obtain ⟨p2, ws2, rfl, hp2, hl2, r2⟩ := s2.lst'
  exact ⟨p, p2, ws, ws2, rfl, rfl, .inl (.inl hp), .inl (.inl hp2), by rw [r.len, r2.len]; exact hne, q _ h _ _ (.refl _) (.bl _)⟩
/-- == [] -/
theorem s_eqNil {xs : List D} {Q : D → Prop} (h : Q (.bl xs.isEmpty)) : rEqD false (.lst xs) (.lst []) Q ∨ rEqLen (.lst xs) (.lst []) Q := by
  cases xs with
  | nil => exact .inl ⟨⟨rfl, rfl, by decide, by decide⟩, h⟩
  | cons x xs => exact .inr ⟨_, _, rfl, rfl, by simp, h⟩
theorem dts_oneW {e : Expr} {wt : WT} (h : DW X e wt) : DTs X [e] wt := dts_one h.t
theorem cd_isCK {K : PySem.W.Frag} (h : X.K = K) : CallD X (.builtin "isinstance") (rIsC K) := by subst h; exact cd_isC
theorem cd_isCTK {K : PySem.W.Frag} (h : X.K = K) : CallD X (.builtin "isinstance") (rIsCT K) := by subst h; exact cd_isCT
end
end Dv

set_option Elab.async false
set_option linter.all false
set_option maxRecDepth 100000
set_option maxHeartbeats 4000000
/-! DvP: the lesser, the greater of two numbers -/
namespace Dv
open PySem PySem.Spec PyProof.Rows L2
section
variable {X : Cx}
def rInt2 (f : Int → Int → Int) : RC := fun ds Q => match ds with
  | [.int i, .int j] => Q (.int (f i j))
  | _ => False
theorem cd_min2 (hc : X.calm = true) : CallD X (.builtin "min") (rInt2 fun i j => if j < i then j else i) := by
  refine ⟨⟨_, call_min2 hc, ?_⟩⟩
  intro bg O H vs ds Q0 Q hO s h q
  unfold rInt2 at h
  split at h
  · cases s with
    | cons h1 t =>
      cases t with
      | cons h2 t =>
        cases t
        cases h1.int'
        cases h2.int'
        exact ⟨_, _, rfl, q _ h _ _ (.refl _) (.int _)⟩
  · exact h.elim
theorem cd_max2 (hc : X.calm = true) : CallD X (.builtin "max") (rInt2 fun i j => if i < j then j else i) := by
  refine ⟨⟨_, call_max2 hc, ?_⟩⟩
  intro bg O H vs ds Q0 Q hO s h q
  unfold rInt2 at h
  split at h
  · cases s with
    | cons h1 t =>
      cases t with
      | cons h2 t =>
        cases t
        cases h1.int'
        cases h2.int'
        exact ⟨_, _, rfl, q _ h _ _ (.refl _) (.int _)⟩
  · exact h.elim
theorem s_rInt2 {f : Int → Int → Int} {i j : Int} {Q : D → Prop} : rInt2 f [.int i, .int j] Q = Q (.int (f i j)) := rfl
end
end Dv

set_option Elab.async false
set_option linter.all false
set_option maxRecDepth 100000
set_option maxHeartbeats 4000000
/-! DvQ: what the written part says of the classes, looked at as truths -/
namespace Dv
open PySem PySem.Spec PyProof.Rows L2 Ke
def veT : List Value := [.type "ValueError", .type "Exception", .type "BaseException", .type "object"]
def leT : List Value := [.type "LookupError", .type "Exception", .type "BaseException", .type "object"]
/-- an exception class over bm, looked at -/
def clsB (K : PySem.W.Frag) (bm : List Value) (newId : String) (C : Addr) : Bool :=
  PySem.W.excInitIn K C bm newId && (PySem.W.excOver K C bm && (decide (PySem.W.findIn K (.ref C) "__setattr__" = some (some (.builtin "object.__setattr__"))) &&
    (decide (PySem.W.findIn K (.ref C) "__getattribute__" = some (some (.builtin "BaseException.__getattribute__"))) && (decide (PySem.W.findIn K (.ref C) "__getattr__" = some none) && (decide (PySem.W.subIn K (.ref C) (.type "BaseException") = some true) &&
    (PySem.W.hasDictIn K C && (decide (PySem.W.findIn K (.ref C) "__class__" = some (some (.builtin "object.__class__"))) && (decide (PySem.W.mroIn K C (.type "object") = some true) && (decide (PySem.W.typeIn K (.ref C) = some (.type "type")) && PySem.W.keepIn K (.ref C))))))))))
/-- what all of them lean on -/
def objB (K : PySem.W.Frag) : Bool := decide (PySem.W.specialIn K (.builtin "object.__class__") "__get__" = some (some (.builtin "getset_descriptor.__get__"))) && decide (PySem.W.takesIn K (.builtin "object.__class__") = some true)
theorem clsB_ok {K : PySem.W.Frag} {B newId initId : String} {bm : List Value} {C : Addr} (F : ExcBaseFacts B newId initId bm) (S : StoreFacts B bm "object.__setattr__" "object") (o : objB K = true) (h : clsB K bm newId C = true) : XC K C B newId initId bm := by
  unfold clsB at h
  unfold objB at o
  simp only [Bool.and_eq_true, decide_eq_true_eq] at h o
  obtain ⟨h1, h2, h3, h4, h5, h6, h7, h8, h9, h10, h11⟩ := h
  exact ⟨F, S, h1, h2, h3, ⟨h4, h5, h6, h7, h8, o.1, o.2, h9⟩, h10, h11⟩
def attB (K : PySem.W.Frag) (C : Addr) (ns : List Str) : Bool := ns.all fun f => decide (PySem.W.findIn K (.ref C) f = some none)
theorem attB_ok {K : PySem.W.Frag} {C : Addr} {ns : List Str} (h : attB K C ns = true) : ∀ f ∈ ns, PySem.W.findIn K (.ref C) f = some none := fun f hf => of_decide_eq_true (List.all_eq_true.mp h f hf)
/-- an own exception over ValueError whose instances' fields are read -/
theorem exc_value {K : PySem.W.Frag} {C : Addr} (o : objB K = true) (h : clsB K veT "ValueError.__new__" C = true) : XCl K C ∧ XfC K C := by
  have x := clsB_ok PySem.F.excBase_ValueError PySem.F.store_ValueError o h
  exact ⟨⟨_, _, _, _, x⟩, ⟨x.ex.hg, x.ex.hk, x.ex.hs, x.ex.hd⟩⟩
theorem exc_lookup {K : PySem.W.Frag} {C : Addr} (o : objB K = true) (h : clsB K leT "LookupError.__new__" C = true) : XCl K C ∧ XfC K C := by
  have x := clsB_ok PySem.F.excBase_LookupError PySem.F.store_LookupError o h
  exact ⟨⟨_, _, _, _, x⟩, ⟨x.ex.hg, x.ex.hk, x.ex.hs, x.ex.hd⟩⟩
/-- an own plain class, looked at -/
def ownB (K : PySem.W.Frag) (C : Addr) : Bool :=
  PySem.W.plainGet K C Str.empty && (PySem.W.hasDictIn K C && (PySem.W.plainOver K C && (decide (PySem.W.findIn K (.ref C) "__setattr__" = some (some (.builtin "object.__setattr__"))) &&
    (decide (PySem.W.findIn K (.ref C) "__class__" = some (some (.builtin "object.__class__"))) && (decide (PySem.W.mroIn K C (.type "object") = some true) &&
    (decide (PySem.W.kitOne K (.ref C) (.type "list") = some false) && (decide (PySem.W.kitOne K (.ref C) (.type "tuple") = some false) && (decide (PySem.W.kitOne K (.ref C) (.type "str") = some false) && (decide (PySem.W.kitOne K (.ref C) (.type "int") = some false) && (decide (PySem.W.kitOne K (.ref C) (.type "bool") = some false) &&
    (decide (PySem.W.kitOne K (.ref C) (.ref C) = some true) && (PySem.W.makesIn K C && PySem.W.keepIn K (.ref C)))))))))))))
structure OwnC (K : PySem.W.Frag) (C : Addr) : Prop where
  p : ClsP K C
  kit : PySem.W.kitOne K (.ref C) (.ref C) = some true
  makes : PySem.W.makesIn K C = true
  kp : PySem.W.keepIn K (.ref C) = true
theorem ownB_ok {K : PySem.W.Frag} {C : Addr} (o : objB K = true) (h : ownB K C = true) : OwnC K C := by
  unfold ownB at h
  unfold objB at o
  simp only [Bool.and_eq_true, decide_eq_true_eq] at h o
  obtain ⟨h1, h2, h3, h4, h5, h6, h7, h8, h9, h10, h11, h12, h13, h14⟩ := h
  exact ⟨⟨⟨⟨h1, h2, h3, h4⟩, h5, o.1, o.2, h6⟩, h7, h8, h9, h10, h11⟩, h12, h13, h14⟩
end Dv

set_option Elab.async false
set_option linter.all false
set_option maxRecDepth 100000
set_option maxHeartbeats 4000000
/-! DvR: static methods of a class, called on the class -/
namespace Dv
open PySem PySem.Spec PyProof.Rows L2 Ke
structure SMet (K : PySem.W.Frag) (C : Addr) (m : Str) (p g : Addr) : Prop where
  rd : PySem.W.readsIn K C (.type "type") = true
  ga : PySem.W.specialIn K (.ref C) "__getattribute__" = some (some (.builtin "type.__getattribute__"))
  at_ : PySem.W.findCls K (.ref C) (.type "type") m = some (.get (.builtin "staticmethod.__get__") (.ref p) .none (.ref C))
  sm : ∃ rest, PySem.W.recIn K p "staticmethod" = some (.ref g :: rest)
  kp : PySem.W.keepIn K (.ref g) = true
section
variable {X : Cx} {Y : XI} {C p fi : Addr} {gd : FuncData} {k : Nat} {nm x : Str} {e : Expr} {es : List Expr} {wa : WA} {t tk : TA} {pos px ap : Pos} {kws : List Keyword} {ps ks : List Str} {sp : DSp} {S : Sp} {CT : CXT} {Ex : L2.St → XK}
theorem getmethsm_ok {pl : Sem Bool} {pins : List (Addr × Obj)} {σ : L2.St} {H : Hp} {s : Shared} {A : Around} {E : Value → Shared → Prop} {Q : Value × List Value → Shared → Prop} (I : Inv X pins σ H s) (M : SMet X.K C nm p fi) (h : ∀ s', Inv X pins σ H s' → Q (.ref fi, []) s') :
    wpAny (model X.prog X.w) A (getMethod (.ref C) nm pl) Q E s := by
  obtain ⟨rest, hp⟩ := M.sm
  refine PySem.W.method_cls I.kIn M.ga (PySem.W.cls_bind I.kIn M.rd M.at_ ?_)
  exact wpAny_call (PySem.W.sm_get (s := { s with toks := s.toks + 1 }) I.kIn hp (PySem.W.handed_on rfl (h _ (I.tok _))))
theorem pe_sm {pl : Sem Bool} (hm : X.mg x = some (.ref C)) (M : SMet X.K C nm p fi) (F : FnOk X.prog X.w X.K X.mg X.base CT k fi gd ps S) (hr : Room k X.A) (hb : Binds X.K gd ps []) (hx : ∀ σ, PassesAt CT X σ (Ex σ)) (ha : PA X (e :: es) t) (hg : Gl X x)
    (hdb : (x == ("__debug__" : Str)) = false) (he : starEach (e :: es) X.env = (false, eval e X.env) :: starEach es X.env) (hpl : (backTo pos (starEach es X.env)).any (·.1) = false)
    (ht : eval (.Call (.Attribute (.Name x px) nm ap) (e :: es) [] pos) X.env = (do
      let rv ← eval (.Name x px) X.env
      standAt ap.atName
      let (fv, hd) ← holding [rv] (getMethod rv nm pl)
      callWith pos fv hd (backTo pos (starEach (e :: es) X.env)) (backToKw pos (keywordEach [] X.env)))) : PE X (.Call (.Attribute (.Name x px) nm ap) (e :: es) [] pos) (tCallS S Ex t) := by
  have hn : PE X (.Name x px) (tC (.ref C)) := pe_glob hg hm (v := .ref C) rfl hdb
  refine ⟨fun pins s σ H Q I h => PySem.W.methodCall_KW (pl := pl) (thn (hn.run pins s σ H (fun v H1 => v = .ref C ∧ H1 = H) I ⟨rfl, rfl⟩) fun u s1 hh => ?_) ht⟩
  obtain ⟨y, H1, I1, ry, ey, eH⟩ := hh
  subst ey eH
  obtain rfl : u = Value.ref C := ry
  refine getmethsm_ok I1 M fun s2 I2 => ?_
  refine PySem.W.callWith_K (first := []) (h₀ := X.base) I2.ok.mod.kin M.kp (thn (ha.run pos pins s2 σ _ _ I2 h) fun us s3 ⟨vs, H3, I3, r, q⟩ => ⟨I3.kIn, ?_⟩) he hpl
  exact run_fnS (us := us) (vs := vs) F hr hb (hx σ) I3 r q
/-- .. with keywords alone -/
theorem pe_smK {pl : Sem Bool} (hm : X.mg x = some (.ref C)) (M : SMet X.K C nm p fi) (F : FnOk X.prog X.w X.K X.mg X.base CT k fi gd ps S) (hr : Room k X.A) (hb : KBn X.K gd ps 0 ks (fun _ ws => ws) (fun _ zs => zs)) (hx : ∀ σ, PassesAt CT X σ (Ex σ)) (hk : PK X kws tk) (hlen : ∀ zs H Q E, S zs H Q E → zs.length = ks.length) (hg : Gl X x)
    (hdb : (x == ("__debug__" : Str)) = false) (hall : (backToKw pos (keywordEach kws X.env)).all (·.1.isSome) = true) (hks : (backToKw pos (keywordEach kws X.env)).filterMap (·.1) = ks)
    (hpl : ((backTo pos (starEach [] X.env)).any (·.1) || (backToKw pos (keywordEach kws X.env)).any (·.1.isNone)) = false)
    (ht : eval (.Call (.Attribute (.Name x px) nm ap) [] kws pos) X.env = (do
      let rv ← eval (.Name x px) X.env
      standAt ap.atName
      let (fv, hd) ← holding [rv] (getMethod rv nm pl)
      callWith pos fv hd (backTo pos (starEach [] X.env)) (backToKw pos (keywordEach kws X.env)))) : PE X (.Call (.Attribute (.Name x px) nm ap) [] kws pos) (tCallS S Ex tk) := by
  have hn : PE X (.Name x px) (tC (.ref C)) := pe_glob hg hm (v := .ref C) rfl hdb
  refine ⟨fun pins s σ H Q I h => PySem.W.methodCall_KW (pl := pl) (thn (hn.run pins s σ H (fun v H1 => v = .ref C ∧ H1 = H) I ⟨rfl, rfl⟩) fun u s1 hh => ?_) ht⟩
  obtain ⟨y, H1, I1, ry, ey, eH⟩ := hh
  subst ey eH
  obtain rfl : u = Value.ref C := ry
  refine getmethsm_ok I1 M fun s2 I2 => ?_
  refine PySem.W.callWith_KW0 (h₀ := X.base) I2.ok.mod.kin M.kp hall (thn (hk.run pos pins s2 σ _ _ I2 h) fun ws s3 ⟨zs, H3, I3, rz, q⟩ => ⟨I3.kIn, ?_⟩) hpl
  rw [hks]
  have l2 : ws.length = ks.length := by rw [← rz.length]; exact hlen _ _ _ _ q
  refine wpAny_call (codeAny_mono (F.run X.A X.stack _ _ ⟨[], ks.zip ws⟩ ws zs _ (Ex σ) hr I3.env0 (hb.to _ [] ws I3.kIn rfl l2) (hb.rel (vs := []) (us := []) .nil rz) q) fun r s' hq => ?_)
  cases r with
  | error z => exact hx σ pins _ _ z s' I3 hq
  | ok fl =>
    cases fl with
    | ret v => exact I3.after hq
    | next => exact False.elim hq
    | brk => exact False.elim hq
    | cont => exact False.elim hq
theorem de_smX {pl : Sem Bool} (hm : X.mg x = some (.ref C)) (M : SMet X.K C nm p fi) (F : FnOk X.prog X.w X.K X.mg X.base (L2.CX X.prog X.w) k fi gd ps (lSp X.K sp)) (hb : Binds X.K gd ps []) (tk : Takes X Y.W) (hr : Room k X.A) (ha : DA X (e :: es) wa) (hg : Gl X x := by rfl)
    (hdb : (x == ("__debug__" : Str)) = false := by decide) (he : starEach (e :: es) X.env = (false, eval e X.env) :: starEach es X.env := by rfl) (hpl : (backTo pos (starEach es X.env)).any (·.1) = false := by rfl)
    (ht : eval (.Call (.Attribute (.Name x px) nm ap) (e :: es) [] pos) X.env = (do
      let rv ← eval (.Name x px) X.env
      standAt ap.atName
      let (fv, hd) ← holding [rv] (getMethod rv nm pl)
      callWith pos fv hd (backTo pos (starEach (e :: es) X.env)) (backToKw pos (keywordEach [] X.env))) := by rfl) : DEX X Y (.Call (.Attribute (.Name x px) nm ap) (e :: es) [] pos) (wFnX sp wa) :=
  .of (pe_sm hm M F hr hb (fun σ => passAt tk σ) ha.pa hg hdb he hpl ht) fun σ H Q h => fnX_read h
end
end Dv

set_option Elab.async false
set_option linter.all false
set_option maxRecDepth 100000
set_option maxHeartbeats 4000000
/-! DvS: x, *y = a list; x = xs.pop(); two names at once, one a new list -/
namespace Dv
open PySem PySem.Spec PyProof.Rows L2 Ke
section
variable {X : Cx} {x y : Str} {px py ps pos : Pos} {k i j : Nat}
/-- the head, and a new list of the rest -/
def gHead (i j : Nat) : TG := fun v σ H Q => ∃ a h t, v = .ref a ∧ H a = some (.lst (h :: t)) ∧ ∀ p, H p = none → Q ((σ.set i (some h)).set j (some (.ref p))) (upd H p (.lst t))
theorem pg_head (hc : X.calm = true) (hN : X.N.Nodup) (hi : X.N[i]? = some x) (hj : X.N[j]? = some y) (hx : X.env.scope.names.lookup x = some .local) (hy : X.env.scope.names.lookup y = some .local)
    (hlen : (assignEach [.Name x px, .Starred (.Name y py) ps] X.env).length = 2 := by rfl) (hstar : (assignEach [.Name x px, .Starred (.Name y py) ps] X.env).findIdx? (·.1) = some 1 := by rfl)
    (hs : (assignEach [.Name x px, .Starred (.Name y py) ps] X.env).map (·.2) = [assign (.Name x px) X.env, assign (.Name y py) X.env] := by rfl) : PG X (.Tuple [.Name x px, .Starred (.Name y py) ps] k pos) (gHead i j) := by
  refine ⟨fun pins s σ H v u Q I r hw => ?_⟩
  obtain ⟨l, hd, t, rfl, hH, q⟩ := hw
  cases (show u = Value.ref l from r)
  have hh := I.ok.hd hc
  obtain ⟨z, its, n, rv, hl, e⟩ := I.lstM hH
  cases rv with
  | @cons _ w _ ws r1 rr =>
  have hlist : s.heap.IsList l (w :: ws).toArray := ⟨_, e, rfl, n, rfl⟩
  have hne : l ≠ s.heap.objs.size := Nat.ne_of_lt (Heap.lt_size e)
  rw [assign_Tuple]
  refine wpAny_bind (wpAny_standAt ?_)
  unfold unpack
  rw [hlen, hstar]
  refine wpAny_bind (wpAny_holding ?_)
  unfold unpackItems
  refine wpAny_bind ?_
  unfold notIterableAtAll
  refine wpAny_bind (wpAny_specialOf hlist.typeIs slot_list_iter.lookup ?_)
  refine wpAny_pure ?_
  simp only [Bool.false_eq_true, if_false]
  refine wpAny_bind (wpAny_holding (wpAny_pyIter_list hlist ?_))
  refine wpAny_bind (wpAny_holding (PySem.W.kun_draw hne 1 0 _ _ ⟨_, Heap.get?_push_size _ rfl, rfl, rfl⟩ (hlist.push _) (by simp) fun h₁ hit₁ hs₁ => ?_))
  have hl₁ : h₁.IsList l (w :: ws).toArray := (hlist.push _).extBut hs₁.extBut hne
  have hit₁' := hit₁
  obtain ⟨oi, hoi, _⟩ := hit₁'
  have hl₁' := hl₁
  obtain ⟨ol, hol, _⟩ := hl₁'
  have e0 : List.take 1 (List.drop 0 (w :: ws).toArray.toList) = [w] := rfl
  rw [e0]
  show wpAny _ _ (if 1 < 1 then _ else _) _ _ _
  rw [if_neg (by omega)]
  refine wpAny_bind (wpAny_holding (PySem.W.kun_collect (s := { s with heap := h₁ }) (T := "list_iterator") (.inr (.inr (.inl rfl))) (Walks.list (A := X.A.in1) hh s.heap.objs.size l hne (w :: ws).toArray) (fun j u st => st.1.typeIs) (k := 1) (by simp) ⟨hit₁, hl₁⟩ (Heap.lt_size hoi) (Heap.lt_size hol) (fun h₂ tk hk => ?_) (by rw [List.size_toArray, ← hl]; exact z)))
  have e1 : List.drop 1 (w :: ws).toArray.toList = ws := rfl
  rw [e1]
  show wpAny _ _ (if ws.length < 0 then _ else _) _ _ _
  rw [if_neg (by omega)]
  have he : ∀ b o, s.heap.get? b = some o → h₂.get? b = some o := fun b o g => by
    have hb : b ≠ s.heap.objs.size := Nat.ne_of_lt (Heap.lt_size g)
    exact hk b o hb (hs₁.extBut b o hb (Heap.get?_push_of_some _ g))
  have I2 : Inv X pins σ H { s with heap := h₂, toks := tk } := I.kept he
  have e2 : ws.take (ws.length - 0) = ws := by simp
  have e3 : ws.drop (ws.length - 0) = [] := by simp
  show wpAny _ _ (newList (ws.take (ws.length - 0)) >>= fun d => pure ([w] ++ [d] ++ ws.drop (ws.length - 0))) _ _ _
  rw [e2, e3]
  have hz2 : ws.length ≤ sizeLine := by
    have h1 := hl
    rw [List.length_cons, List.length_cons] at h1
    rw [List.length_cons] at z
    omega
  refine wpAny_bind (wpAny_newList ?_ (by exact hz2))
  refine wpAny_pure ?_
  rw [hs]
  have I3 := Inv.lnew (t' := tk) I2 rr (by rw [rr.length]; exact hz2)
  refine assignInOrder_cons (thn ((pg_name hN hi (.inl hx) (.inr hx)).run pins _ σ _ hd w (fun σ' H' => σ' = σ.set i (some hd) ∧ H' = upd H h₂.objs.size (.lst t)) I3 r1 ⟨rfl, rfl⟩) fun _ s4 hh4 => ?_)
  obtain ⟨σ4, H4, I4, eσ, eH⟩ := hh4
  subst eσ eH
  refine assignInOrder_cons (thn ((pg_name hN hj (.inl hy) (.inr hy)).run pins _ _ _ (.ref h₂.objs.size) (.ref h₂.objs.size) (fun σ' H' => σ' = (σ.set i (some hd)).set j (some (.ref h₂.objs.size)) ∧ H' = upd H h₂.objs.size (.lst t)) I4 rfl ⟨rfl, rfl⟩) fun _ s5 hh5 => ?_)
  obtain ⟨σ5, H5, I5, eσ, eH⟩ := hh5
  subst eσ eH
  exact assignInOrder_nil ⟨_, _, I5, q _ I2.fresh⟩
end
section
variable {X : Cx} {Y : XI} {x y : Str} {px py ps pos pt apos cpos : Pos} {e : Expr} {we : WE} {wo : WO} {k i j : Nat}
/-- x, *y = e, e a list -/
def wHead (i j : Nat) (we : WE) : WS := fun D env n => we env n fun d n1 => ∃ h t, d = .lst (h :: t) ∧ D.nx ((env.set i (.val h)).set j (.val (.lst t))) n1
theorem ds_head {i j : Nat} (hN : X.N.Nodup) (hi : X.N[i]? = some x) (hj : X.N[j]? = some y) (hx : X.env.scope.names.lookup x = some .local) (hy : X.env.scope.names.lookup y = some .local) (h : DE X e we)
    (hc : X.calm = true := by rfl) (hlen : (assignEach [.Name x px, .Starred (.Name y py) ps] X.env).length = 2 := by rfl) (hstar : (assignEach [.Name x px, .Starred (.Name y py) ps] X.env).findIdx? (·.1) = some 1 := by rfl)
    (hse : (assignEach [.Name x px, .Starred (.Name y py) ps] X.env).map (·.2) = [assign (.Name x px) X.env, assign (.Name y py) X.env] := by rfl)
    (hs : swapsWithSole [.Tuple [.Name x px, .Starred (.Name y py) ps] k pt] e pos.line X.env = pure false := by rfl) (hw : swappedStores [.Tuple [.Name x px, .Starred (.Name y py) ps] k pt] e X.env = pure none := by rfl)
    (h1 : (assignEach [.Tuple [.Name x px, .Starred (.Name y py) ps] k pt] X.env).map (·.2) = [assign (.Tuple [.Name x px, .Starred (.Name y py) ps] k pt) X.env] := by rfl) :
    DS X Y (.Assign [.Tuple [.Name x px, .Starred (.Name y py) ps] k pt] e pos) (wHead i j we) :=
  .of (ps_asg h.pe (pg_head hc hN hi hj hx hy hlen hstar hse) hs hw h1) fun E σ H ⟨c, ad, n, env, D0, R, q0, S⟩ => ⟨c, ad, n, env, _, R, q0, fun d n1 ⟨hd, t, ed, q1⟩ v H1 e1 r1 => by
    subst ed
    cases r1 with
    | @lst a vs _ ha hl r =>
      cases r with
      | @cons v0 _ vs _ r0 rt =>
        refine ⟨a, v0, vs, rfl, (cut_some ha).2, fun p hp => ?_⟩
        have R1 := (R.step e1).set (i := i) r0
        have e2 : EStp c H1 (upd H1 p (.lst vs)) n1 := .new e1.bag hp
        have R2 := R1.step e2
        have oal : ∀ a, Oa c ad (env.set i (.val hd)) a → Oa c ad env a := fun a => oa_less (fun o z => by cases z)
        have rt' : RepL X.K c.bg (cut (Oa c ad (env.set i (.val hd))) H1) vs t := rt.same (cut_mono fun a o h1 h2 => ⟨fun z => h1 (oal a z), h2⟩)
        have hz : vs.length ≤ sizeLine := by
          rw [List.length_cons] at hl
          omega
        exact S.nx _ _ q1 _ _ _ (R2.set (i := j) (rep_new R1.oaD hp hz rt').2)⟩
theorem repL_snoc {K : PySem.W.Frag} {bg : Option (Addr × Addr)} {H : Hp} : ∀ {xs : List D} {d : D} {vs : List V}, RepL K bg H vs (xs ++ [d]) → ∃ ws w, vs = ws ++ [w] ∧ RepL K bg H ws xs ∧ Rep K bg H w d
  | [], _, _, .cons a .nil => ⟨[], _, rfl, .nil, a⟩
  | _ :: _, _, _, .cons a b => by
    obtain ⟨ws, w, rfl, g1, g2⟩ := repL_snoc b
    exact ⟨_ :: ws, w, rfl, .cons a g1, g2⟩
/-- y = x.pop(), x a list of one's own -/
def wPopSet (i j : Nat) : WS := fun D env n => ∃ xs d, env[i]? = some (.own (.lst (xs ++ [d]))) ∧ i ≠ j ∧ D.nx ((env.set i (.own (.lst xs))).set j (.val d)) n
theorem ds_popSet (i : Nat) {j : Nat} (hN : X.N.Nodup) (hi : X.N[i]? = some x) (hj : X.N[j]? = some y) (hy : Loc X.env.scope y) (hv : Vis X.env.scope x := by first | exact Or.inl rfl | exact Or.inr (Or.inl rfl) | exact Or.inr (Or.inr rfl)) (hd : (x == ("__debug__" : Str)) = false := by decide)
    (hcd : (x == ("__classdict__" : Str)) = false := by decide) (hs : swapsWith (.Call (.Attribute (.Name x px) "pop" apos) [] [] cpos) (some (.Name y py)) pos.line X.env = pure false := by rfl)
    (hbase : attributeBase (.Name x px) "pop" X.env (eval (.Name x px) X.env) = eval (.Name x px) X.env := by rfl) (hline : (apos.endLine == cpos.line) = true := by rfl) (hf : X.fn y = true ∨ X.env.scope.names.lookup y = some .local := by first | exact .inl rfl | exact .inr rfl | assumption) :
    DS X Y (.Assign [.Name y py] (.Call (.Attribute (.Name x px) "pop" apos) [] [] cpos) pos) (wPopSet i j) :=
  .of (ps_set hN hj hy (pe_bm0 PySem.F.plainAttrs_list PySem.F.slot_list_pop PySem.F.type_list_pop mt_pop (pe_var hi hv hd hcd) hbase hline) hs hf) fun E σ H ⟨c, ad, n, env, D0, R, ⟨xs, d, hx, hij, q0⟩, S⟩ => by
    obtain ⟨vs, h1, h2, hl, r⟩ := rel_own_lst R hx
    obtain ⟨ws, w, rfl, r1, r2⟩ := repL_snoc r
    refine ⟨_, h1, .inl ⟨rfl, _, .inl (.inl h2)⟩, ad i, _, w, rfl, rfl, h2, by simp, ?_⟩
    rw [List.dropLast_concat]
    have R1 : Rel X.K c ad n σ (upd H (ad i) (.lst ws)) (env.set i (.own (.lst xs))) := R.change hx (.lst (by rw [List.length_append] at hl; omega) r1)
    have il : i < env.length := (List.getElem?_eq_some_iff.1 hx).1
    refine S.nx _ _ q0 _ _ _ (R1.set (i := j) (r2.same (cut_mono fun a o g1 g2 => ?_)))
    have na : a ≠ ad i := fun z => g1 (.inr ⟨i, ⟨_, hx⟩, z⟩)
    refine ⟨fun z => ?_, by rw [upd_ne na]; exact g2⟩
    rcases z with z | ⟨m, hm, z⟩
    · exact g1 (.inl z)
    · rcases own_set hm with ⟨e', _⟩ | ⟨_, hm⟩
      · exact na (by rw [z, e'])
      · exact g1 (.inr ⟨m, hm, z⟩)
end
end Dv

set_option Elab.async false
set_option linter.all false
set_option maxRecDepth 100000
set_option maxHeartbeats 4000000
/-! DvU: two names at once, one of them a new object of one's own -/
namespace Dv
open PySem PySem.Spec PyProof.Rows L2 Ke
section
variable {X : Cx} {Y : XI} {x y : Str} {px py pt pos : Pos} {a b : Expr} {we : WE} {wo : WO} {kt k2 i j : Nat} {pt2 : Pos}
def wParVF (i j : Nat) (we : WE) (wo : WO) : WS := fun D env n => we env n fun d n1 => wo env n1 fun o n2 => D.nx ((env.set i (.val d)).set j (.own o)) n2
theorem ds_parVF (hN : X.N.Nodup) (hi : X.N[i]? = some x) (hj : X.N[j]? = some y) (hij : i ≠ j) (hx : X.env.scope.names.lookup x = some .local) (hy : X.env.scope.names.lookup y = some .local) (ha : DE X a we) (hb : DF X b wo)
    (hs1 : starEach [a, b] X.env = (false, eval a X.env) :: starEach [b] X.env := by rfl) (hs2 : starEach [b] X.env = (false, eval b X.env) :: starEach [] X.env := by rfl)
    (hw : swappedStores [.Tuple [.Name x px, .Name y py] kt pt] (.Tuple [a, b] k2 pt2) X.env = pure (some [x, y]) := by rfl)
    (hc : X.calm = true := by rfl) (hs : swapsWithSole [.Tuple [.Name x px, .Name y py] kt pt] (.Tuple [a, b] k2 pt2) pos.line X.env = pure false := by rfl) :
    DS X Y (.Assign [.Tuple [.Name x px, .Name y py] kt pt] (.Tuple [a, b] k2 pt2) pos) (wParVF i j we wo) :=
  .of (ps_par hc hN hi hj hij hx hy (pa_cons ha.pe (pa_cons hb.pe pa_nil hs2) hs1) hw hs) fun E σ H ⟨c, ad, n, env, D0, R, q0, S⟩ => ⟨c, ad, n, env, _, R, q0, fun d n1 q1 v H1 e1 r1 => ⟨c, ad, n1, env, _, R.step e1, q1, fun o n2 q2 p u H2 hp e2 hu ro => by
    have R1 := (R.step e1).set (i := i) r1
    refine ⟨v, .ref p, rfl, S.nx _ _ q2 _ _ _ (R1.setOwn (i := j) hp e2 hu (ro.same (cut_mono fun a o h1 h2 => ⟨fun z => h1 (z.imp (oa_less (fun o z => by cases z)) id), h2⟩)))⟩⟩⟩
def wParFV (i j : Nat) (wo : WO) (we : WE) : WS := fun D env n => wo env n fun o n1 => we env n1 fun d n2 => d.flat = true ∧ D.nx ((env.set i (.own o)).set j (.val d)) n2
theorem ds_parFV (hN : X.N.Nodup) (hi : X.N[i]? = some x) (hj : X.N[j]? = some y) (hij : i ≠ j) (hx : X.env.scope.names.lookup x = some .local) (hy : X.env.scope.names.lookup y = some .local) (ha : DF X a wo) (hb : DE X b we)
    (hs1 : starEach [a, b] X.env = (false, eval a X.env) :: starEach [b] X.env := by rfl) (hs2 : starEach [b] X.env = (false, eval b X.env) :: starEach [] X.env := by rfl)
    (hw : swappedStores [.Tuple [.Name x px, .Name y py] kt pt] (.Tuple [a, b] k2 pt2) X.env = pure (some [x, y]) := by rfl)
    (hc : X.calm = true := by rfl) (hs : swapsWithSole [.Tuple [.Name x px, .Name y py] kt pt] (.Tuple [a, b] k2 pt2) pos.line X.env = pure false := by rfl) :
    DS X Y (.Assign [.Tuple [.Name x px, .Name y py] kt pt] (.Tuple [a, b] k2 pt2) pos) (wParFV i j wo we) :=
  .of (ps_par hc hN hi hj hij hx hy (pa_cons ha.pe (pa_cons hb.pe pa_nil hs2) hs1) hw hs) fun E σ H ⟨c, ad, n, env, D0, R, q0, S⟩ => ⟨c, ad, n, env, _, R, q0, fun o n1 q1 p u H1 hp e1 hu ro => ⟨c, ad, n1, env, _, R.step e1, q1, fun d n2 ⟨hf, q2⟩ v H2 e2 r2 => by
    have nb : ¬ c.isBag p := fun ⟨l, eb⟩ => by
      obtain ⟨⟨ns, q, r', m, kk, g1, _⟩, _⟩ := R.bag _ _ eb
      rw [hp] at g1; cases g1
    have hu2 : H2 p = some u := e2.keep p u hu nb
    have ro2 : RepO X.K c.bg (cut (fun a => Oa c ad env a ∨ a = p) H2) p u o := ro.same (e2.cut fun z hz => .inl (R.oaB z hz))
    refine ⟨.ref p, v, rfl, S.nx _ _ q2 _ _ _ ((R.setOwn (i := i) hp (e1.trans e2) hu2 ro2).set (i := j) (r2.flat hf _))⟩⟩⟩
end
end Dv

set_option Elab.async false
set_option linter.all false
set_option maxRecDepth 100000
set_option maxHeartbeats 4000000
/-! DvV: a written dict of text keys: d.get(k, x), d[k], k in d, d.items() -/
namespace Dv
open PySem PySem.Spec PyProof.Rows L2 Ke
def EntsD (K : PySem.W.Frag) : List DictEntry → List (Str × D) → Prop
  | [], [] => True
  | e :: es, p :: ps => ((∃ t, e.key = .str p.1 t) ∧ ∃ v : V, RelV v e.val ∧ ∀ bg H, Rep K bg H v p.2) ∧ EntsD K es ps
  | _, _ => False
structure KD (K : PySem.W.Frag) (w : World) (a : Addr) (kvs : List (Str × D)) : Prop where
  ex : ∃ es n, K.lookup a = some ⟨.type "dict", none, .dict es n, #[]⟩ ∧ PySem.W.KeysLit w.params es.toList ∧ EntsD K es.toList kvs
  low : (a == sysModules) = false
  nd : (kvs.map (·.1)).Nodup
  good : ∀ p ∈ kvs, GoodS p.1
theorem entsD_find {K : PySem.W.Frag} {z : Str} : ∀ {es : List DictEntry} {kvs : List (Str × D)}, EntsD K es kvs →
    match kvs.lookup z with
    | some d => ∃ e v, es.find? (fun e => e.key.isStr z) = some e ∧ RelV v e.val ∧ ∀ bg H, Rep K bg H v d
    | none => es.find? (fun e => e.key.isStr z) = none ∧ es.any (·.refKey) = false
  | [], [], _ => ⟨rfl, rfl⟩
  | e :: es, p :: ps, ⟨⟨⟨t, hk⟩, v, rv, rd⟩, h⟩ => by
    have ih := entsD_find (z := z) h
    have ek : e.key.isStr z = (p.1 == z) := by rw [hk] <;> rfl
    obtain ⟨k, d⟩ := p
    rw [List.lookup_cons]
    by_cases hz : k = z
    · subst hz
      have : (k == k) = true := by simp
      rw [this]
      refine ⟨e, v, ?_, rv, rd⟩
      rw [List.find?_cons_of_pos (by rw [ek]; exact this)]
    · have h1 : (z == k) = false := beq_eq_false_iff_ne.2 fun e => hz e.symm
      have h2 : ¬ (k == z) = true := by rw [beq_iff_eq]; exact hz
      rw [h1]
      have hf : (e :: es).find? (fun e => e.key.isStr z) = es.find? (fun e => e.key.isStr z) := List.find?_cons_of_neg (by rw [ek]; exact h2)
      have hr : e.refKey = false := by unfold DictEntry.refKey; rw [hk] <;> rfl
      show match ps.lookup z with
        | some d => _
        | none => _
      cases hl : ps.lookup z with
      | some d =>
        rw [hl] at ih
        obtain ⟨e2, v2, h3, h4, h5⟩ := ih
        exact ⟨e2, v2, by rw [hf]; exact h3, h4, h5⟩
      | none =>
        rw [hl] at ih
        exact ⟨by rw [hf]; exact ih.1, by rw [List.any_cons, hr, ih.2]; rfl⟩
theorem KD.ns {K : PySem.W.Frag} {w : World} {a : Addr} {kvs : List (Str × D)} (T : KD K w a kvs) (z : Str) :
    match kvs.lookup z with
    | some d => ∃ u v, PySem.W.nsIn K a z = some (some u) ∧ RelV v u ∧ ∀ bg H, Rep K bg H v d
    | none => PySem.W.nsIn K a z = some none := by
  obtain ⟨es, n, hl, _, he⟩ := T.ex
  have h := entsD_find (z := z) he
  have q : PySem.W.nsIn K a z = (match es.toList.find? (·.key.isStr z) with
      | some e => some (some e.val)
      | none => if es.toList.any (·.refKey) then none else some none) := by
    unfold PySem.W.nsIn
    rw [hl] <;> rfl
  cases hz : kvs.lookup z with
  | some d =>
    rw [hz] at h
    obtain ⟨e, v, h1, h2, h3⟩ := h
    exact ⟨e.val, v, by rw [q, h1] <;> rfl, h2, h3⟩
  | none =>
    rw [hz] at h
    rw [q, h.1]
    simp only [h.2]
    rfl
section
variable {X : Cx} {Y : XI} {a : Addr} {kvs : List (Str × D)} {x : Str} {p pos apos : Pos} {e f : Expr} {we wf : WE}
/-- d.get(k, x) -/
def tGetK (K : PySem.W.Frag) (kvs : List (Str × D)) (ty tx : TE) : TE := fun σ H Q => ty σ H fun y H2 => tx σ H2 fun z H3 => ∃ k, y = .str k ∧ (∀ d v, kvs.lookup k = some d → (∀ bg H, Rep K bg H v d) → Q v H3) ∧ (kvs.lookup k = none → Q z H3)
theorem pe_getK {ty tx : TE} (T : KD X.K X.w a kvs) (hm : X.mg x = some (.ref a)) (he : PE X e ty) (hf : PE X f tx) (hg : Gl X x) (hd : (x == ("__debug__" : Str)) = false)
    (m : M2 X (.Name x p) "get" apos e f pos) : PE X (.Call (.Attribute (.Name x p) "get" apos) [e, f] [] pos) (tGetK X.K kvs ty tx) := by
  have hn : PE X (.Name x p) (tC (.ref a)) := pe_glob hg hm (v := .ref a) rfl hd
  refine ⟨fun pins s σ H Q I h => ?_⟩
  refine wpAny_Call_method m.base m.few m.line PySem.F.plainAttrs_dict PySem.F.slot_dict_get PySem.F.type_dict_get (thn (hn.run pins s σ H (fun v H1 => v = .ref a ∧ H1 = H) I ⟨rfl, rfl⟩) fun u s1 hh => ?_)
  obtain ⟨y, H1, I1, ry, ey, eH⟩ := hh
  subst ey eH
  obtain rfl : u = Value.ref a := ry
  obtain ⟨es, n, hl, hk, hes⟩ := T.ex
  have mo := fun {s : Shared} {σ : L2.St} {H : Hp} {pins : List (Addr × Obj)} (I : Inv X pins σ H s) => PySem.W.mapOf_K (prog := X.prog) (w := X.w) I.kIn hl hk
  refine ⟨(mo I1).typeIs, fun b q => ?_, ?_⟩
  · cases q
    exact ⟨_, I1.kIn _ _ hl, rfl⟩
  rw [m.trees]
  refine Calls.callWith_builtin rfl (Calls.evalArgs_plain (Calls.spliced_cons (thn (he.run pins s1 σ _ _ I1 h) fun iv s2 ⟨y, H2, I2, ry, q2⟩ =>
    Calls.spliced_cons (thn (hf.run pins s2 σ H2 _ I2 q2) fun fv s3 ⟨z, H3, I3, rz, k, ey, q3, q4⟩ => Calls.spliced_nil ?_))))
  subst ey
  obtain ⟨t, rfl⟩ := ry
  refine call_meetsIn PySem.F.slot_dict_get (mo I3).typeIs PySem.F.entry_dict_get (PySem.F.args_dict_get_3 _ _ _) (meets_dict_get_default (PySem.strKind X.prog X.w) a (PySem.strKind_is X.prog X.w k t) T.low fv) ⟨_, mo I3, ?_⟩
  have hns := T.ns k
  cases hz : kvs.lookup k with
  | some d =>
    rw [hz] at hns
    obtain ⟨u, v, h1, h2, h3⟩ := hns
    have e1 := PySem.W.find_K hl h1
    rw [e1]
    exact ⟨v, H3, I3.tok _, h2, q3 d v hz h3⟩
  | none =>
    rw [hz] at hns
    have e1 := PySem.W.find_K hl hns
    rw [e1]
    exact ⟨z, H3, I3.tok _, rz, q4 hz⟩
def wGetK (kvs : List (Str × D)) (we wf : WE) : WE := fun env n Q => we env n fun d n1 => wf env n1 fun d2 n2 => ∃ z, d = .str z ∧ Q ((kvs.lookup z).getD d2) n2
theorem de_getK (T : KD X.K X.w a kvs) (hm : X.mg x = some (.ref a)) (he : DE X e we) (hf : DE X f wf) (hg : Gl X x := by rfl) (hd : (x == ("__debug__" : Str)) = false := by decide)
    (m : M2 X (.Name x p) "get" apos e f pos := by exact ⟨rfl, rfl, rfl, rfl⟩) : DE X (.Call (.Attribute (.Name x p) "get" apos) [e, f] [] pos) (wGetK kvs we wf) :=
  .of (pe_getK T hm he.pe hf.pe hg hd m) fun σ H Q ⟨c, ad, n, env, Q0, R, q0, q⟩ => ⟨c, ad, n, env, _, R, q0, fun d n1 q1 v H1 e1 r1 => ⟨c, ad, n1, env, _, R.step e1, q1, fun d2 n2 ⟨z, ed, q2⟩ v2 H2 e2 r2 => by
    subst ed
    cases r1 with
    | str hs =>
      refine ⟨z, rfl, fun d v hz hr => q _ _ (by rw [hz] at q2; exact q2) _ _ (e1.trans e2) (hr _ _), fun hz => q _ _ (by rw [hz] at q2; exact q2) _ _ (e1.trans e2) r2⟩⟩⟩
/-- d[k], k there -/
def rIxK (kvs : List (Str × D)) (we : WE) : WE := fun env n Q => we env n fun d n1 => ∃ z r, d = .str z ∧ kvs.lookup z = some r ∧ Q r n1
theorem de_ixK (T : KD X.K X.w a kvs) (hm : X.mg x = some (.ref a)) (he : DE X e we) (hs : PlainIx e) (hg : Gl X x := by rfl) (hd : (x == ("__debug__" : Str)) = false := by decide) : DE X (.Subscript (.Name x p) e pos) (rIxK kvs we) := by
  have hn : PE X (.Name x p) (tC (.ref a)) := pe_glob hg hm (v := .ref a) rfl hd
  obtain ⟨es, n0, hl, hk, hes⟩ := T.ex
  refine .of (pe_ix ix_kdict hn he.pe hs) fun σ H Q ⟨c, ad, n, env, Q0, R, q0, q⟩ => ?_
  refine ⟨c, ad, n, env, _, R, q0, fun d n1 ⟨z, r, ed, hz, q1⟩ v H1 e1 r1 => ?_⟩
  subst ed
  cases r1 with
  | str hs =>
    have hns := T.ns z
    rw [hz] at hns
    obtain ⟨u, v, h1, h2, h3⟩ := hns
    exact ⟨a, z, v, rfl, rfl, ⟨es, n0, u, hl, hk, h1, h2⟩, q _ _ q1 _ _ e1 (h3 _ _)⟩
end
/-! ### k, v in d.items() -/
section
theorem KD.at {P : Program} {K : PySem.W.Frag} {w : World} {a : Addr} {kvs : List (Str × D)} (T : KD K w a kvs) : ∃ (n : Nat) (vs : List (Str × Value)), vs.length = kvs.length ∧ (∀ (i : Nat) (k : Str) (d : D), kvs[i]? = some (k, d) → ∃ u v, vs[i]? = some (k, u) ∧ RelV v u ∧ ∀ bg H, Rep K bg H v d) ∧
    ∀ h : Heap, K.In h → h.DictAt (PySem.strKind P w) a vs n := by
  obtain ⟨es, n, hl, hk, he⟩ := T.ex
  have key : ∀ (l : List DictEntry) (ps : List (Str × D)), EntsD K l ps → ∃ vs : List (Str × Value), vs.map (·.1) = ps.map (·.1) ∧ PySem.Pairs (PySem.strKind P w) l vs ∧
      ∀ (i : Nat) (k : Str) (d : D), ps[i]? = some (k, d) → ∃ u v, vs[i]? = some (k, u) ∧ RelV v u ∧ ∀ bg H, Rep K bg H v d := by
    intro l
    induction l with
    | nil =>
      intro ps h
      cases ps with
      | nil => exact ⟨[], rfl, .nil, fun i k d z => by simp at z⟩
      | cons p ps => exact h.elim
    | cons e l ih =>
      intro ps h
      cases ps with
      | nil => exact h.elim
      | cons p ps =>
        obtain ⟨⟨⟨t, hk⟩, v, rv, rd⟩, h⟩ := h
        obtain ⟨vs, h1, h2, h3⟩ := ih ps h
        refine ⟨(p.1, e.val) :: vs, by rw [List.map_cons, List.map_cons, h1], .cons (by rw [hk]; exact PySem.strKind_is P w p.1 t) rfl h2, fun i k d z => ?_⟩
        cases i with
        | zero =>
          simp at z
          subst z
          exact ⟨_, v, rfl, rv, rd⟩
        | succ i => exact h3 i k d (by simpa using z)
  obtain ⟨vs, h1, h2, h3⟩ := key _ _ he
  have hlen : vs.length = kvs.length := by
    have := congrArg List.length h1
    rwa [List.length_map, List.length_map] at this
  refine ⟨n, vs, hlen, h3, fun h X => ⟨_, es, X _ _ hl, ⟨rfl, rfl, rfl⟩, rfl, fun e he => ?_, h2, by rw [h1]; exact T.nd⟩⟩
  obtain ⟨x, t, g1, g2⟩ := hk.all e (Array.mem_toList_iff.mpr he)
  exact ⟨x, by rw [g1]; exact PySem.strKind_is P w x t, g2⟩
/-- the pairs, each a tuple of its own -/
def ItiK (K : PySem.W.Frag) (kvs : List (Str × D)) : It :=
  ⟨fun i _ => i < kvs.length, fun i H x H' => ∃ T k d v, kvs[i]? = some (k, d) ∧ x = .ref T ∧ H T = none ∧ H' = upd H T (.tup [.str k, v]) ∧ ∀ bg H, Rep K bg H v d, fun i _ => kvs.length ≤ i⟩
theorem turn_itemsK {P : Program} {w : World} {K : PySem.W.Frag} {a : Addr} {kvs : List (Str × D)} {elts : List Expr} {kk n : Nat} {tpos : Pos} {vs : List (Str × Value)} (it : Addr) (hl : vs.length = kvs.length)
    (hv : ∀ (i : Nat) (k : Str) (d : D), kvs[i]? = some (k, d) → ∃ u v, vs[i]? = some (k, u) ∧ RelV v u ∧ ∀ bg H, Rep K bg H v d) (hd : ∀ h : Heap, K.In h → h.DictAt (PySem.strKind P w) a vs n) :
    Turn P w K (.Tuple elts kk tpos) (ItiK K kvs) [it] it (fun i h => ∃ ok ov, IsItemIter h it a i vs.length n ok ov) where
  mem := List.mem_singleton.2 rfl
  obj := fun i h ⟨ok, ov, g⟩ b hb => by
    obtain rfl := List.mem_singleton.1 hb
    exact ⟨_, g, fun v z => nomatch z⟩
  keep := fun i h h' ⟨ok, ov, g⟩ k => ⟨ok, ov, k it (List.mem_singleton.2 rfl) _ g⟩
  item := by
    intro X hP hw hK hc i pins s σ H E I hf st hi
    subst hP hw hK
    have hm := hd _ I.kIn
    obtain ⟨⟨k, d⟩, hkd⟩ : ∃ p, kvs[i]? = some p := ⟨kvs[i]'hi, List.getElem?_eq_getElem hi⟩
    obtain ⟨u, v, hu, ru, rd⟩ := hv i k d hkd
    obtain ⟨ok, ov, he⟩ := st
    have hlt : it < s.heap.objs.size := Heap.lt_size he
    refine wpAny_pyNext_items_item he hm hu fun key h1 hkey ho hT hz hk1 => ?_
    refine ⟨_, rfl, wpAny_letOwnedTupleGo_items (s := { s with heap := h1 }) ho fun h2 he2 sb => ?_⟩
    have hT2 := (sb.2 _ (Nat.ne_of_gt hlt)).trans hT
    have rk : RelV (.str k) key := by
      obtain ⟨t, rfl⟩ := Value.isStrOf_shape (x := k) (v := key) hkey
      exact ⟨t, rfl⟩
    have new : ObjOk X.prog X.w (upd H s.heap.objs.size (.tup [.str k, v])) h2 s.heap.objs.size (.tup [.str k, v]) :=
      ⟨(by show 2 ≤ sizeLine; decide), [key, u], .cons rk (.cons ru .nil), ⟨_, hT2, rfl, _, rfl⟩⟩
    have I1 : Inv X pins σ (upd H s.heap.objs.size (.tup [.str k, v])) { s with heap := h2 } :=
      I.turnedNew (t' := s.toks) (ch := [it]) (fun b ob hb e => by
        have hb' : b ≠ it := fun z => hb (List.mem_singleton.2 z)
        exact (sb.2 b hb').trans (hk1 b ob hb' e)) hf (Nat.le_refl _) new
    refine ⟨.ref s.heap.objs.size, _, I1, rfl, ⟨_, k, d, v, hkd, rfl, I.hok.fresh (Nat.le_refl _), rfl, rd⟩, ⟨key, u, he2⟩, fun b hb => ?_⟩
    obtain rfl := List.mem_singleton.1 hb
    rw [upd_ne (Nat.ne_of_lt hlt)]
    exact (hf _ (List.mem_singleton.2 rfl)).1
  done := by
    intro X hP hw hK hc i pins s σ H E I hf st hg
    subst hP hw hK
    have hg' : kvs.length ≤ i := hg
    have hm := hd _ I.kIn
    obtain ⟨f0, f1, f2, f3, f4, f5⟩ := hf it (List.mem_singleton.2 rfl)
    obtain ⟨ok, ov, he⟩ := st
    exact wpAny_pyNext_items_end (I.ok.hd hc) he hm (List.getElem?_eq_none (by omega)) fun h1 eb => ⟨rfl, I.turned (t' := s.toks) (fun b ob hb e => eb b ob hb e) f0 f1 f3 f4 f5⟩
  self := fun A i s Q E ⟨_, _, g⟩ h => PySem.W.kcp_self g h
variable {X : Cx} {a : Addr} {kvs : List (Str × D)} {x : Str} {p tpos apos cpos : Pos}
theorem pi_itemsK {elts : List Expr} {kk : Nat} (T : KD X.K X.w a kvs) (hm : X.mg x = some (.ref a)) (hg : Gl X x) (hd : (x == ("__debug__" : Str)) = false)
    (hbase : attributeBase (.Name x p) "items" X.env (eval (.Name x p) X.env) = eval (.Name x p) X.env) (hline : (apos.endLine == cpos.line) = true) :
    PI X (.Tuple elts kk tpos) (.Call (.Attribute (.Name x p) "items" apos) [] [] cpos) (fun _ H R => R (ItiK X.K kvs) H) := by
  have hn : PE X (.Name x p) (tC (.ref a)) := pe_glob hg hm (v := .ref a) rfl hd
  refine ⟨fun pins s σ H R I h => ?_⟩
  refine wpAny_Call_method (T := "dict") (id := "dict.items") hbase rfl hline F.plainAttrs_dict F.slot_dict_items F.type_dict_items (thn (hn.run pins s σ H (fun v H1 => v = .ref a ∧ H1 = H) I ⟨rfl, rfl⟩) fun u s1 hh => ?_)
  obtain ⟨y, H1, I1, ry, ey, eH⟩ := hh
  subst ey eH
  obtain rfl : u = Value.ref a := ry
  obtain ⟨n, vs, hl, hv, hda⟩ := T.at (P := X.prog)
  have hmm := hda _ I1.kIn
  refine ⟨hmm.dictOf.typeIs, hmm.dictOf.mapOf.noDict, ?_⟩
  have I2 : Inv X pins σ _ { s1 with heap := s1.heap.push { cls := .type "dict_items", data := .fields #[.ref a] } } := I1.kept (t' := s1.toks) fun b ob q => Heap.get?_push_of_some _ q
  have fin : wpAny (model X.prog X.w) X.A (pyIter (.ref s1.heap.objs.size)) (PIE X pins σ (.Tuple elts kk tpos) R) X.xe { s1 with heap := s1.heap.push { cls := .type "dict_items", data := .fields #[.ref a] } } :=
    wpAny_pyIter_items (d := a) (knd := PySem.strKind X.prog X.w) ⟨_, Heap.get?_push_size _ rfl, rfl, rfl⟩ (hmm.push _) (pi_one (tk := s1.toks) I2 _ (turn_itemsK _ hl hv hda) ⟨.none, .none, Heap.get?_push_size _ rfl⟩ h)
  show wpAny _ _ (callWith cpos (.builtin "dict.items") [.ref a] [] []) _ X.xe s1
  exact method_meetsIn F.slot_dict_items F.entry_dict_items rfl (PySem.evalArgs_none ⟨rfl, hmm.dictOf.typeIs, F.args_dict_items_1 _, _, meets_dict_items (PySem.strKind X.prog X.w) a T.low, ⟨vs, hmm.dictOf⟩, fin⟩)
def pairsD (kvs : List (Str × D)) : List D := kvs.map fun p => .tup [.str p.1, p.2]
theorem di_itemsK {elts : List Expr} {kk : Nat} (T : KD X.K X.w a kvs) (hm : X.mg x = some (.ref a)) (hg : Gl X x := by rfl) (hd : (x == ("__debug__" : Str)) = false := by decide)
    (hbase : attributeBase (.Name x p) "items" X.env (eval (.Name x p) X.env) = eval (.Name x p) X.env := by rfl) (hline : (apos.endLine == cpos.line) = true := by rfl) :
    DI X (.Tuple elts kk tpos) (.Call (.Attribute (.Name x p) "items" apos) [] [] cpos) (fun env n Q => Q (pairsD kvs) n) :=
  .of (pi_itemsK T hm hg hd hbase hline) fun σ H R ⟨c, ad, n, env, Y0, RL, q0, q⟩ => q _ _ q0 H _ (.refl RL.bag) (by
    have hl : (pairsD kvs).length = kvs.length := by unfold pairsD; rw [List.length_map]
    refine ⟨fun H2 sm => ?_, fun i H2 sm hi => ?_, fun i H2 x H3 hi sm hy => ?_⟩
    · show kvs.length ≤ (pairsD kvs).length
      omega
    · show i < kvs.length
      omega
    · obtain ⟨T', k, d, v, h1, rfl, h2, rfl, h3⟩ := hy
      have sm2 : Same H2 (upd H2 T' (.tup [.str k, v])) := fun b o e => by
        by_cases z : b = T'
        · subst z; rw [h2] at e; cases e
        · rw [upd_ne z]; exact e
      refine ⟨.tup [.str k, d], by unfold pairsD; rw [List.getElem?_map, h1]; rfl, sm2, fun O2 hO _ => ?_⟩
      have nT : ¬ O2 T' := fun z => hO T' z h2
      exact .tup (.inl (.inl (by rw [cut_out nT]; exact upd_same))) (by show 2 ≤ sizeLine; decide) (.cons (.str (T.good (k, d) (List.mem_of_getElem? h1))) (.cons (h3 _ _) .nil)))
end
end Dv

set_option Elab.async false
set_option linter.all false
set_option maxRecDepth 100000
set_option maxHeartbeats 4000000
/-! DvW: texts: split at one sign, find, numbers as texts and back, f-strings -/
namespace Dv
open PySem PySem.Spec PyProof.Rows L2 Ke SX
/-- cut at one sign -/
def cutAt (c : Nat) : List Nat → List (List Nat)
  | [] => [[]]
  | d :: r => if d = c then [] :: cutAt c r else match cutAt c r with
    | [] => [[d]]
    | p :: ps => (d :: p) :: ps
theorem cutAt_ne (c : Nat) : ∀ l : List Nat, cutAt c l ≠ []
  | [] => by simp [cutAt]
  | d :: r => by
    unfold cutAt
    split
    · simp
    · split <;> simp
theorem spl_cut (c : Nat) : ∀ (l acc : List Nat), TL.spl [c] 0 acc l = match cutAt c l with
    | [] => [acc]
    | p :: ps => (acc ++ p) :: ps
  | [], acc => by rw [TL.spl_nil]; simp [cutAt]
  | d :: r, acc => by
    have hp : TL.pre [c] (d :: r) = decide (d = c) := by
      unfold TL.pre
      by_cases z : d = c <;> simp [z]
    by_cases h : d = c
    · rw [TL.spl_hit (by rw [hp]; exact decide_eq_true h)]
      have ih := spl_cut c r []
      show acc :: TL.spl [c] 0 [] r = _
      have e : cutAt c (d :: r) = [] :: cutAt c r := by
        show (if d = c then _ else _) = _
        rw [if_pos h]
      rw [ih, e]
      cases hc : cutAt c r with
      | nil => exact absurd hc (cutAt_ne c r)
      | cons p ps => simp
    · rw [TL.spl_miss (by rw [hp]; exact decide_eq_false h), spl_cut c r (acc ++ [d])]
      have e : cutAt c (d :: r) = match cutAt c r with
        | [] => [[d]]
        | p :: ps => (d :: p) :: ps := by
        show (if d = c then _ else _) = _
        rw [if_neg h]
      rw [e]
      cases hc : cutAt c r with
      | nil => exact absurd hc (cutAt_ne c r)
      | cons p ps => simp
theorem split_cut {a : List Nat} {c : Nat} (h : c < 256) : Txt.split (S a) (S [c]) = (cutAt c a).map S := by
  rw [split_S (by simp) (by simp [h]), spl_cut]
  cases hc : cutAt c a with
  | nil => exact absurd hc (cutAt_ne c a)
  | cons p ps => simp
theorem cutAt_mem {c : Nat} : ∀ {l : List Nat} {p : List Nat} {x : Nat}, p ∈ cutAt c l → x ∈ p → x ∈ l ∧ x ≠ c
  | [], p, x, hp, hx => by
    simp [cutAt] at hp
    subst hp
    simp at hx
  | d :: r, p, x, hp, hx => by
    unfold cutAt at hp
    split at hp
    · rcases List.mem_cons.1 hp with e | hp
      · subst e; simp at hx
      · have := cutAt_mem hp hx
        exact ⟨List.mem_cons_of_mem _ this.1, this.2⟩
    · rename_i hd
      split at hp
      · rename_i hc
        exact absurd hc (cutAt_ne c r)
      · rename_i q qs hc
        rcases List.mem_cons.1 hp with e | hp
        · subst e
          rcases List.mem_cons.1 hx with e | hx
          · subst e; exact ⟨List.mem_cons_self, hd⟩
          · have := cutAt_mem (l := r) (p := q) (by rw [hc]; exact List.mem_cons_self) hx
            exact ⟨List.mem_cons_of_mem _ this.1, this.2⟩
        · have := cutAt_mem (l := r) (p := p) (by rw [hc]; exact List.mem_cons_of_mem _ hp) hx
          exact ⟨List.mem_cons_of_mem _ this.1, this.2⟩
theorem cutAt_len {c : Nat} : ∀ {l : List Nat} {p : List Nat}, p ∈ cutAt c l → p.length ≤ l.length
  | [], p, hp => by
    simp [cutAt] at hp
    subst hp
    exact Nat.le_refl _
  | d :: r, p, hp => by
    unfold cutAt at hp
    split at hp
    · rcases List.mem_cons.1 hp with e | hp
      · subst e; exact Nat.zero_le _
      · have := cutAt_len hp
        rw [List.length_cons]; omega
    · split at hp
      · rename_i hc
        exact absurd hc (cutAt_ne c r)
      · rename_i q qs hc
        rcases List.mem_cons.1 hp with e | hp
        · subst e
          have := cutAt_len (l := r) (p := q) (by rw [hc]; exact List.mem_cons_self)
          rw [List.length_cons, List.length_cons]; omega
        · have := cutAt_len (l := r) (p := p) (by rw [hc]; exact List.mem_cons_of_mem _ hp)
          rw [List.length_cons]; omega
theorem cutAt_many {c : Nat} : ∀ l : List Nat, (cutAt c l).length ≤ l.length + 1
  | [] => by simp [cutAt]
  | d :: r => by
    have := cutAt_many (c := c) r
    unfold cutAt
    split
    · rw [List.length_cons, List.length_cons]; omega
    · split
      · rw [List.length_cons, List.length_cons, List.length_nil]; omega
      · rename_i q qs hc
        rw [hc, List.length_cons] at this
        rw [List.length_cons, List.length_cons]
        omega
theorem good_S {l : List Nat} : GoodS (S l) ↔ l.length ≤ sizeLine ∧ ∀ c ∈ l, c < 0x110000 := ⟨fun h => ⟨by have := h.len; rwa [S_len] at this, good_iff.1 h.ok⟩, fun h => ⟨by rw [S_len]; exact h.1, good_iff.2 h.2⟩⟩
theorem cut_good {c : Nat} {l p : List Nat} (h : GoodS (S l)) (hp : p ∈ cutAt c l) : GoodS (S p) := by
  rw [good_S] at h ⊢
  exact ⟨Nat.le_trans (cutAt_len hp) h.1, fun x hx => h.2 x (cutAt_mem hp hx).1⟩
theorem repL_strsS {K : PySem.W.Frag} {bg : Option (Addr × Addr)} {H : Hp} : ∀ {ps : List (List Nat)}, (∀ p ∈ ps, GoodS (S p)) → RepL K bg H ((ps.map S).map V.str) (ps.map fun p => .str (S p))
  | [], _ => .nil
  | p :: ps, h => .cons (.str (h p List.mem_cons_self)) (repL_strsS fun q hq => h q (List.mem_cons_of_mem _ hq))
section
variable {X : Cx}
/-- x.split(y), y one sign -/
def rSplitD : RR := fun x y Q => ∃ a c, x = .str (S a) ∧ y = .str (S [c]) ∧ c < 256 ∧ a.length + 2 ≤ sizeLine ∧ Q (.lst ((cutAt c a).map fun p => .str (S p)))
theorem md_split : MtD1 X "str.split" rSplitD := by
  refine ⟨⟨_, mt_split, ?_⟩⟩
  rintro bg O H v1 v2 d1 d2 Q0 Q hO s1 s2 ⟨a, c, rfl, rfl, hc, hz, h⟩ q
  have ga := s1.str'.2
  cases s1.str'.1; cases s2.str'.1
  refine ⟨_, _, rfl, rfl, by rw [S_len]; rfl, by rw [S_len]; exact hz, ?_⟩
  rw [split_cut hc]
  intro p hp
  have hl : (((cutAt c a).map S).map V.str).length ≤ sizeLine := by
    rw [List.length_map, List.length_map]
    have := cutAt_many (c := c) a
    omega
  obtain ⟨sm, rp⟩ := rep_new hO hp hl (repL_strsS (K := X.K) (bg := bg) (H := cut O H) fun p hp => cut_good ga hp)
  exact q _ h _ _ sm rp
theorem de_split {o e : Expr} {wa wb : WE} {apos pos : Pos} (ho : DB X o wa) (he : DB X e wb)
    (hs : starEach [e] X.env = [(false, eval e X.env)] := by rfl) (hbase : attributeBase o "split" X.env (eval o X.env) = eval o X.env := by rfl) (hline : (apos.endLine == pos.line) = true := by rfl) : DE X (.Call (.Attribute o "split" apos) [e] [] pos) (wMt1 rSplitD wa wb) :=
  de_m1 PySem.F.slot_str_split PySem.F.type_str_split md_split ho he hs hbase hline
/-- .. owned -/
def wSplit (wa wb : WE) : WO := fun env n Q => wa env n fun d1 n1 => d1.isStr = true ∧ wb env n1 fun d2 n2 => ∃ a c, d1 = .str (S a) ∧ d2 = .str (S [c]) ∧ c < 256 ∧ a.length + 2 ≤ sizeLine ∧ Q (.lst ((cutAt c a).map fun p => .str (S p))) n2
theorem df_split {o e : Expr} {wa wb : WE} {apos pos : Pos} (ho : DB X o wa) (he : DB X e wb)
    (hs : starEach [e] X.env = [(false, eval e X.env)] := by rfl) (hbase : attributeBase o "split" X.env (eval o X.env) = eval o X.env := by rfl) (hline : (apos.endLine == pos.line) = true := by rfl) : DF X (.Call (.Attribute o "split" apos) [e] [] pos) (wSplit wa wb) :=
  ⟨peImp (pe_m1 PySem.F.slot_str_split PySem.F.type_str_split mt_split ho.pe he.pe hs hbase hline) fun σ H Q ⟨c, ad, n, env, Q0, R, q0, q⟩ => ⟨c, ad, n, env, _, R, q0, fun d1 n1 ⟨hstr, q1⟩ v1 H1 e1 s1 => ⟨s1.isStr hstr, ⟨c, ad, n1, env, _, R.step e1, q1, fun d2 n2 ⟨a, k, ea, ek, hk, hz, q2⟩ v2 H2 e2 s2 => by
    subst ea ek
    have s1' := s1.step e2 R.oaB
    have ga := s1'.str'.2
    cases s1'.str'.1; cases s2.str'.1
    refine ⟨_, _, rfl, rfl, by rw [S_len]; rfl, by rw [S_len]; exact hz, ?_⟩
    rw [split_cut hk]
    intro p hp
    have hl : (((cutAt k a).map S).map V.str).length ≤ sizeLine := by
      rw [List.length_map, List.length_map]
      have := cutAt_many (c := k) a
      omega
    have R2 := (R.step e1).step e2
    have h1 : H p = none := by
      cases g : H p with
      | none => rfl
      | some o =>
        by_cases nb : c.isBag p
        · obtain ⟨l, eb⟩ := nb
          obtain ⟨⟨ns, q', r', m, kk, g1, _⟩, _⟩ := R2.bag _ _ eb
          rw [hp] at g1; cases g1
        · have := (e1.trans e2).keep p o g nb
          rw [hp] at this; cases this
    have e3 : EStp c H2 (upd H2 p (.lst (((cutAt k a).map S).map V.str))) n2 := .new e2.bag hp
    exact q _ _ q2 p _ _ h1 ((e1.trans e2).trans e3) upd_same (.lst hl (repL_strsS fun x hx => cut_good ga hx))⟩⟩⟩⟩
/-- x.find(y) -/
def rFindD : RR := fun x y Q => ∃ a b, x = .str a ∧ y = .str b ∧ Q (.int (Txt.find a b))
theorem md_find : MtD1 X "str.find" rFindD := by
  refine ⟨⟨_, mt_find, ?_⟩⟩
  rintro bg O H v1 v2 d1 d2 Q0 Q hO s1 s2 ⟨a, b, rfl, rfl, h⟩ q
  cases s1.str'.1; cases s2.str'.1
  exact ⟨a, b, rfl, rfl, q _ h _ _ (.refl _) (.int _)⟩
theorem de_find {o e : Expr} {wa wb : WE} {apos pos : Pos} (ho : DB X o wa) (he : DB X e wb)
    (hs : starEach [e] X.env = [(false, eval e X.env)] := by rfl) (hbase : attributeBase o "find" X.env (eval o X.env) = eval o X.env := by rfl) (hline : (apos.endLine == pos.line) = true := by rfl) : DE X (.Call (.Attribute o "find" apos) [e] [] pos) (wMt1 rFindD wa wb) :=
  de_m1 PySem.F.slot_str_find PySem.F.type_str_find md_find ho he hs hbase hline
/-- int of a text, too -/
def rIntA : RC := fun ds Q => match ds with
  | [.int i] => Q (.int i)
  | [.bl k] => Q (.int (if k then 1 else 0))
  | [.str a] => ∃ i, PySem.intText? a = some i ∧ a.length ≤ 640 ∧ Q (.int i)
  | _ => False
theorem cd_intA : CallD X (.type "int") rIntA := by
  refine ⟨⟨fun xs H Q => ((∃ i, xs = [.int i] ∧ Q (.int i) H) ∨ ∃ k, xs = [.bl k] ∧ Q (.int (if k then 1 else 0)) H) ∨ ∃ a n, xs = [.str a] ∧ PySem.intText? a = some n ∧ a.length ≤ 640 ∧ Q (.int n) H,
    fun pins s σ H xs us Q I r h => h.elim (call_int1 pins s σ H xs us Q I r) (call_int_str pins s σ H xs us Q I r), ?_⟩⟩
  intro bg O H vs ds Q0 Q hO s h q
  unfold rIntA at h
  split at h
  · obtain ⟨v, rfl, s'⟩ := s.one
    cases s'.int'
    exact .inl (.inl ⟨_, rfl, q _ h _ _ (.refl _) (.int _)⟩)
  · obtain ⟨v, rfl, s'⟩ := s.one
    cases s'.bl'
    exact .inl (.inr ⟨_, rfl, q _ h _ _ (.refl _) (.int _)⟩)
  · obtain ⟨v, rfl, s'⟩ := s.one
    cases s'.str'.1
    obtain ⟨i, h1, h2, h3⟩ := h
    exact .inr ⟨_, i, rfl, h1, h2, q _ h3 _ _ (.refl _) (.int _)⟩
  · exact h.elim
/-- a whole number from 0 on, as a text -/
def numS (n : Nat) : Str := S (TL.numL n)
theorem numS_eq (n : Nat) : (toString ((n : Nat) : Int) : String) = toString ((n : Nat) : Int) ∧ (Str.ofString (toString ((n : Nat) : Int))) = numS n := ⟨rfl, num_S n⟩
theorem numS_good {n : Nat} (h : n < 10 ^ 30) : GoodS (numS n) := by
  unfold numS
  rw [good_S]
  refine ⟨Nat.le_trans (TL.numL_len (k := 30) (by decide) h) (by decide), fun c hc => ?_⟩
  have := TL.numL_digits n c hc
  omega
theorem log_lt {n : Nat} (h : n < 10 ^ 30) : ((n : Nat) : Int).natAbs.log2 < 1920 := by
  rw [Int.natAbs_natCast]
  by_cases h0 : n = 0
  · subst h0; decide
  · exact (Nat.log2_lt h0).2 (Nat.lt_of_lt_of_le h (Nat.le_trans (show 10 ^ 30 ≤ 2 ^ 100 by decide) (Nat.pow_le_pow_right (by decide) (by decide))))
def rStrA : RC := fun ds Q => match ds with
  | [.int i] => ∃ n : Nat, i = n ∧ n < 10 ^ 30 ∧ Q (.str (numS n))
  | [.str a] => Q (.str a)
  | _ => False
theorem cd_str : CallD X (.type "str") rStrA := by
  refine ⟨⟨fun xs H Q => (∃ i, xs = [.int i] ∧ i.natAbs.log2 < 1920 ∧ Q (.str (toString i)) H) ∨ ∃ a, xs = [.str a] ∧ Q (.str a) H,
    fun pins s σ H xs us Q I r h => h.elim (call_str_int pins s σ H xs us Q I r) (SkE.call_str_str pins s σ H xs us Q I r), ?_⟩⟩
  intro bg O H vs ds Q0 Q hO s h q
  unfold rStrA at h
  split at h
  · obtain ⟨v, rfl, s'⟩ := s.one
    cases s'.int'
    obtain ⟨n, rfl, hn, h⟩ := h
    refine .inl ⟨_, rfl, log_lt hn, ?_⟩
    rw [show (Str.ofString (toString ((n : Nat) : Int))) = numS n from num_S n]
    exact q _ h _ _ (.refl _) (.str (numS_good hn))
  · obtain ⟨v, rfl, s'⟩ := s.one
    obtain ⟨e, g⟩ := s'.str'
    cases e
    exact .inr ⟨_, rfl, q _ h _ _ (.refl _) (.str g)⟩
  · exact h.elim
/-- a or b, a and b: the operand itself -/
def wOrT (wa wb : WE) : WE := fun env n Q => wa env n fun d n1 => asSome d.tru fun k => if k = true then Q d n1 else wb env n1 Q
def wAndT (wa wb : WE) : WE := fun env n Q => wa env n fun d n1 => asSome d.tru fun k => if k = true then wb env n1 Q else Q d n1
section
variable {a b : Expr} {rest : List Expr} {wa wb : WE} {pos : Pos}
theorem de_orT (h : DE X a wa) (k : DE X (.BoolOp .Or (b :: rest) pos) wb) : DE X (.BoolOp .Or (a :: b :: rest) pos) (wOrT wa wb) := .of (pe_orT h.pe k.pe) fun σ H Q ⟨c, ad, n, env, Q0, R, q0, q⟩ => ⟨c, ad, n, env, _, R, q0, fun d n1 q1 v H' e r => by
  obtain ⟨k, ek, q1⟩ : ∃ k, d.tru = some k ∧ if k = true then Q0 d n1 else wb env n1 Q0 := by
    cases hd : d.tru with
    | none => rw [hd] at q1; exact q1.elim
    | some k => rw [hd] at q1; exact ⟨k, rfl, q1⟩
  refine ⟨k, (Sh.rep r).tru ek, ?_⟩
  cases k with
  | false => rw [if_neg Bool.false_ne_true] at q1 ⊢; exact ⟨c, ad, n1, env, _, R.step e, q1, fun k2 n2 q2 v2 H2 e2 r2 => q _ _ q2 _ _ (e.trans e2) r2⟩
  | true => rw [if_pos rfl] at q1 ⊢; exact q _ _ q1 _ _ e r⟩
theorem de_andT (h : DE X a wa) (k : DE X (.BoolOp .And (b :: rest) pos) wb) : DE X (.BoolOp .And (a :: b :: rest) pos) (wAndT wa wb) := .of (pe_andT h.pe k.pe) fun σ H Q ⟨c, ad, n, env, Q0, R, q0, q⟩ => ⟨c, ad, n, env, _, R, q0, fun d n1 q1 v H' e r => by
  obtain ⟨k, ek, q1⟩ : ∃ k, d.tru = some k ∧ if k = true then wb env n1 Q0 else Q0 d n1 := by
    cases hd : d.tru with
    | none => rw [hd] at q1; exact q1.elim
    | some k => rw [hd] at q1; exact ⟨k, rfl, q1⟩
  refine ⟨k, (Sh.rep r).tru ek, ?_⟩
  cases k with
  | true => rw [if_pos rfl] at q1 ⊢; exact ⟨c, ad, n1, env, _, R.step e, q1, fun k2 n2 q2 v2 H2 e2 r2 => q _ _ q2 _ _ (e.trans e2) r2⟩
  | false => rw [if_neg Bool.false_ne_true] at q1 ⊢; exact q _ _ q1 _ _ e r⟩
end
/-! ### f-strings -/
def rFmt (d : D) (Q : Str → Prop) : Prop := match d with
  | .str s => Q s
  | .int i => ∃ n : Nat, i = n ∧ n < 10 ^ 30 ∧ Q (numS n)
  | _ => False
theorem de_fmt {e : Expr} {we : WE} {pos : Pos} (h : DE X e we) : DE X (.FormattedValue e (-1) none pos) (fun env n Q => we env n fun d n1 => rFmt d fun s => Q (.str s) n1) :=
  .of (pe_fmt h.pe) fun σ H Q ⟨c, ad, n, env, Q0, R, q0, q⟩ => ⟨c, ad, n, env, _, R, q0, fun d n1 q1 v H1 e1 r1 => by
    unfold rFmt at q1
    split at q1
    · cases r1 with
      | str g => exact .inl ⟨_, rfl, g.len, q _ _ q1 _ _ e1 (.str g)⟩
    · cases r1
      obtain ⟨m, rfl, hm, q1⟩ := q1
      refine .inr ⟨_, rfl, log_lt hm, ?_⟩
      rw [show (Str.ofString (toString ((m : Nat) : Int))) = numS m from num_S m]
      exact q _ _ q1 _ _ e1 (.str (numS_good hm))
    · exact q1.elim⟩
inductive DJ (X : Cx) : List Expr → List WE → Prop where
  | nil : DJ X [] []
  | cons {e : Expr} {w : WE} {es : List Expr} {ws : List WE} (h : DE X e w) (r : DJ X es ws) : DJ X (e :: es) (w :: ws)
def wJs : List WE → Str → En → Nat → (Str → Nat → Prop) → Prop
  | [], acc, _, n, Q => Q acc n
  | w :: ws, acc, env, n, Q => w env n fun d n1 => ∃ y, d = .str y ∧ (acc ++ y).length ≤ sizeLine ∧ wJs ws (acc ++ y) env n1 Q
theorem DJ.pj {es : List Expr} {ws : List WE} (h : DJ X es ws) : PJ X es (ws.map (lE X.K)) := by
  induction h with
  | nil => exact .nil
  | cons h r ih => exact .cons h.pe ih
theorem js_to {σ : L2.St} {c : Ctx} {ad : Nat → Addr} {env : En} {Q0 : Str → Nat → Prop} {Q : Str → Hp → Prop} : ∀ {ws : List WE} {acc : Str} {n : Nat} {H : Hp}, GoodS acc → Rel X.K c ad n σ H env → wJs ws acc env n Q0 →
    (∀ s n' H', Q0 s n' → GoodS s → EStp c H H' n' → Q s H') → tJs (ws.map (lE X.K)) acc σ H Q
  | [], acc, n, H, g, R, q0, q => q acc n H q0 g (.refl R.bag)
  | w :: ws, acc, n, H, g, R, q0, q => ⟨c, ad, n, env, _, R, q0, fun d n1 ⟨y, ed, hz, q1⟩ v H1 e1 r1 => by
    subst ed
    cases r1 with
    | str gy =>
      have g2 : GoodS (acc ++ y) := by
        refine ⟨hz, good_iff.2 fun x hx => ?_⟩
        have e2 : (acc ++ y).cps.toList = acc.cps.toList ++ y.cps.toList := TL.tl_append acc y
        rw [e2, List.mem_append] at hx
        exact hx.elim (good_iff.1 g.ok x) (good_iff.1 gy.ok x)
      exact ⟨y, rfl, hz, js_to g2 (R.step e1) q1 fun s n2 H2 hs gs e2 => q s n2 H2 hs gs (e1.trans e2)⟩⟩
theorem de_joined {v1 v2 : Expr} {rest : List Expr} {ws : List WE} {pos : Pos} (h : DJ X (v1 :: v2 :: rest) ws) : DE X (.JoinedStr (v1 :: v2 :: rest) pos) (fun env n Q => wJs ws Str.empty env n fun s n1 => Q (.str s) n1) :=
  .of (pe_joined h.pj) fun σ H Q ⟨c, ad, n, env, Q0, R, q0, q⟩ => js_to (Q := fun out H1 => Q (.str out) H1) ⟨by decide, by decide +kernel⟩ R q0 fun s n2 H2 hs gs e2 => q _ _ hs _ _ e2 (.str gs)
theorem de_joined1 {e : Expr} {we : WE} {pos : Pos} (h : DE X e we) : DE X (.JoinedStr [e] pos) we := .of (pe_joined1 h.pe) fun σ H Q q => q
end
end Dv

set_option Elab.async false
set_option linter.all false
set_option maxRecDepth 100000
set_option maxHeartbeats 4000000
/-! the bag, a draw (made by genbag.py) -/
namespace K4
open PySem PySem.Spec PyProof.Rows L2 RZ Dv
def topS (i : Nat) : Stmt := PySem.Challenge.pw_lexiconlines_k04_whole_texts_of_books.main.body.getD i (.Pass ⟨0, 0, 0, 0⟩)
abbrev sBag : Stmt := topS 33
abbrev sDraw : Stmt := topS 34
theorem scBag : FnScope ["script", "mixed", "cell"] ["script"] (defScope sBag) := ⟨rfl, rfl, rfl, by decide +kernel, rfl, by decide +kernel, by decide +kernel⟩
theorem scDraw : FnScope ["bag", "top", "cell", "digit", "seed"] ["bag", "top"] (defScope sDraw) := ⟨rfl, rfl, rfl, by decide +kernel, rfl, by decide +kernel, by decide +kernel⟩
section
variable {P : Program} {w : World} {K : PySem.W.Frag} {mg : Str → Option Value} {base : Heap}
theorem ok_draw {f : Addr} {fd : FuncData} {k : Nat} (F : Fun K "_law_draw" "_law_draw" sDraw f fd) (ml : mg "len" = none) (mi : mg "int" = none) (ma : mg "abs" = none) : FnOk P w K mg base CX0 (k + 1) f fd ["bag", "top"] spDraw := by
  refine F.ok scDraw (fun vs H Q E h => ?_) (fun cdv A outer s H vs Q E hr h => ?_)
  · obtain ⟨a, l, n, top, rfl, _⟩ := h
    rfl
  · obtain ⟨b, l, n, top, rfl, ⟨ns, pos, rest, mixed, cnt, hb, hl, ok⟩, hn, ht, htb, q⟩ := h
    refine ⟨_, pss_cons (ps_asg (pe_op op_add (pe_ix ix_list (pv 0) pe_int (fun _ _ => rfl)) pe_int) (pg_sub (pv 0) pe_int set_list))
      (C8.pss_cut (ps_if (PW.pt (pw_and (pt_cmpR op_eq (pe_ix ix_list (pv 0) pe_int (fun _ _ => rfl)) pe_int (nomark _)) (pw_and1 (pt_cmpR op_lt (pe_ix ix_list (pv 0) pe_int (fun _ _ => rfl)) (pe_callB call_len_seq (by rfl) ml PySem.boot_len (pa_cons (pe_ix ix_list (pv 0) pe_int (fun _ _ => rfl)) pa_nil)) (nomark _)))))
          (pss_cons (ps_set (i := 2) scDraw.nd rfl (Or.inl rfl) (pe_callTy call_int1 (by rfl) mi (by decide +kernel) (pa_cons (pe_ix ix_list (pe_ix ix_list (pv 0) pe_int (fun _ _ => rfl)) (pe_ix ix_list (pv 0) pe_int (fun _ _ => rfl)) (fun _ _ => rfl)) pa_nil)))
          (pss_cons (ps_asg (pe_op op_add (pe_ix ix_list (pv 0) pe_int (fun _ _ => rfl)) pe_int) (pg_sub (pv 0) pe_int set_list))
          (pss_one (ps_if (pt_cmpR op_ge (pe_callB call_abs (by rfl) ma (by decide +kernel) (pa_cons (pv 2) pa_nil)) (pe_op op_pow pe_int pe_int) (nomark _))
            (pss_one (ps_asg (pe_callB call_abs (by rfl) ma (by decide +kernel) (pa_cons (pv 2) pa_nil)) (pg_sub (pv 0) pe_int set_list)))
            (pss_one (ps_asg (pe_op op_mod (pe_callTy call_int1 (by rfl) mi (by decide +kernel) (pa_cons (pe_op op_add (pe_op op_add (pe_op op_mul (pe_ix ix_list (pv 0) pe_int (fun _ _ => rfl)) pe_int) (pe_op op_mul (pe_op op_mod (pe_callTy call_int1 (by rfl) mi (by decide +kernel) (pa_cons (pv 2) pa_nil)) pe_int) pe_int)) pe_int) pa_nil)) pe_int) (pg_sub (pv 0) pe_int set_list)))))))
          pss_nil)
      (pss_cons (ps_if (pt_cmpR op_gt (pe_ix ix_list (pv 0) pe_int (fun _ _ => rfl)) pe_int (nomark _))
          (pss_cons (ps_set (i := 3) scDraw.nd rfl (Or.inl rfl) (pe_op op_modN (pe_callTy call_int1 (by rfl) mi (by decide +kernel) (pa_cons (pe_ix ix_list (pv 0) pe_int (fun _ _ => rfl)) pa_nil)) (pv 1)))
          (pss_cons (ps_asg (pe_op op_fdivW (pe_ix ix_list (pv 0) pe_int (fun _ _ => rfl)) (pv 1)) (pg_sub (pv 0) pe_int set_list))
          (pss_one (ps_ret (pv 3)))))
          pss_nil)
      (pss_cons (ps_set (i := 4) scDraw.nd rfl (Or.inl rfl) (pe_callTy call_int1 (by rfl) mi (by decide +kernel) (pa_cons (pe_ix ix_list (pv 0) pe_int (fun _ _ => rfl)) pa_nil)))
      (pss_cons (ps_asg (pe_op op_mod (pe_callTy call_int1 (by rfl) mi (by decide +kernel) (pa_cons (pe_op op_add (pe_op op_add (pe_op op_add (pe_op op_pow (pv 4) pe_int) (pe_op op_mul (pv 4) pe_int)) (pe_op op_mul (pe_ix ix_list (pv 0) pe_int (fun _ _ => rfl)) pe_int)) pe_int) pa_nil)) pe_int) (pg_sub (pv 0) pe_int set_list))
      (pss_one (ps_ret (pe_op op_modN (pe_callTy call_int1 (by rfl) mi (by decide +kernel) (pa_cons (pe_op op_add (pe_op op_fdiv (pe_ix ix_list (pv 0) pe_int (fun _ _ => rfl)) pe_int) (pe_op op_mul (pe_op op_mod (pe_callTy call_int1 (by rfl) mi (by decide +kernel) (pa_cons (pe_ix ix_list (pv 0) pe_int (fun _ _ => rfl)) pa_nil)) pe_int) pe_int)) pa_nil)) (pv 1)))))))), ?_⟩
    have hlb : l ≠ b := bag_ne hb hl
    have hl' : ∀ o, upd H b o l = some (.lst (ns.map V.int)) := fun o => by rw [upd_ne hlb]; exact hl
    have hat : ∀ {p r m c : Int}, upd H b (bagL l p r m c) b = some (bagL l p r m c) := upd_same
    have hsq : ∀ {p r m c : Int}, SqL K (upd H b (bagL l p r m c)) b [.ref l, .int p, .int r, .int m, .int c] := .inl (.inl upd_same)
    have hlq : ∀ {o : HO}, SqL K (upd H b o) l (ns.map V.int) := fun {o} => .inl (.inl (hl' o))
    refine ⟨.ref b, rfl, b, _, 4, .int cnt, rfl, rfl, .inl (.inl hb), rfl, cnt, 1, rfl, rfl, .ref b, rfl, b, _, 4, 4, rfl, rfl, hb, rfl, ?_⟩
    refine ⟨fun σ' H' => ∃ y2 pos' rest' mixed', σ' = [some (.ref b), some (.int top), y2, none, none] ∧ H' = upd H b (bagL l pos' rest' mixed' (cnt + 1)) ∧ BagOk ns pos' rest' mixed' (cnt + 1) (n + 1), ?_, ?_⟩
    · have ok1 : BagOk ns pos rest mixed (cnt + 1) (n + 1) := ⟨ok.len, ok.p0, ok.r0, ok.m0, ok.m1, by have := ok.c0; omega, by have := ok.c1; omega⟩
      refine ⟨.ref b, rfl, b, _, 2, .int rest, rfl, rfl, hsq, rfl, rfl, _, rfl, ite2 (fun e => ?_) (fun e => ?_)⟩
      · refine ⟨.ref b, rfl, b, _, 1, .int pos, rfl, rfl, hsq, rfl, .ref b, rfl, b, _, 0, .ref l, rfl, rfl, hsq, rfl, l, _, rfl, .inl hlq, pos, _, rfl, rfl, _, rfl, ite2 (fun e2 => ?_) (fun e2 => ?_)⟩
        · have e3 : pos < (ns.map V.int).length := of_decide_eq_true e2
          have p0 := ok.p0
          have e4 : pos.toNat < ns.length := by rw [List.length_map] at e3; omega
          have e5 : atI (ns.map V.int) pos = some (.int ns[pos.toNat]) := by
            have z : atI (ns.map V.int) ((pos.toNat : Nat) : Int) = some (.int ns[pos.toNat]) := atI_nat (by rw [List.getElem?_map, List.getElem?_eq_getElem e4]; rfl)
            rwa [Int.toNat_of_nonneg p0] at z
          refine ⟨.ref b, rfl, b, _, 0, .ref l, rfl, rfl, hsq, rfl, .ref b, rfl, b, _, 1, .int pos, rfl, rfl, hsq, rfl, l, _, pos, _, rfl, rfl, hlq, e5, .inl ⟨_, rfl, ?_⟩⟩
          refine ⟨.ref b, rfl, b, _, 1, .int pos, rfl, rfl, hsq, rfl, pos, 1, rfl, rfl, .ref b, rfl, b, _, 1, 1, rfl, rfl, hat, rfl, ?_⟩
          rw [upd_upd]
          refine ⟨.int _, rfl, _, rfl, 10, 18, rfl, rfl, ⟨by decide, by decide, by decide⟩, _, _, rfl, rfl, _, rfl, ite2 (fun e6 => ?_) (fun e6 => ?_)⟩
          · refine ⟨.int _, rfl, _, rfl, .ref b, rfl, b, _, 2, 2, rfl, rfl, hat, rfl, ?_⟩
            rw [upd_upd]
            refine ⟨_, _, _, _, rfl, rfl, ok1.len, by omega, by split <;> omega, ok1.m0, ok1.m1, ok1.c0, ok1.c1⟩
          · refine ⟨.ref b, rfl, b, _, 3, .int mixed, rfl, rfl, hsq, rfl, mixed, 43889, rfl, rfl, .inl ⟨by have := ok.m0; omega, by have := ok.m1; omega⟩, .int _, rfl, .inl ⟨_, rfl, _, 1000639, rfl, rfl, by show (0 : Int) < 1000639; decide, _, 773, rfl, rfl, .inl ⟨by omega, by omega⟩, _, _, rfl, rfl, _, 29, rfl, rfl, .inl ⟨_, rfl, _, 2147483587, rfl, rfl, by show (0 : Int) < 2147483587; decide, .ref b, rfl, b, _, 3, 3, rfl, rfl, hat, rfl, ?_⟩⟩⟩
            rw [upd_upd]
            refine ⟨_, _, _, _, rfl, rfl, ok1.len, by omega, ok1.r0, by omega, by omega, ok1.c0, ok1.c1⟩
        · exact ⟨_, _, _, _, rfl, rfl, ok1⟩
      · exact ⟨_, _, _, _, rfl, rfl, ok1⟩
    · rintro σ' H' ⟨y2, pos', rest', mixed', rfl, rfl, ok'⟩
      have m0 := ok'.m0
      have m1 := ok'.m1
      have c0 := ok'.c0
      have c1 := ok'.c1
      have r0 := ok'.r0
      refine ⟨.ref b, rfl, b, _, 2, .int rest', rfl, rfl, hsq, rfl, _, _, rfl, rfl, _, rfl, ite2 (fun e => ?_) (fun e => ?_)⟩
      · refine ⟨.ref b, rfl, b, _, 2, .int rest', rfl, rfl, hsq, rfl, .inl ⟨_, rfl, .int top, rfl, rest', top, rfl, rfl, by show top ≠ 0; omega, ?_⟩⟩
        refine ⟨.ref b, rfl, b, _, 2, .int rest', rfl, rfl, hsq, rfl, .int top, rfl, rest', top, rfl, rfl, wide_div ht htb (by decide) (by decide), .ref b, rfl, b, _, 2, 2, rfl, rfl, hat, rfl, ?_⟩
        rw [upd_upd]
        refine ⟨_, rfl, ?_⟩
        have z : rest'.fmod top = rest' % top := Int.fmod_eq_emod_of_nonneg _ (by omega)
        show Q (.int (rest'.fmod top)) (upd H b (bagL l pos' (rest' / top) mixed' (cnt + 1)))
        rw [z]
        refine q (bagL l pos' (rest' / top) mixed' (cnt + 1)) _ ⟨ns, _, _, _, _, upd_same, hl' _, ok'.len, ok'.p0, Int.ediv_nonneg r0 (by omega), m0, m1, c0, c1⟩ ⟨_, rfl⟩ (Int.emod_nonneg _ (by omega)) (Int.emod_lt_of_pos _ ht)
      · refine ⟨.ref b, rfl, b, _, 3, .int mixed', rfl, rfl, hsq, rfl, .inl ⟨_, rfl, ?_⟩⟩
        refine ⟨.int mixed', rfl, mixed', 3, rfl, rfl, ⟨by omega, by omega, by omega⟩, .int mixed', rfl, mixed', 47111, rfl, rfl, .inl ⟨by omega, by omega⟩, _, _, rfl, rfl, .ref b, rfl, b, _, 4, .int (cnt + 1), rfl, rfl, hsq, rfl, _, 110323, rfl, rfl, .inl ⟨by omega, by omega⟩, _, _, rfl, rfl, _, 60089, rfl, rfl, .inl ⟨_, rfl, _, 2147483549, rfl, rfl, by show (0 : Int) < 2147483549; decide, .ref b, rfl, b, _, 3, 3, rfl, rfl, hat, rfl, ?_⟩⟩
        rw [upd_upd]
        have k0 : 0 ≤ (mixed' ^ 3 + mixed' * 47111 + (cnt + 1) * 110323 + 60089) % 2147483549 := by omega
        have k1 : (mixed' ^ 3 + mixed' * 47111 + (cnt + 1) * 110323 + 60089) % 2147483549 < 2147483648 := by omega
        have fin : ∀ m2 : Int, 0 ≤ m2 → m2 < 2147483648 → Q (.int (((m2 / 71 + m2 % 8017 * 59)).fmod top)) (upd H b (bagL l pos' rest' m2 (cnt + 1))) := fun m2 z0 z1 => by
          rw [Int.fmod_eq_emod_of_nonneg _ (by omega)]
          exact q (bagL l pos' rest' m2 (cnt + 1)) _ ⟨ns, _, _, _, _, upd_same, hl' _, ok'.len, ok'.p0, r0, z0, z1, c0, c1⟩ ⟨_, rfl⟩ (Int.emod_nonneg _ (by omega)) (Int.emod_lt_of_pos _ ht)
        refine ⟨.ref b, rfl, b, _, 3, _, rfl, rfl, .inl (.inl upd_same), rfl, _, 71, rfl, rfl, ⟨by decide, by decide⟩, .ref b, rfl, b, _, 3, _, rfl, rfl, .inl (.inl upd_same), rfl, .inl ⟨_, rfl, _, 8017, rfl, rfl, by show (0 : Int) < 8017; decide, _, 59, rfl, rfl, .inl ⟨by omega, by omega⟩, _, _, rfl, rfl, .inl ⟨_, rfl, .int top, rfl, _, top, rfl, rfl, by show top ≠ 0; omega, ?_⟩⟩⟩
        exact fin _ k0 k1
/-! ### the bag -/
theorem ok_bag {f : Addr} {fd : FuncData} {k : Nat} (F : Fun K "_law_bag" "_law_bag" sBag f fd) (mi : mg "int" = none) (ml : mg "list" = none) : FnOk P w K mg base CX0 (k + 1) f fd ["script"] (spBag K) := by
  refine F.ok scBag (fun vs H Q E h => ?_) (fun cdv A outer s H vs Q E hr h => ?_)
  · obtain ⟨a, ns, rfl, _⟩ := h
    rfl
  · obtain ⟨a, ns, rfl, hS, hlen, q⟩ := h
    refine ⟨_, pss_cons (ps_set (i := 1) scBag.nd rfl (Or.inl rfl) pe_int)
      (pss_cons (ps_for PassesOwn.never rfl (pi_list (pe_slice sl_list (pv 0) po_none (po_some pe_int))) (pg_name (i := 2) scBag.nd rfl (Or.inl rfl))
        (pss_one (ps_set (i := 1) scBag.nd rfl (Or.inl rfl) (pe_op op_mod (pe_callTy call_int1 (by rfl) mi (by decide +kernel) (pa_cons (pe_op op_add (pe_op op_add (pe_op op_mul (pv 1) pe_int) (pe_op op_mul (pe_op op_mod (pe_callTy call_int1 (by rfl) mi (by decide +kernel) (pa_cons (pv 2) pa_nil)) pe_int) pe_int)) pe_int) pa_nil)) pe_int))))
      (pss_one (ps_ret (pe_lst (pa_cons (pe_callTy call_list_of (by rfl) ml (by decide +kernel) (pa_cons (pe_slice sl_list (pv 0) po_none (po_some pe_int)) pa_nil)) (pa_cons pe_int (pa_cons pe_int (pa_cons (pv 1) (pa_cons pe_int pa_nil))))))))), ?_⟩
    refine ⟨.ref a, rfl, 63, rfl, a, _, rfl, hS, fun c nc => ?_⟩
    have e63 : cutV (ns.map V.int) none (some 63) = ns.map V.int := by
      unfold cutV
      rw [show HT.sIx (ns.map V.int).length 0 none = 0 from HT.sIx_none _ _, show HT.sIx (ns.map V.int).length (ns.map V.int).length (some 63) = min 63 (ns.map V.int).length from HT.sIx_nat (ns.map V.int).length _ 63]
      rw [List.drop_zero, List.take_of_length_le (by rw [List.length_map]; omega)]
    rw [e63]
    have s1 : Same H (upd H c (.lst (ns.map V.int))) := fun x o e => by rw [upd_ne (ne_of_none e nc)]; exact e
    have hc1 : SqL K (upd H c (.lst (ns.map V.int))) c (ns.map V.int) := .inl (.inl upd_same)
    refine ⟨c, rfl, ⟨_, hc1⟩, for_list (xs := ns.map V.int) (fun _ σ' H' => ∃ m y, σ' = [some (.ref a), some (.int m), y] ∧ H' = upd H c (.lst (ns.map V.int)) ∧ 0 ≤ m ∧ m < 2147483579) ⟨12038, none, rfl, rfl, by decide, by decide⟩ (fun i σ' H' _ h' => by obtain ⟨_, _, _, rfl, _⟩ := h'; exact hc1) ?_ ?_⟩
    · rintro i x σ' H' hx ⟨m, y, rfl, rfl, m0, m1⟩
      obtain ⟨z, rfl⟩ : ∃ z, x = V.int z := by
        rw [List.getElem?_map] at hx
        cases hz : ns[i]? with
        | none => rw [hz] at hx; cases hx
        | some z => rw [hz] at hx; exact ⟨z, (Option.some.inj hx).symm⟩
      refine ⟨.int m, rfl, m, 48271, rfl, rfl, .inl ⟨by omega, by omega⟩, .int z, rfl, .inl ⟨_, rfl, _, 1000639, rfl, rfl, by show (0 : Int) < 1000639; decide, _, 881, rfl, rfl, .inl ⟨by omega, by omega⟩, _, _, rfl, rfl, _, 53, rfl, rfl, .inl ⟨_, rfl, _, 2147483579, rfl, rfl, by show (0 : Int) < 2147483579; decide, ?_⟩⟩⟩
      exact ⟨_, _, rfl, rfl, by omega, by omega⟩
    · rintro σ' H' ⟨m, y, rfl, rfl, m0, m1⟩
      refine ⟨.ref a, rfl, 63, rfl, a, _, rfl, s1.seq hS, fun d nd => ?_⟩
      rw [e63]
      refine ⟨d, _, rfl, .inl (.inl (.inl upd_same)), fun e ne => ⟨.int m, rfl, ?_⟩⟩
      refine ⟨by show 5 ≤ sizeLine; decide, fun b nb => ?_⟩
      have sb : ∀ {G : Hp} {x : Addr} {o : HO}, G x = none → Same G (upd G x o) := fun {G x o} hn y u e => by rw [upd_ne (ne_of_none e hn)]; exact e
      have S := ((s1.trans (sb nd)).trans (sb ne)).trans (sb (o := .lst [.ref e, .int 0, .int 0, .int m, .int 0]) nb)
      refine q _ b e S ?_ ⟨ns, 0, 0, m, 0, upd_same, ?_, hlen, by decide, by decide, m0, by omega, by decide, by decide⟩
      · exact ((s1.trans (sb nd)).trans (sb ne)).free nb
      · rw [upd_ne (ne_of_none upd_same nb), upd_same]
end
end K4

set_option Elab.async false
set_option linter.all false
set_option maxRecDepth 100000
set_option maxHeartbeats 4000000
/-! parents_of: the lists within a list grow, by hand -/
namespace K4
open PySem PySem.Spec PyProof.Rows L2 RZ Dv
abbrev s_parents_of : Stmt := topS 27
theorem sc_parents_of : FnScope ["net", "parents", "_", "at", "node", "child"] ["net"] (defScope s_parents_of) := ⟨rfl, rfl, rfl, by decide +kernel, rfl, by decide +kernel, by decide +kernel⟩
abbrev Nd := Str × List (Option Nat)
def kD : Option Nat → D
  | none => .non
  | some k => .int (k : Nat)
def ndD (x : Nd) : D := .tup (.str x.1 :: x.2.map kD)
/-- the arrows that come to k -/
def parts (es : List (Nat × Nat)) (k : Nat) : List Int := (es.filter fun e => e.1 == k).map fun e => (e.2 : Int)
def arrows (i : Nat) (ks : List (Option Nat)) : List (Nat × Nat) := ks.filterMap fun o => o.map fun k => (k, i)
def allArrows : List Nd → Nat → List (Nat × Nat)
  | [], _ => []
  | x :: r, i => arrows i x.2 ++ allArrows r (i + 1)
def parentsD (xs : List Nd) : List D := (List.range xs.length).map fun k => .lst ((parts (allArrows xs 0) k).map .int)
def NdOk (m : Nat) (x : Nd) : Prop := x.2.length = 4 ∧ ∀ k, some k ∈ x.2 → k < m
def sp_parents_of : DSpF := fun ds n Q _ => ∃ xs : List Nd, ds = [.lst (xs.map ndD)] ∧ xs.length ≤ 100000 ∧ (∀ x ∈ xs, NdOk xs.length x) ∧ Q (.lst (parentsD xs)) n
theorem parts_app (es fs : List (Nat × Nat)) (k : Nat) : parts (es ++ fs) k = parts es k ++ parts fs k := by unfold parts; rw [List.filter_append, List.map_append]
theorem parts_one (k i j : Nat) : parts [(k, i)] j = if k = j then [(i : Int)] else [] := by
  unfold parts
  by_cases h : k = j
  · subst h; simp
  · simp [h]
theorem arrows_app (i : Nat) (as bs : List (Option Nat)) : arrows i (as ++ bs) = arrows i as ++ arrows i bs := by unfold arrows; rw [List.filterMap_append]
theorem arrows_take {i j : Nat} {ks : List (Option Nat)} {o : Option Nat} (h : ks[j]? = some o) : arrows i (ks.take (j + 1)) = arrows i (ks.take j) ++ arrows i [o] := by
  rw [List.take_add_one, h, arrows_app]; rfl
theorem all_app : ∀ (xs ys : List Nd) (i : Nat), allArrows (xs ++ ys) i = allArrows xs i ++ allArrows ys (i + xs.length)
  | [], ys, i => rfl
  | x :: xs, ys, i => by
    show arrows i x.2 ++ allArrows (xs ++ ys) (i + 1) = _
    rw [all_app xs ys (i + 1)]
    show _ = (arrows i x.2 ++ allArrows xs (i + 1)) ++ _
    rw [List.append_assoc, show i + 1 + xs.length = i + (x :: xs).length by rw [List.length_cons]; omega]
theorem all_take {xs : List Nd} {i : Nat} {x : Nd} (h : xs[i]? = some x) : allArrows (xs.take (i + 1)) 0 = allArrows (xs.take i) 0 ++ arrows i x.2 := by
  have hi : i < xs.length := (List.getElem?_eq_some_iff.1 h).1
  rw [List.take_add_one, h, all_app]
  show _ ++ (arrows (0 + (xs.take i).length) x.2 ++ []) = _
  rw [List.append_nil, List.length_take, Nat.zero_add, Nat.min_eq_left (by omega)]
def kVv : Option Nat → V
  | none => .non
  | some k => .int (k : Nat)
theorem rep_k {K : PySem.W.Frag} {bg : Option (Addr × Addr)} {H : Hp} {v : V} {o : Option Nat} (h : Rep K bg H v (kD o)) : v = kVv o := by
  cases o with
  | none => cases h; rfl
  | some k => cases h; rfl
theorem rep_ks {K : PySem.W.Frag} {bg : Option (Addr × Addr)} {H : Hp} : ∀ {vs : List V} {ks : List (Option Nat)}, RepL K bg H vs (ks.map kD) → vs = ks.map kVv
  | _, [], .nil => rfl
  | _, k :: ks, .cons h t => by rw [rep_k h, rep_ks t]; rfl
theorem cut_node (v0 : V) (ks : List (Option Nat)) (h : ks.length = 4) : cutV (v0 :: ks.map kVv) (some 1) none = ks.map kVv := by
  unfold cutV
  rw [HT.sIx_none, show (some (1 : Int)) = some ((1 : Nat) : Int) from rfl, HT.sIx_nat]
  simp [h]
  rw [← h, ← List.length_map (f := kVv), List.take_length]
theorem arrows_len (i : Nat) (ks : List (Option Nat)) : (arrows i ks).length ≤ ks.length := List.length_filterMap_le _ _
theorem all_len : ∀ (xs : List Nd) (i : Nat), (∀ x ∈ xs, x.2.length = 4) → (allArrows xs i).length ≤ 4 * xs.length
  | [], i, _ => Nat.le_refl _
  | x :: xs, i, h => by
    have h1 := all_len xs (i + 1) (fun y hy => h y (List.mem_cons_of_mem _ hy))
    have h2 := arrows_len i x.2
    have h3 := h x (List.mem_cons_self ..)
    show (arrows i x.2 ++ allArrows xs (i + 1)).length ≤ 4 * (xs.length + 1)
    rw [List.length_append]
    omega
theorem parts_len (es : List (Nat × Nat)) (k : Nat) : (parts es k).length ≤ es.length := by
  unfold parts
  rw [List.length_map]
  exact List.length_filter_le _ _
theorem repL_of {K : PySem.W.Frag} {bg : Option (Addr × Addr)} {H : Hp} {f : Nat → D} : ∀ (ps : List Addr) (i : Nat), (∀ k q, ps[k]? = some q → Rep K bg H (.ref q) (f (i + k))) → RepL K bg H (ps.map V.ref) ((List.range' i ps.length).map f)
  | [], i, _ => .nil
  | q :: ps, i, h => by
    rw [List.length_cons, List.range'_succ]
    refine .cons (by have := h 0 q rfl; simpa using this) (repL_of ps (i + 1) fun k r e => ?_)
    have := h (k + 1) r e
    rw [show i + 1 + k = i + (k + 1) by omega]
    exact this
theorem repL_ints {K : PySem.W.Frag} {bg : Option (Addr × Addr)} {H : Hp} : ∀ (ns : List Int), RepL K bg H (ns.map V.int) (ns.map D.int)
  | [] => .nil
  | n :: ns => .cons (.int n) (repL_ints ns)
/-- how the lists stand -/
structure Good (H G : Hp) (es : List (Nat × Nat)) (m : Nat) (p : Addr) (ps : List Addr) : Prop where
  same : Same H G
  hp : G p = some (.lst (ps.map V.ref))
  len : ps.length = m
  nd : ps.Nodup
  at_ : ∀ k q, ps[k]? = some q → G q = some (.lst ((parts es k).map V.int))
  free : ∀ q ∈ ps, H q = none
  pfree : H p = none
  pn : p ∉ ps
theorem Good.new {H G : Hp} {es : List (Nat × Nat)} {m : Nat} {p : Addr} {ps : List Addr} (g : Good H G es m p ps) {t : Addr} {o : HO} (ht : G t = none) : Good H (upd G t o) es m p ps := by
  have ne : ∀ b u, G b = some u → b ≠ t := fun b u e z => by rw [z, ht] at e; cases e
  refine ⟨fun b u e => ?_, ?_, g.len, g.nd, fun k q e => ?_, g.free, g.pfree, g.pn⟩
  · rw [upd_ne (ne _ _ (g.same _ _ e))]; exact g.same _ _ e
  · rw [upd_ne (ne _ _ g.hp)]; exact g.hp
  · rw [upd_ne (ne _ _ (g.at_ k q e))]; exact g.at_ k q e
theorem Good.push {H G : Hp} {es : List (Nat × Nat)} {m : Nat} {p : Addr} {ps : List Addr} (g : Good H G es m p ps) {k i : Nat} {q : Addr} (hq : ps[k]? = some q) : Good H (upd G q (.lst ((parts es k).map V.int ++ [.int (i : Nat)]))) (es ++ [(k, i)]) m p ps := by
  have hm : q ∈ ps := List.mem_of_getElem? hq
  have hk : k < ps.length := (List.getElem?_eq_some_iff.1 hq).1
  refine ⟨fun b u e => ?_, ?_, g.len, g.nd, fun j r e => ?_, g.free, g.pfree, g.pn⟩
  · rw [upd_ne (fun z => by rw [z, g.free q hm] at e; cases e)]; exact g.same _ _ e
  · rw [upd_ne (fun z => g.pn (by rw [z]; exact hm))]; exact g.hp
  · have hj : j < ps.length := (List.getElem?_eq_some_iff.1 e).1
    rw [parts_app, parts_one]
    by_cases z : k = j
    · subst z
      rw [hq] at e
      cases e
      rw [if_pos rfl, upd_same, List.map_append]
      rfl
    · have hne : r ≠ q := fun w => by
        subst w
        rw [List.getElem?_eq_getElem hk] at hq
        rw [List.getElem?_eq_getElem hj] at e
        exact z ((List.getElem_inj g.nd).1 ((Option.some.inj hq).trans (Option.some.inj e).symm))
      rw [if_neg z, List.append_nil, upd_ne hne]
      exact g.at_ j r e
section
variable {P : Program} {w : World} {K : PySem.W.Frag} {mg : Str → Option Value} {base : Heap}
theorem ok_parents_of {k : Nat} {f : Addr} {fd : FuncData} (me : mg "enumerate" = none) (F : Fun K "parents_of" "parents_of" s_parents_of f fd) : FnOk P w K mg base CX0 (k + 1) f fd ["net"] (lSpF K sp_parents_of) := by
  refine F.ok sc_parents_of (fun vs H Q E ⟨c, ds, n, Q0, E0, _, r, ⟨xs, e, _⟩, _⟩ => by rw [r.len, e]; rfl) (fun cdv A outer s' H vs Q E hr h => ?_)
  obtain ⟨c, ds, n, Q0, E0, ⟨h0, hO, hcw⟩, r, ⟨xs, rfl, hl, hk, q0⟩, hq, _⟩ := h
  cases r with
  | cons r1 r2 =>
    cases r2
    cases r1 with
    | @lst a ws _ ha hla rl =>
      have hlen : ws.length = xs.length := by rw [rl.len, List.length_map]
      have haH : H a = some (.lst ws) := (cut_some ha).2
      refine ⟨_, pss_cons (ps_setLc (i := 1) (own := [("_", 2)]) (g := gName 2) (tt := tYes) rfl sc_parents_of.nd rfl rfl (sw_true rfl rfl rfl (by decide +kernel)) (pi_list (pv 0)) (blkOk_by (N := ["net", "parents", "_", "at", "node", "child"]) (sc := defScope s_parents_of) (by decide +kernel)) (fun _ _ _ _ _ => pg_name (i := 2) sc_parents_of.nd rfl (Or.inl rfl)) (fun _ _ _ _ _ => pts_nil) (fun _ _ _ _ _ => pe_lst pa_nil))
        (pss_cons (ps_for PassesOwn.never rfl (pi_enum (by rfl) me (pa_cons (pv 0) pa_nil)) (pg_tup rfl (pgs_cons (pg_name (i := 3) sc_parents_of.nd rfl (Or.inl rfl)) (pgs_cons (pg_name (i := 4) sc_parents_of.nd rfl (Or.inl rfl)) pgs_nil)))
          (pss_one (ps_for PassesOwn.never rfl (pi_tup (pe_slice sl_tupA (pv 4) (po_some pe_int) po_none)) (pg_name (i := 5) sc_parents_of.nd rfl (Or.inl rfl))
            (pss_one (ps_if (pt_cmpR op_notN (pv 5) pe_non (nomark _)) (pss_one (ps_expr (pe_bm PySem.F.plainAttrs_list PySem.F.slot_list_append PySem.F.type_list_append mt_append (pe_ix ix_list (pv 1) (pv 5) (fun _ _ => rfl)) (pa_cons (pv 3) pa_nil)))) pss_nil)))))
        (pss_one (ps_ret (pv 1)))), ?_⟩
      refine ⟨.ref a, rfl, a, rfl, ⟨_, .inl (.inl haH)⟩, fun p hp => ?_⟩
      refine lc_list (xs := ws) (fun i G => ∃ ps : List Addr, Same H G ∧ ps.length = i ∧ ps.Nodup ∧ p ∉ ps ∧ (∀ q ∈ ps, H q = none ∧ G q = some (.lst [])) ∧ G p = some (.lst (ps.map V.ref))) ?_ (fun i G _ ⟨ps, sm, _⟩ => .inl (.inl (sm _ _ haH))) ?_ ?_
      · exact ⟨[], fun b o e => by rw [upd_ne (ne_of_none e hp)]; exact e, rfl, .nil, by simp, by simp, upd_same⟩
      · rintro i x G hx ⟨ps, sm, hi, nd, hpn, hps, hgp⟩
        refine ⟨rfl, Nat.zero_le _, fun l hl' => ?_⟩
        have hiw : i < ws.length := (List.getElem?_eq_some_iff.1 hx).1
        have pl : p ≠ l := ne_of_none hgp hl'
        have nl : l ∉ ps := fun m => by rw [(hps l m).2] at hl'; cases hl'
        refine ⟨ps.map V.ref, by rw [upd_ne pl]; exact hgp, by rw [List.length_map]; omega, ps ++ [l], fun b o e => ?_, by rw [List.length_append, hi]; rfl, ?_, ?_, ?_, ?_⟩
        · rw [upd_ne (ne_of_none e hp), upd_ne (ne_of_none (sm _ _ e) hl')]; exact sm _ _ e
        · rw [List.nodup_append]; exact ⟨nd, by simp, fun b hb d hd => by simp at hd; subst hd; exact fun z => nl (z ▸ hb)⟩
        · simp only [List.mem_append, List.mem_singleton, not_or]; exact ⟨hpn, pl⟩
        · intro q hq
          rcases List.mem_append.1 hq with m | m
          · refine ⟨(hps q m).1, ?_⟩
            have z1 : q ≠ p := fun z => hpn (z ▸ m)
            have z2 : q ≠ l := fun z => nl (z ▸ m)
            rw [upd_ne z1, upd_ne z2]; exact (hps q m).2
          · rw [List.mem_singleton] at m
            subst m
            refine ⟨?_, by rw [upd_ne (fun z => pl z.symm), upd_same]⟩
            cases e : H q with
            | none => rfl
            | some o => rw [sm _ _ e] at hl'; cases hl'
        · rw [upd_same, List.map_append]; rfl
      · rintro G ⟨ps, sm, hi, nd, hpn, hps, hgp⟩
        have g0 : Good H G [] xs.length p ps := ⟨sm, hgp, by rw [hi, hlen], nd, fun k q e => (hps q (List.mem_of_getElem? e)).2, fun q hq => (hps q hq).1, hp, hpn⟩
        refine ⟨.ref a, rfl, a, ws, rfl, .inl (.inl (sm _ _ haH)), ?_⟩
        refine for_it (walk_enum (xs := ws)) (fun i σ G => ∃ o2 o3 o4 o5, σ = [some (.ref a), some (.ref p), o2, o3, o4, o5] ∧ Good H G (allArrows (xs.take i) 0) xs.length p ps) ⟨_, _, _, _, rfl, g0⟩ (fun i σ G _ z => ?_) ?_ ?_
        · obtain ⟨_, _, _, _, _, g⟩ := z
          exact .inl (.inl (g.same _ _ haH))
        · rintro i x σ G G' hi ⟨o2, o3, o4, o5, rfl, g⟩ ⟨T, _, y, rfl, hT, rfl, e1, e2⟩
          cases e1
          obtain ⟨d, hd, rd⟩ := rl.get e2
          rw [List.getElem?_map] at hd
          obtain ⟨x, hx, rfl⟩ := Option.map_eq_some_iff.1 hd
          have g1 := g.new (o := .tup [.int (i : Nat), y]) hT
          have hxm : x ∈ xs := List.mem_of_getElem? hx
          obtain ⟨hk4, hkm⟩ := hk x hxm
          unfold ndD at rd
          cases rd with
          | @tup b vs _ hb hvl rv =>
            cases rv with
            | @cons v0 _ vs _ h0' tv =>
              obtain rfl := rep_ks tv
              have hbG : ∀ G2, Same H G2 → SqT K G2 b (v0 :: x.2.map kVv) := fun G2 sm => sqt_same (fun u o e => sm u o (cut_le u o e)) hb
              refine ⟨T, _, rfl, .of upd_same, rfl, _, _, rfl, _, _, rfl, rfl, ?_⟩
              refine ⟨.ref b, rfl, 1, ⟨rfl, ?_⟩⟩
              refine ⟨b, v0 :: x.2.map kVv, rfl, hbG _ g1.same, fun z => ?_, fun _ t2 ht2 => ?_⟩
              · have z1 := z.1
                have l5 : (v0 :: x.2.map kVv).length = 5 := by rw [List.length_cons, List.length_map, hk4]
                rw [l5] at z1
                exact absurd z1 (by decide)
              · rw [cut_node v0 x.2 hk4]
                have g2 := g1.new (o := .tup (x.2.map kVv)) ht2
                refine ⟨t2, rfl, ⟨_, .of upd_same⟩, for_tup (xs := x.2.map kVv) (fun j σ G => ∃ o5, σ = [some (.ref a), some (.ref p), o2, some (.int (i : Nat)), some (.ref b), o5] ∧ G t2 = some (.tup (x.2.map kVv)) ∧ Good H G (allArrows (xs.take i) 0 ++ arrows i (x.2.take j)) xs.length p ps) ⟨_, rfl, upd_same, by rw [List.take_zero, show arrows i [] = [] from rfl, List.append_nil]; exact g2⟩ (fun j σ G _ z => ?_) ?_ ?_⟩
                · obtain ⟨_, _, z, _⟩ := z
                  exact .of z
                · rintro j u σ G hu ⟨o5, rfl, ht, gg⟩
                  rw [List.getElem?_map] at hu
                  obtain ⟨o, ho, rfl⟩ := Option.map_eq_some_iff.1 hu
                  have et := arrows_take (i := i) ho
                  cases o with
                  | none =>
                    refine ⟨.non, rfl, rfl, false, rfl, ?_⟩
                    refine ⟨_, rfl, ht, ?_⟩
                    rw [et, show arrows i [none] = [] from rfl, List.append_nil]
                    exact gg
                  | some kk =>
                    have hkm' : kk < xs.length := hkm kk (List.mem_of_getElem? ho)
                    have hkp : kk < ps.length := by rw [gg.len]; exact hkm'
                    have hq' : ps[kk]? = some ps[kk] := List.getElem?_eq_getElem hkp
                    have hat := gg.at_ kk _ hq'
                    have hb1 : (allArrows (xs.take i) 0).length ≤ 4 * (xs.take i).length := all_len _ _ fun y hy => (hk y (List.mem_of_mem_take hy)).1
                    have hb2 : (arrows i (x.2.take j)).length ≤ 4 := by
                      have := arrows_len i (x.2.take j)
                      rw [List.length_take] at this
                      omega
                    have hb3 := parts_len (allArrows (xs.take i) 0 ++ arrows i (x.2.take j)) kk
                    rw [List.length_append] at hb3
                    rw [List.length_take] at hb1
                    refine ⟨.int kk, rfl, rfl, true, rfl, ?_⟩
                    refine ⟨.ref p, rfl, .int kk, rfl, p, ps.map V.ref, (kk : Nat), .ref ps[kk], rfl, rfl, .inl (.inl gg.hp), ?_, ?_⟩
                    · exact atI_nat (by rw [List.getElem?_map, hq']; rfl)
                    · refine ⟨.inl ⟨rfl, _, .inl (.inl hat)⟩, .int (i : Nat), rfl, ps[kk], _, _, rfl, rfl, hat, ?_, ?_⟩
                      · rw [List.length_map]
                        have : sizeLine = 16777216 := rfl
                        omega
                      · refine ⟨_, rfl, ?_, ?_⟩
                        · rw [upd_ne (fun z => by rw [z, hat] at ht; cases ht)]; exact ht
                        · rw [et, ← List.append_assoc]
                          exact gg.push hq'
                · rintro σ G ⟨o5, rfl, ht, gg⟩
                  refine ⟨_, _, _, _, rfl, ?_⟩
                  rw [all_take hx]
                  rw [List.length_map, List.take_length] at gg
                  exact gg
        · rintro σ G ⟨o2, o3, o4, o5, rfl, g⟩
          rw [hlen, List.take_length] at g
          have ee : EStp c H G n := .of_same hcw g.same
          have hOf : ∀ q, H q = none → ¬ c.O0 q := fun q e z => hO q z e
          refine ⟨.ref p, rfl, hq _ _ q0 p _ G hp ee g.hp ?_⟩
          refine .lst (by rw [List.length_map, g.len, ← hlen]; exact hla) ?_
          unfold parentsD
          rw [List.range_eq_range', ← g.len]
          refine repL_of ps 0 fun k q e => ?_
          rw [Nat.zero_add]
          have hqm := List.mem_of_getElem? e
          have hc : cut (fun a => c.O0 a ∨ a = p) G q = some (.lst ((parts (allArrows xs 0) k).map V.int)) := by
            rw [cut_out (fun z => z.elim (hOf q (g.free q hqm)) fun z => g.pn (z ▸ hqm))]
            exact g.at_ k q e
          refine .lst hc ?_ (repL_ints _)
          have hb1 : (allArrows xs 0).length ≤ 4 * xs.length := all_len _ _ fun y hy => (hk y hy).1
          have hb3 := parts_len (allArrows xs 0) k
          rw [List.length_map]
          have : sizeLine = 16777216 := rfl
          omega
end
end K4

set_option Elab.async false
set_option linter.all false
set_option maxRecDepth 100000
set_option maxHeartbeats 4000000
/-! k04: the program's defs, by value -/
namespace K4
open PySem PySem.Spec PyProof.Rows L2 Dv
local macro_rules | `(tactic| walk_at "dv") => `(tactic| simp only [s_var, s_varb, s_test, s_tru, s_andv, s_orv, s_notv, s_chain, s_part, s_list, s_len, s_tuple, s_is, s_ixl, s_ixt, s_ixs, s_seqi, s_gcons, s_gnil, s_gtup, s_append, s_insert, s_enum, s_par, s_listRg, s_rng3, s_raise1, asIns_i, s_putF, s_fld, asFld_i, s_startI4, asLT_l, asLT_t, cx_K, s_reverse, s_retof, s_reto,
  asBl_bl, asInt_int, asTup_tup, asSome_some, asLst_lst, atVal_0, atVal_s, atGet_0, atGet_o, atGet_s, atOb_o, atOb_s, s_start0, s_startU, s_startV, s_add, s_addS, s_addL, s_addT, s_i2, s_ordI, s_ordS, s_isN, s_mulI, s_mulS, s_mulL, s_strip, s_inS, s_neg, s_abs, s_intI, s_intB, s_slL, s_slT, s_slS, isStr_str, s_ifand, s_ifor, s_eqS, s_eqI, s_eqB, Dv.ite_tt, Dv.ite_ff,
  wC, wOp, wMt1, Dv.wNot, Dv.wAnd, Dv.wOr, wIfE, wNil, wCons, wTup, wLst, wOb, Ob.d, wCall, wNoPart, wSl, wNx, Dv.wSeq, wDrop, wSortedSet, wSortedLen, wSortedPair, s_all, s_lc, s_for, s_zip, s_zipS, s_rng1, s_rng2, asZip_lst, asZip_tup, asStr_str, wRet, wRetN, wRetF, wSet, wOwn, wSetOb, wIf, wBk, wCt, wFn, wFnB, wFnF, wFnK, wFnFK, dEnds, dEndsF, gNm, wYes,
  wipeE, List.map_cons, List.map_nil, List.set_cons_zero, List.set_cons_succ, D.tru, D.len, D.items, D.seq, D.flat, D.isNon, true_and, and_true, if_true, if_false, Bool.false_eq_true, Bool.not_true, Bool.not_false])
local macro_rules | `(tactic| walk_at "dn") => `(tactic| simp only [↓s_var, ↓s_varb, ↓s_test, ↓s_tru, ↓s_andv, ↓s_orv, ↓s_notv, ↓s_chain, ↓s_part, ↓s_list, ↓s_rInt2, ↓s_len, ↓s_tuple, ↓s_is, ↓s_ixl, ↓s_ixt, ↓s_ixs, ↓s_seqi, ↓s_gcons, ↓s_gnil, ↓s_gtup, ↓s_append, ↓s_insert, ↓s_enum, ↓s_par, ↓s_listRg, ↓s_rng3, ↓s_raise1, ↓asIns_i, ↓s_putF, ↓s_fld, ↓asFld_i, ↓s_startI4, ↓asLT_l, ↓asLT_t, ↓cx_K, ↓s_reverse, ↓s_retof, ↓s_reto, ↓asBl_bl, ↓asInt_int, ↓asTup_tup, ↓asSome_some, ↓asLst_lst, ↓atVal_0, ↓atVal_s, ↓atGet_0, ↓atGet_o, ↓atGet_s, ↓atOb_o, ↓atOb_s, ↓s_start0, ↓s_startU, ↓s_startV, ↓s_add, ↓s_addS, ↓s_addL, ↓s_addT, ↓s_i2, ↓s_ordI, ↓s_ordS, ↓s_isN, ↓s_mulI, ↓s_mulS, ↓s_mulL, ↓s_strip, ↓s_inS, ↓s_neg, ↓s_abs, ↓s_intI, ↓s_intB, ↓s_slL, ↓s_slT, ↓s_slS, ↓isStr_str, ↓s_ifand, ↓s_ifor, ↓s_eqS, ↓s_eqI, ↓s_eqB, ↓Dv.ite_tt, ↓Dv.ite_ff, wC, wOp, wMt1, Dv.wNot, Dv.wAnd, Dv.wOr, wIfE, wNil, wCons, wTup, wLst, wOb, Ob.d, wCall, wNoPart, wOrT, wAndT, wHead, wGetK, rIxK, wSl, wNx, Dv.wSeq, wDrop, wSortedSet, wSortedLen, wSortedPair, ↓s_all, ↓s_lc, ↓s_for, ↓s_zip, ↓s_zipS, ↓s_rng1, ↓s_rng2, ↓asZip_lst, ↓asZip_tup, ↓asStr_str, wRet, wRetN, wRetF, wSet, wOwn, wSetOb, wIf, wBk, wCt, wFn, wFnB, wFnF, wFnK, wFnFK, dEnds, dEndsF, gNm, wYes, wipeE, List.map_cons, List.map_nil, List.set_cons_zero, List.set_cons_succ, D.tru, D.len, D.items, D.seq, D.flat, D.isNon, ↓true_and, ↓and_true, ↓if_true, ↓if_false, Bool.false_eq_true, Bool.not_true, Bool.not_false])

structure Mg (mg : Str → Option Value) : Prop where
  b_len : mg "len" = none
  b_isinstance : mg "isinstance" = none
  b_int : mg "int" = none
  b_str : mg "str" = none
  b_list : mg "list" = none
  b_tuple : mg "tuple" = none
  b_range : mg "range" = none
  b_zip : mg "zip" = none
  b_abs : mg "abs" = none
  b_all : mg "all" = none
  b_bool : mg "bool" = none
  b_enumerate : mg "enumerate" = none
  c_COLORS : ∃ t, mg "COLORS" = some (.str "xyz" t)
  c_MOST_NODES : ∃ t, mg "MOST_NODES" = some (.int 200 t)
  c__DIGITS : ∃ t, mg "_DIGITS" = some (.str "0123456789" t)
section
variable {P : Program} {w : World} {K : PySem.W.Frag} {mg : Str → Option Value} {base : Heap}
def numD : D → Bool
  | .int _ => true
  | _ => false
def inD (lo hi : Int) : D → Bool
  | .int i => decide (lo ≤ i) && decide (i ≤ hi)
  | _ => false
def colorD : D → Bool
  | .str s => decide ((s.length : Int) = 1) && inS s "xyz"
  | _ => false
def emptyD : D → Bool
  | .str s => decide (s = "")
  | _ => false
def kidD (m : Int) (d : D) : Bool := d.isNon || inD 0 (m - 1) d
def nodeD (m : Int) : D → Bool
  | .tup (c :: r) => decide (r.length = 4) && ((emptyD c || colorD c) && r.all (kidD m))
  | _ => false
def sp_is_number (K : PySem.W.Frag) : DSp := fun ds n Q _ => ∃ d : D, ds = [d] ∧ d.kind K ∧ Q (.bl (numD d)) n
def sp_is_number_in (K : PySem.W.Frag) : DSp := fun ds n Q _ => ∃ (d : D) (lo hi : Int), ds = [d, .int lo, .int hi] ∧ d.kind K ∧ Q (.bl (inD lo hi d)) n
def sp_is_list (K : PySem.W.Frag) : DSp := fun ds n Q _ => ∃ d : D, ds = [d] ∧ d.kind K ∧ Q (.bl (d.isLst || d.isTup)) n
def sp_is_color (K : PySem.W.Frag) : DSp := fun ds n Q _ => ∃ d : D, ds = [d] ∧ d.kind K ∧ Q (.bl (colorD d)) n
def sp_is_index (K : PySem.W.Frag) : DSp := fun ds n Q _ => ∃ (d : D) (m : Int), ds = [d, .int m] ∧ d.kind K ∧ Q (.bl (inD 0 (m - 1) d)) n
theorem num_and (d : D) : (d.isInt && !d.isBool) = numD d := by cases d <;> rfl
abbrev s_is_number : Stmt := topS 8
theorem sc_is_number : FnScope ["value"] ["value"] (defScope s_is_number) := ⟨rfl, rfl, rfl, by decide +kernel, rfl, by decide +kernel, by decide +kernel⟩
theorem ok_is_number  {k : Nat} {f : Addr} {fd : FuncData} (M : Mg mg) (F : Fun K "is_number" "is_number" s_is_number f fd)  : FnOk P w K mg base CX0 (k + 1) f fd ["value"] (lSp K (sp_is_number K)) := by
  refine dok F sc_is_number (fun ds n Q E h => ?_) (fun cdv A outer s H E hr => ⟨_, (dss_one (ds_ret (de_and (de_bi (cd_isCK (K := K) rfl) M.b_isinstance (dab_cons (dvb 0) (dab_cons (DE.b (de_ty (T := "int") M.b_int)) dab_nil))) (de_one (de_not (DE.b (de_bi (cd_isCK (K := K) rfl) M.b_isinstance (dab_cons (dvb 0) (dab_cons (DE.b (de_ty (T := "bool") M.b_bool)) dab_nil))))))))), fun ds n Q E h => ?_⟩)
  · obtain ⟨d, rfl, _⟩ := h
    rfl
  · obtain ⟨d, rfl, hd, q⟩ := h
    walk_at "dv"
    rw [s_isC_int hd]
    walk_at "dv"
    rw [← num_and] at q
    cases e : d.isInt <;> rw [e] at q <;> simp only [Bool.false_eq_true, if_false, if_true]
    · exact q
    · rw [s_isC_bool hd]
      walk_at "dv"
      exact q
abbrev s_is_number_in : Stmt := topS 9
theorem sc_is_number_in : FnScope ["value", "low", "high"] ["value", "low", "high"] (defScope s_is_number_in) := ⟨rfl, rfl, rfl, by decide +kernel, rfl, by decide +kernel, by decide +kernel⟩
theorem ok_is_number_in  {k : Nat} {f : Addr} {fd : FuncData} (M : Mg mg) (F : Fun K "is_number_in" "is_number_in" s_is_number_in f fd)  (C_is_number : Cal P w K mg base CX0 k "is_number" ["value"] (sp_is_number K)) : FnOk P w K mg base CX0 (k + 1) f fd ["value", "low", "high"] (lSp K (sp_is_number_in K)) := by
  refine dok F sc_is_number_in (fun ds n Q E h => ?_) (fun cdv A outer s H E hr => ⟨_, (dss_one (ds_ret (de_and (de_call C_is_number hr (da_cons (dv 0) da_nil)) (de_one (de_chain od_le od_le (dvb 1) (dvb 0) (dvb 2)))))), fun ds n Q E h => ?_⟩)
  · obtain ⟨d, lo, hi, rfl, _⟩ := h
    rfl
  · obtain ⟨d, lo, hi, rfl, hd, q⟩ := h
    walk_at "dv"
    refine ⟨d, rfl, hd, ?_⟩
    walk_at "dv"
    cases d <;> first | exact q | (unfold numD; walk_at "dv"; exact q)
abbrev s_is_list : Stmt := topS 10
theorem sc_is_list : FnScope ["value"] ["value"] (defScope s_is_list) := ⟨rfl, rfl, rfl, by decide +kernel, rfl, by decide +kernel, by decide +kernel⟩
theorem ok_is_list  {k : Nat} {f : Addr} {fd : FuncData} (M : Mg mg) (F : Fun K "is_list" "is_list" s_is_list f fd)  : FnOk P w K mg base CX0 (k + 1) f fd ["value"] (lSp K (sp_is_list K)) := by
  refine dok F sc_is_list (fun ds n Q E h => ?_) (fun cdv A outer s H E hr => ⟨_, (dss_one (ds_ret (de_bi (cd_isCTK (K := K) rfl) M.b_isinstance (dab_cons (dvb 0) (dab_cons (DE.b (de_tup (da_cons (de_ty (T := "list") M.b_list) (da_cons (de_ty (T := "tuple") M.b_tuple) da_nil)))) dab_nil))))), fun ds n Q E h => ?_⟩)
  · obtain ⟨d, rfl, _⟩ := h
    rfl
  · obtain ⟨d, rfl, hd, q⟩ := h
    walk_at "dv"
    have e : ([D.ty "list", D.ty "tuple"].length ≤ sizeLine) = True := eq_true (by decide)
    simp only [e, true_and]
    rw [s_isCT hd]
    exact q
abbrev s_is_color : Stmt := topS 16
theorem sc_is_color : FnScope ["value"] ["value"] (defScope s_is_color) := ⟨rfl, rfl, rfl, by decide +kernel, rfl, by decide +kernel, by decide +kernel⟩
theorem ok_is_color  {k : Nat} {f : Addr} {fd : FuncData} (M : Mg mg) (F : Fun K "is_color" "is_color" s_is_color f fd)  : FnOk P w K mg base CX0 (k + 1) f fd ["value"] (lSp K (sp_is_color K)) := by
  refine dok F sc_is_color (fun ds n Q E h => ?_) (fun cdv A outer s H E hr => ⟨_, (dss_one (ds_ret (de_and (de_bi (cd_isCK (K := K) rfl) M.b_isinstance (dab_cons (dvb 0) (dab_cons (DE.b (de_ty (T := "str") M.b_str)) dab_nil))) (de_and (de_cmp (od_eq (hu64 hr)) (DE.b (de_bi cd_len M.b_len (dab_cons (dvb 0) dab_nil))) (DE.b de_int)) (de_one (de_cmp (od_in (hu65 hr)) (dvb 0) (DE.b (de_gstr M.c_COLORS)))))))), fun ds n Q E h => ?_⟩)
  · obtain ⟨d, rfl, _⟩ := h
    rfl
  · obtain ⟨d, rfl, hd, q⟩ := h
    walk_at "dv"
    rw [s_isC_str hd]
    cases d <;> first | exact q | (walk_at "dv"; exact q)
abbrev s_is_index : Stmt := topS 20
theorem sc_is_index : FnScope ["value", "many"] ["value", "many"] (defScope s_is_index) := ⟨rfl, rfl, rfl, by decide +kernel, rfl, by decide +kernel, by decide +kernel⟩
theorem ok_is_index  {k : Nat} {f : Addr} {fd : FuncData} (M : Mg mg) (F : Fun K "is_index" "is_index" s_is_index f fd)  (C_is_number_in : Cal P w K mg base CX0 k "is_number_in" ["value", "low", "high"] (sp_is_number_in K)) : FnOk P w K mg base CX0 (k + 1) f fd ["value", "many"] (lSp K (sp_is_index K)) := by
  refine dok F sc_is_index (fun ds n Q E h => ?_) (fun cdv A outer s H E hr => ⟨_, (dss_one (ds_ret (de_call C_is_number_in hr (da_cons (dv 0) (da_cons de_int (da_cons (de_op od_sub (dvb 1) (DE.b de_int)) da_nil)))))), fun ds n Q E h => ?_⟩)
  · obtain ⟨d, m, rfl, _⟩ := h
    rfl
  · obtain ⟨d, m, rfl, hd, q⟩ := h
    walk_at "dv"
    exact ⟨d, 0, m - 1, rfl, hd, q⟩
/-- what is_node may be asked of -/
def NodeDom (K : PySem.W.Frag) (d : D) : Prop := d.kind K ∧ ∀ xs, d = .tup xs → xs.length = 5 → ∃ c r, xs = c :: r ∧ c.kind K ∧ c.data = true ∧ c.dep ≤ 64 ∧ ∀ x ∈ r, x.kind K
def sp_is_node (K : PySem.W.Frag) : DSp := fun ds n Q _ => ∃ (d : D) (m : Int), ds = [d, .int m] ∧ NodeDom K d ∧ Q (.bl (nodeD m d)) n
theorem eqv_empty (c : D) : c.eqv (.str "") = emptyD c := by
  cases c with
  | str s => exact eqv_str
  | _ => rfl
abbrev s_is_node : Stmt := topS 21
theorem sc_is_node : FnScope ["value", "many", "child"] ["value", "many"] (defScope s_is_node) := ⟨rfl, rfl, rfl, by decide +kernel, rfl, by decide +kernel, by decide +kernel⟩
theorem ok_is_node  {k : Nat} {f : Addr} {fd : FuncData} (M : Mg mg) (F : Fun K "is_node" "is_node" s_is_node f fd)  (C_is_color : Cal P w K mg base CX0 k "is_color" ["value"] (sp_is_color K)) (C_is_index : Cal P w K mg base CX0 k "is_index" ["value", "many"] (sp_is_index K)) : FnOk P w K mg base CX0 (k + 1) f fd ["value", "many"] (lSp K (sp_is_node K)) := by
  refine dok F sc_is_node (fun ds n Q E h => ?_) (fun cdv A outer s H E hr => ⟨_, (dss_cons (ds_if (DW.t (dw_or (dt_not (dt_tru (DE.b (de_bi (cd_isCK (K := K) rfl) M.b_isinstance (dab_cons (dvb 0) (dab_cons (DE.b (de_ty (T := "tuple") M.b_tuple)) dab_nil)))))) (dw_or1 (dt_cmp (od_ne (hu64 hr)) (DE.b (de_bi cd_len M.b_len (dab_cons (dvb 0) dab_nil))) (DE.b de_int))))) (dss_one (ds_ret de_bl)) dss_nil)
      (dss_cons (ds_if (DW.t (dw_and (dt_cmp (od_ne (hu64 hr)) (DE.b (de_ix (dvb 0) (DE.b de_int))) (DE.b de_str)) (dw_and1 (dt_not (dt_tru (DE.b (de_call C_is_color hr (da_cons (de_ix (dvb 0) (DE.b de_int)) da_nil)))))))) (dss_one (ds_ret de_bl)) dss_nil)
      (dss_one (ds_ret (de_bi (cd_all rfl) M.b_all (dab_cons (DE.b (DF.toE (df_lc (own := [("child", 2)]) sc_is_node.nd (di_seq (de_slice (dvb 0) (do_some de_int) do_none)) (blkOk_by (N := ["value", "many", "child"]) (sc := defScope s_is_node) (by decide +kernel)) (fun _ _ _ _ _ => (dg_name (i := 2) sc_is_node.nd rfl (by first | exact Or.inl rfl | exact Or.inr rfl))) (fun _ _ _ _ _ => dts_nil) (fun _ _ _ _ _ => (de_or (de_cmp od_isN (dvb 2) (DE.b de_non)) (de_one (de_call C_is_index hr (da_cons (dv 2) (da_cons (dv 1) da_nil))))))))) dab_nil)))))), fun ds n Q E h => ?_⟩)
  · obtain ⟨d, m, rfl, _⟩ := h
    rfl
  · obtain ⟨d, m, rfl, ⟨hd, ht⟩, q⟩ := h
    walk_at "dv"
    rw [s_isC_tuple hd]
    cases e : d.isTup with
    | false =>
      walk_at "dv"
      cases d <;> first | exact q | cases e
    | true =>
      cases d with
      | tup xs =>
        walk_at "dv"
        by_cases hl : xs.length = 5
        · obtain ⟨c, r, rfl, hc, hcd, hcp, hr5⟩ := ht xs rfl hl
          have hr4 : r.length = 4 := by simpa using hl
          have e5 : (((c :: r).length : Nat) : Int) = 5 := by rw [hl]; rfl
          have a0 : atI (c :: r) 0 = some c := atI_nat (j := 0) rfl
          have cu : cutL (c :: r) (some 1) none = r := by
            unfold cutL
            rw [HT.sIx_none, show (some (1 : Int)) = some ((1 : Nat) : Int) from rfl, HT.sIx_nat]
            simp [hr4]
            rw [← hr4, List.take_length]
          simp only [e5, a0, cu, asSome_some, decide_true, Bool.not_true, Bool.false_eq_true, if_false]
          refine ⟨⟨hcd, rfl, hcp, Nat.zero_le _⟩, ?_⟩
          have fin : ∀ n1 : Nat, n1 = n → (emptyD c || colorD c) = true → noOwn [SD.val (D.tup (c :: r)), SD.val (D.int m), SD.un] [2] = true ∧
              LcR (gNm 2) wYes (wOrV (wOp (rIsN false) (wVarB 2) (wC D.non)) (wFn (sp_is_index K) (wCons (wVar 2) (wCons (wVar 1) wNil)))) [2] [SD.val (D.tup (c :: r)), SD.val (D.int m), SD.un] r n1 fun ds n => rAllD [D.lst ds] fun d => Q d n := by
            intro n1 en ec
            subst en
            refine ⟨rfl, lc_map (fun d => .bl (kidD m d)) ?_ ?_ fun i y hy R hR => ?_⟩
            · have := sizeLine_eq; omega
            · rw [show (r.map fun d => D.bl (kidD m d)) = (r.map (kidD m)).map D.bl by rw [List.map_map]; rfl, s_all]
              have : nodeD m (.tup (c :: r)) = r.all (kidD m) := by
                show (decide (r.length = 4) && ((emptyD c || colorD c) && r.all (kidD m))) = _
                rw [ec, hr4]
                rfl
              rw [this] at q
              rw [List.all_map]
              exact q
            · walk_at "dv"
              show (if y.isNon = true then R (.bl true) n1 else sp_is_index K [y, .int m] n1 R noE)
              unfold kidD at hR
              cases ey : y.isNon with
              | true =>
                rw [ey] at hR
                exact hR
              | false =>
                rw [ey] at hR
                exact ⟨y, m, rfl, hr5 y (List.mem_of_getElem? hy), hR⟩
          rw [eqv_empty]
          simp only [if_true, asBl_bl]
          cases ee : emptyD c with
          | true => exact fin n rfl (by rw [ee]; rfl)
          | false =>
            refine ⟨c, rfl, hc, ?_⟩
            cases ec : colorD c with
            | true => exact fin n rfl (by rw [ec, Bool.or_true])
            | false =>
              have : nodeD m (.tup (c :: r)) = false := by
                show (decide (r.length = 4) && ((emptyD c || colorD c) && r.all (kidD m))) = _
                rw [ee, ec]
                simp
              rw [this] at q
              exact q
        · have e5 : ¬ ((xs.length : Nat) : Int) = 5 := by omega
          have : nodeD m (.tup xs) = false := by
            cases xs with
            | nil => rfl
            | cons c r =>
              have : ¬ r.length = 4 := by simpa using hl
              show (decide (r.length = 4) && _) = _
              rw [decide_eq_false this]
              rfl
          rw [this] at q
          simp only [decide_eq_false e5, Bool.not_false, if_true]
          exact q
      | _ => cases e
end
end K4

set_option Elab.async false
set_option linter.all false
set_option maxRecDepth 100000
set_option maxHeartbeats 4000000
/-! k04: word_lengths -/
namespace K4
open PySem PySem.Spec PyProof.Rows L2 Dv
local macro_rules | `(tactic| walk_at "dv") => `(tactic| simp only [s_var, s_varb, s_test, s_tru, s_andv, s_orv, s_notv, s_chain, s_part, s_list, s_len, s_tuple, s_is, s_ixl, s_ixt, s_ixs, s_seqi, s_gcons, s_gnil, s_gtup, s_append, s_insert, s_enum, s_par, s_listRg, s_rng3, s_raise1, asIns_i, s_putF, s_fld, asFld_i, s_startI4, asLT_l, asLT_t, cx_K, s_reverse, s_retof, s_reto,
  asBl_bl, asInt_int, asTup_tup, asSome_some, asLst_lst, atVal_0, atVal_s, atGet_0, atGet_o, atGet_s, atOb_o, atOb_s, s_start0, s_startU, s_startV, s_add, s_addS, s_addL, s_addT, s_i2, s_ordI, s_ordS, s_isN, s_mulI, s_mulS, s_mulL, s_strip, s_inS, s_neg, s_abs, s_intI, s_intB, s_slL, s_slT, s_slS, isStr_str, s_ifand, s_ifor, s_eqS, s_eqI, s_eqB, Dv.ite_tt, Dv.ite_ff,
  wC, wOp, wMt1, Dv.wNot, Dv.wAnd, Dv.wOr, wIfE, wNil, wCons, wTup, wLst, wOb, Ob.d, wCall, wNoPart, wSl, wNx, Dv.wSeq, wDrop, wSortedSet, wSortedLen, wSortedPair, s_all, s_lc, s_for, s_zip, s_zipS, s_rng1, s_rng2, asZip_lst, asZip_tup, asStr_str, wRet, wRetN, wRetF, wSet, wOwn, wSetOb, wIf, wBk, wCt, wFn, wFnB, wFnF, wFnK, wFnFK, dEnds, dEndsF, gNm, wYes,
  wipeE, List.map_cons, List.map_nil, List.set_cons_zero, List.set_cons_succ, D.tru, D.len, D.items, D.seq, D.flat, D.isNon, true_and, and_true, if_true, if_false, Bool.false_eq_true, Bool.not_true, Bool.not_false])
local macro_rules | `(tactic| walk_at "dn") => `(tactic| simp only [↓s_var, ↓s_varb, ↓s_test, ↓s_tru, ↓s_andv, ↓s_orv, ↓s_notv, ↓s_chain, ↓s_part, ↓s_list, ↓s_rInt2, ↓s_len, ↓s_tuple, ↓s_is, ↓s_ixl, ↓s_ixt, ↓s_ixs, ↓s_seqi, ↓s_gcons, ↓s_gnil, ↓s_gtup, ↓s_append, ↓s_insert, ↓s_enum, ↓s_par, ↓s_listRg, ↓s_rng3, ↓s_raise1, ↓asIns_i, ↓s_putF, ↓s_fld, ↓asFld_i, ↓s_startI4, ↓asLT_l, ↓asLT_t, ↓cx_K, ↓s_reverse, ↓s_retof, ↓s_reto, ↓asBl_bl, ↓asInt_int, ↓asTup_tup, ↓asSome_some, ↓asLst_lst, ↓atVal_0, ↓atVal_s, ↓atGet_0, ↓atGet_o, ↓atGet_s, ↓atOb_o, ↓atOb_s, ↓s_start0, ↓s_startU, ↓s_startV, ↓s_add, ↓s_addS, ↓s_addL, ↓s_addT, ↓s_i2, ↓s_ordI, ↓s_ordS, ↓s_isN, ↓s_mulI, ↓s_mulS, ↓s_mulL, ↓s_strip, ↓s_inS, ↓s_neg, ↓s_abs, ↓s_intI, ↓s_intB, ↓s_slL, ↓s_slT, ↓s_slS, ↓isStr_str, ↓s_ifand, ↓s_ifor, ↓s_eqS, ↓s_eqI, ↓s_eqB, ↓Dv.ite_tt, ↓Dv.ite_ff, wC, wOp, wMt1, Dv.wNot, Dv.wAnd, Dv.wOr, wIfE, wNil, wCons, wTup, wLst, wOb, Ob.d, wCall, wNoPart, wOrT, wAndT, wHead, wGetK, rIxK, wSl, wNx, Dv.wSeq, wDrop, wSortedSet, wSortedLen, wSortedPair, ↓s_all, ↓s_lc, ↓s_for, ↓s_zip, ↓s_zipS, ↓s_rng1, ↓s_rng2, ↓asZip_lst, ↓asZip_tup, ↓asStr_str, wRet, wRetN, wRetF, wSet, wOwn, wSetOb, wIf, wBk, wCt, wFn, wFnB, wFnF, wFnK, wFnFK, dEnds, dEndsF, gNm, wYes, wipeE, List.map_cons, List.map_nil, List.set_cons_zero, List.set_cons_succ, D.tru, D.len, D.items, D.seq, D.flat, D.isNon, ↓true_and, ↓and_true, ↓if_true, ↓if_false, Bool.false_eq_true, Bool.not_true, Bool.not_false])

section
variable {P : Program} {w : World} {K : PySem.W.Frag} {mg : Str → Option Value} {base : Heap}
/-- a length, or none yet -/
def LenOk (d : D) : Prop := d = .non ∨ ∃ i : Int, d = .int i
def sp_word_lengths : DSpF := fun ds n Q _ => ∃ xs : List Nd, ds = [.lst (xs.map ndD)] ∧ xs.length ≤ 100000 ∧ (∀ x ∈ xs, NdOk xs.length x) ∧ ∀ ls : List D, ls.length = xs.length → (∀ d ∈ ls, LenOk d) → Q (.lst ls) n
def nones (ls : List D) : Nat := ls.countP D.isNon
theorem arrows_snd {i : Nat} {ks : List (Option Nat)} {e : Nat × Nat} (h : e ∈ arrows i ks) : e.2 = i := by
  unfold arrows at h
  obtain ⟨o, _, h⟩ := List.mem_filterMap.1 h
  cases o with
  | none => cases h
  | some k => cases h; rfl
theorem all_snd : ∀ {xs : List Nd} {i : Nat} {e : Nat × Nat}, e ∈ allArrows xs i → e.2 < i + xs.length
  | [], i, e, h => by cases h
  | x :: xs, i, e, h => by
    rcases List.mem_append.1 h with h | h
    · rw [arrows_snd h, List.length_cons]; omega
    · have := all_snd h
      rw [List.length_cons]
      omega
theorem parts_lt {xs : List Nd} {k j : Nat} {z : Int} (h : (parts (allArrows xs 0) k)[j]? = some z) : ∃ u : Nat, z = (u : Nat) ∧ u < xs.length := by
  unfold parts at h
  rw [List.getElem?_map] at h
  obtain ⟨e, he, rfl⟩ := Option.map_eq_some_iff.1 h
  have := all_snd (List.mem_filter.1 (List.mem_of_getElem? he)).1
  exact ⟨e.2, rfl, by omega⟩
theorem count_set (p : D → Bool) (d : D) (hd : p d = false) : ∀ {ls : List D} {k : Nat} {x : D}, ls[k]? = some x → p x = true → (ls.set k d).countP p + 1 = ls.countP p
  | y :: ls, 0, x, h, hp => by
    cases h
    rw [List.set_cons_zero, List.countP_cons_of_neg (by rw [hd]; exact Bool.false_ne_true), List.countP_cons_of_pos hp]
  | y :: ls, k + 1, x, h, hp => by
    have := count_set p d hd (ls := ls) (k := k) h hp
    rw [List.set_cons_succ]
    by_cases e : p y = true
    · rw [List.countP_cons_of_pos e, List.countP_cons_of_pos e]; omega
    · rw [List.countP_cons_of_neg e, List.countP_cons_of_neg e]; exact this
theorem nones_set {ls : List D} {k : Nat} {i : Int} (h : ls[k]? = some .non) : nones (ls.set k (.int i)) + 1 = nones ls := count_set _ _ rfl h rfl
def FrOk (ls : List D) (d : D) : Prop := ∃ (k : Nat) (z : Int), d = .int k ∧ ls[k]? = some (.int z)
theorem FrOk.set {ls : List D} {d : D} {u : Nat} {z : Int} (h : FrOk ls d) : FrOk (ls.set u (.int z)) d := by
  obtain ⟨k, y, rfl, e⟩ := h
  by_cases hk : u = k
  · subst hk
    exact ⟨u, z, rfl, by rw [List.getElem?_set_self (List.getElem?_eq_some_iff.1 e).1]⟩
  · exact ⟨k, y, rfl, by rw [List.getElem?_set_ne hk]; exact e⟩
theorem LenOk.set {ls : List D} {u : Nat} {z : Int} (h : ∀ d ∈ ls, LenOk d) : ∀ d ∈ ls.set u (.int z), LenOk d := fun d hd => by
  rcases List.mem_or_eq_of_mem_set hd with m | m
  · exact h d m
  · exact .inr ⟨z, m⟩
def lenF : D → D
  | .tup (.str s :: _) => if s = "" then .non else .int 0
  | _ => .non
theorem ixN_nat {n k : Nat} (h : k < n) : ixN n (k : Int) = some k := by
  unfold ixN
  rw [if_pos (by omega), if_pos (by omega), Int.toNat_natCast]
theorem atI_k {xs : List D} {k : Nat} {d : D} (h : xs[k]? = some d) : atI xs (k : Int) = some d := atI_nat h
/-- the state within a round -/
structure Wl (N : Nat) (fr : List D) (m0 : Nat) (ls fs : List D) : Prop where
  len : ls.length = N
  ok : ∀ d ∈ ls, LenOk d
  hfr : ∀ d ∈ fr, FrOk ls d
  hfs : ∀ d ∈ fs, FrOk ls d
  le : nones ls + fs.length ≤ m0
abbrev s_word_lengths : Stmt := topS 28
theorem sc_word_lengths : FnScope ["net", "parents", "lengths", "front", "further", "at", "node", "parent"] ["net"] (defScope s_word_lengths) := ⟨rfl, rfl, rfl, by decide +kernel, rfl, by decide +kernel, by decide +kernel⟩
theorem ok_word_lengths  {k : Nat} {f : Addr} {fd : FuncData} (M : Mg mg) (F : Fun K "word_lengths" "word_lengths" s_word_lengths f fd)  (C_parents_of : CalF P w K mg base CX0 k "parents_of" ["net"] sp_parents_of) : FnOk P w K mg base CX0 (k + 1) f fd ["net"] (lSpF K sp_word_lengths) := by
  refine dokF F sc_word_lengths (fun ds n Q E h => ?_) (fun cdv A outer s H E hr => ⟨_, (dss_cons (ds_set (i := 1) sc_word_lengths.nd rfl (by first | exact Or.inl rfl | exact Or.inr rfl) (DF.toE (df_call C_parents_of hr (da_cons (dv 0) da_nil))))
      (dss_cons (ds_ownLc (i := 2) (own := [("node", 6)]) sc_word_lengths.nd rfl rfl (sw_true rfl rfl rfl (by decide +kernel)) (di_seq (dv 0)) (blkOk_by (N := ["net", "parents", "lengths", "front", "further", "at", "node", "parent"]) (sc := defScope s_word_lengths) (by decide +kernel)) (fun _ _ _ _ _ => (dg_name (i := 6) sc_word_lengths.nd rfl (by first | exact Or.inl rfl | exact Or.inr rfl))) (fun _ _ _ _ _ => dts_nil) (fun _ _ _ _ _ => (de_if (dt_cmp (od_eq (hu64 hr)) (DE.b (de_ix (dvb 6) (DE.b de_int))) (DE.b de_str)) de_non de_int)))
      (dss_cons (ds_setLc (i := 3) (own := [("at", 5), ("node", 6)]) sc_word_lengths.nd rfl rfl (sw_true rfl rfl rfl (by decide +kernel)) (Et.di_enum M.b_enumerate (da_cons (dv 0) da_nil)) (blkOk_by (N := ["net", "parents", "lengths", "front", "further", "at", "node", "parent"]) (sc := defScope s_word_lengths) (by decide +kernel)) (fun _ _ _ _ _ => (dg_tup (k := 2) (dgs_name (i := 5) sc_word_lengths.nd rfl (by first | exact Or.inl rfl | exact Or.inr rfl) (dgs_name (i := 6) sc_word_lengths.nd rfl (by first | exact Or.inl rfl | exact Or.inr rfl) dgs_nil)))) (fun _ _ _ _ _ => (dts_one (dt_cmp (od_ne (hu64 hr)) (DE.b (de_ix (dvb 6) (DE.b de_int))) (DE.b de_str)))) (fun _ _ _ _ _ => (dv 5)))
      (dss_cons (ds_while (dt_tru (dvb 3)) (dss_cons (ds_own (i := 4) sc_word_lengths.nd rfl (by first | exact Or.inl rfl | exact Or.inr rfl) (df_lst da_nil))
      (dss_cons (ds_for (vs := [5]) (di_seq (dv 3)) (dg_name (i := 5) sc_word_lengths.nd rfl (by first | exact Or.inl rfl | exact Or.inr rfl)) (dss_one (ds_for (vs := [7]) (di_seq (de_ix (dvb 1) (dvb 5))) (dg_name (i := 7) sc_word_lengths.nd rfl (by first | exact Or.inl rfl | exact Or.inr rfl)) (dss_one (ds_if (dt_cmp od_isN (DE.b (de_ix (dvb 2) (dvb 7))) (DE.b de_non)) (dss_cons (ds_putI 2 (dv 7) (de_op od_add (DE.b (de_ix (dvb 2) (dvb 5))) (DE.b de_int)))
      (dss_one (ds_append 4 (dv 7)))) dss_nil)))))
      (dss_one (ds_frz 4 (ds_set (i := 3) sc_word_lengths.nd rfl (by first | exact Or.inl rfl | exact Or.inr rfl) (dv 4)))))))
      (dss_one (ds_retOF 2)))))), fun ds n Q E h => ?_⟩)
  · obtain ⟨xs, rfl, _⟩ := h
    rfl
  · obtain ⟨xs, rfl, hl, hx, q⟩ := h
    walk_at "dv"
    refine ⟨xs, rfl, hl, hx, ?_⟩
    refine ⟨rfl, lc_map lenF ?_ ?_ fun i y hy R hR => ?_⟩
    · rw [List.length_map]; have := sizeLine_eq; omega
    · have l0 : ((xs.map ndD).map lenF).length = xs.length := by rw [List.length_map, List.length_map]
      refine ⟨rfl, fun i ds n' => n' = n ∧ ds.length ≤ i ∧ ∀ d ∈ ds, FrOk ((xs.map ndD).map lenF) d, ⟨rfl, Nat.le_refl _, fun d hd => nomatch hd⟩, ?_, ?_⟩
      · rintro fr0 n' ⟨en, _, hfr⟩
        refine ⟨fun m env n2 => n2 = n ∧ ∃ (ls fr : List D) (e4 e5 e6 e7 : SD), env = [.val (.lst (xs.map ndD)), .val (.lst (parentsD xs)), .own (.lst ls), .val (.lst fr), e4, e5, e6, e7] ∧ Wl xs.length fr (nones ls) ls [] ∧ m = 2 * nones ls + (if fr.isEmpty = true then 0 else 1), ⟨_, en, _, _, _, _, _, _, rfl, ⟨l0, ?_, hfr, fun d hd => (nomatch hd), Nat.le_refl _⟩, rfl⟩, ?_⟩
        · intro d hd
          obtain ⟨y, _, rfl⟩ := List.mem_map.1 hd
          unfold lenF
          split
          · split
            · exact .inl rfl
            · exact .inr ⟨0, rfl⟩
          · exact .inl rfl
        · rintro m env n2 ⟨en2, ls, fr, e4, e5, e6, e7, rfl, W, em⟩
          walk_at "dv"
          cases efr : fr.isEmpty with
          | true =>
            walk_at "dv"
            rw [en2]
            exact q ls W.len W.ok
          | false =>
            walk_at "dv"
            have e0 : ([] : List D).length ≤ sizeLine := Nat.zero_le _
            refine ⟨e0, fun j env n3 => n3 = n ∧ ∃ (ls' fs : List D) (e5 e6 e7 : SD), env = [.val (.lst (xs.map ndD)), .val (.lst (parentsD xs)), .own (.lst ls'), .val (.lst fr), .own (.lst fs), e5, e6, e7] ∧ Wl xs.length fr (nones ls) ls' fs, ⟨en2, _, _, _, _, _, rfl, W⟩, ?_, ?_⟩
            · rintro env n3 ⟨en3, ls', fs, e5, e6, e7, rfl, W'⟩
              show ∃ m', m' < m ∧ n3 = n ∧ ∃ (ls2 fr2 : List D) (e4 e5' e6' e7' : SD), ([.val (.lst (xs.map ndD)), .val (.lst (parentsD xs)), .own (.lst ls'), .val (.lst fs), .val (.lst fs), e5, e6, e7] : En) = [.val (.lst (xs.map ndD)), .val (.lst (parentsD xs)), .own (.lst ls2), .val (.lst fr2), e4, e5', e6', e7'] ∧ Wl xs.length fr2 (nones ls2) ls2 [] ∧ m' = 2 * nones ls2 + (if fr2.isEmpty = true then 0 else 1)
              refine ⟨2 * nones ls' + (if fs.isEmpty = true then 0 else 1), ?_, en3, ls', fs, _, _, _, _, rfl, ⟨W'.len, W'.ok, W'.hfs, fun d hd => (nomatch hd), Nat.le_refl _⟩, rfl⟩
              have hle := W'.le
              rw [em, efr, if_neg Bool.false_ne_true]
              cases fs with
              | nil =>
                show 2 * nones ls' + 0 < 2 * nones ls + 1
                rw [List.length_nil] at hle
                omega
              | cons x fs =>
                show 2 * nones ls' + 1 < 2 * nones ls + 1
                rw [List.length_cons] at hle
                omega
            · rintro j y env n3 hy ⟨en3, ls', fs, e5, e6, e7, rfl, W'⟩
              obtain ⟨k, z, rfl, hk⟩ := W'.hfr y (List.mem_of_getElem? hy)
              have hkl : k < xs.length := by rw [← W'.len]; exact (List.getElem?_eq_some_iff.1 hk).1
              have hp : atI (parentsD xs) (k : Int) = some (.lst ((parts (allArrows xs 0) k).map .int)) := atI_k (by
                unfold parentsD
                rw [List.getElem?_map, List.getElem?_range hkl]
                rfl)
              walk_at "dv"
              simp only [hp, asSome_some, D.seq]
              refine ⟨fun i env n3 => n3 = n ∧ ∃ (ls' fs : List D) (e6 e7 : SD), env = [.val (.lst (xs.map ndD)), .val (.lst (parentsD xs)), .own (.lst ls'), .val (.lst fr), .own (.lst fs), .val (.int (k : Nat)), e6, e7] ∧ Wl xs.length fr (nones ls) ls' fs ∧ fs.length ≤ nones ls, ⟨en3, _, _, _, _, rfl, W', by have := W'.le; omega⟩, ?_, ?_⟩
              · rintro env n4 ⟨en4, ls2, fs2, e6, e7, rfl, W2, _⟩
                exact ⟨en4, ls2, fs2, _, _, _, rfl, W2⟩
              · rintro i y env n4 hy2 ⟨en4, ls2, fs2, e6, e7, rfl, W2, hz⟩
                rw [List.getElem?_map] at hy2
                obtain ⟨zz, hzz, rfl⟩ := Option.map_eq_some_iff.1 hy2
                obtain ⟨u, rfl, hu⟩ := parts_lt hzz
                have hul : u < ls2.length := by rw [W2.len]; exact hu
                have hd : ls2[u]? = some ls2[u] := List.getElem?_eq_getElem hul
                obtain ⟨z2, hk2⟩ : ∃ z2 : Int, ls2[k]? = some (.int z2) := by
                  obtain ⟨k', z', e', h'⟩ := W2.hfr (.int k) (List.mem_of_getElem? hy)
                  have : k = k' := by have := D.int.inj e'; omega
                  subst this
                  exact ⟨z', h'⟩
                walk_at "dv"
                simp only [atI_k hd, atI_k hk2, asSome_some]
                rcases W2.ok _ (List.mem_of_getElem? hd) with hn | ⟨z3, hn⟩
                · rw [hn] at hd ⊢
                  refine ⟨_, rfl, ?_⟩
                  walk_at "dv"
                  simp only [atI_k hk2, asSome_some]
                  walk_at "dv"
                  have hn0 : nones ls ≤ ls.length := List.countP_le_length
                  have hns := nones_set (i := z2 + 1) hd
                  have hle := W2.le
                  refine ⟨u, u, rfl, ixN_nat hul, ?_⟩
                  refine ⟨?_, en4, _, _, _, _, rfl, ⟨by rw [List.length_set]; exact W2.len, LenOk.set W2.ok, fun d hd => (W2.hfr d hd).set, fun d hd => ?_, ?_⟩, ?_⟩
                  · have := sizeLine_eq
                    have := W.len
                    omega
                  · rcases List.mem_append.1 hd with m | m
                    · exact (W2.hfs d m).set
                    · rw [List.mem_singleton] at m
                      subst m
                      exact ⟨u, z2 + 1, rfl, List.getElem?_set_self hul⟩
                  · rw [List.length_append, List.length_singleton]; omega
                  · rw [List.length_append, List.length_singleton]; omega
                · rw [hn]
                  exact ⟨en4, ls2, fs2, _, _, rfl, W2, hz⟩
      · rintro i y ds n2 hy ⟨en, hdl, hds⟩
        have hi : i < xs.length := by
          have := (List.getElem?_eq_some_iff.1 hy).1
          rw [Et.enumD_len, List.length_map] at this
          exact this
        have hx0 : xs[i]? = some xs[i] := List.getElem?_eq_getElem hi
        have hy0 := Et.enumD_get (show (xs.map ndD)[i]? = some (ndD xs[i]) by rw [List.getElem?_map, hx0]; rfl)
        rw [hy0] at hy
        cases hy
        have a0 : ∀ z, atI (.str z :: xs[i].2.map kD) 0 = some (.str z) := fun z => atI_k (k := 0) rfl
        walk_at "dv"
        refine ⟨rfl, ?_⟩
        rw [show ndD xs[i] = D.tup (.str xs[i].1 :: xs[i].2.map kD) from rfl, s_ixt, a0, asSome_some]
        walk_at "dv"
        by_cases ex : xs[i].1 = ""
        · rw [if_neg (by rw [decide_eq_true ex]; exact Bool.false_ne_true)]
          exact ⟨en, by omega, hds⟩
        · rw [if_pos (by rw [decide_eq_false ex]; rfl)]
          refine ⟨by have := sizeLine_eq; omega, en, by rw [List.length_append, List.length_singleton]; omega, fun d hd => ?_⟩
          rcases List.mem_append.1 hd with m | m
          · exact hds d m
          · rw [List.mem_singleton] at m
            subst m
            refine ⟨i, 0, rfl, ?_⟩
            rw [List.getElem?_map, List.getElem?_map, hx0]
            show some (lenF (ndD xs[i])) = _
            unfold lenF ndD
            simp only [if_neg ex]
    · rw [List.getElem?_map] at hy
      obtain ⟨x, hx0, rfl⟩ := Option.map_eq_some_iff.1 hy
      have a0 : ∀ z, atI (.str z :: x.2.map kD) 0 = some (.str z) := fun z => atI_k (k := 0) rfl
      walk_at "dv"
      rw [show ndD x = D.tup (.str x.1 :: x.2.map kD) from rfl, s_ixt, a0, asSome_some]
      walk_at "dv"
      have e : lenF (ndD x) = if x.1 = "" then .non else .int 0 := rfl
      rw [e] at hR
      by_cases ex : x.1 = ""
      · rw [if_pos ex] at hR
        rw [if_pos (decide_eq_true ex)]
        exact hR
      · rw [if_neg ex] at hR
        rw [if_neg (by rw [decide_eq_false ex]; exact Bool.false_ne_true)]
        exact hR
end
end K4

set_option Elab.async false
set_option linter.all false
set_option maxRecDepth 100000
set_option maxHeartbeats 4000000
/-! k04: the class Book -/
namespace K4
open PySem PySem.Spec PyProof.Rows L2 Dv Ke
local macro_rules | `(tactic| walk_at "dv") => `(tactic| simp only [s_var, s_varb, s_test, s_tru, s_andv, s_orv, s_notv, s_chain, s_part, s_list, s_len, s_tuple, s_is, s_ixl, s_ixt, s_ixs, s_seqi, s_gcons, s_gnil, s_gtup, s_append, s_insert, s_enum, s_par, s_listRg, s_rng3, s_raise1, asIns_i, s_putF, s_fld, asFld_i, s_startI4, asLT_l, asLT_t, cx_K, s_reverse, s_retof, s_reto,
  asBl_bl, asInt_int, asTup_tup, asSome_some, asLst_lst, atVal_0, atVal_s, atGet_0, atGet_o, atGet_s, atOb_o, atOb_s, s_start0, s_startU, s_startV, s_add, s_addS, s_addL, s_addT, s_i2, s_ordI, s_ordS, s_isN, s_mulI, s_mulS, s_mulL, s_strip, s_inS, s_neg, s_abs, s_intI, s_intB, s_slL, s_slT, s_slS, isStr_str, s_ifand, s_ifor, s_eqS, s_eqI, s_eqB, Dv.ite_tt, Dv.ite_ff,
  wC, wOp, wMt1, Dv.wNot, Dv.wAnd, Dv.wOr, wIfE, wNil, wCons, wTup, wLst, wOb, Ob.d, wCall, wNoPart, wSl, wNx, Dv.wSeq, wDrop, wSortedSet, wSortedLen, wSortedPair, s_all, s_lc, s_for, s_zip, s_zipS, s_rng1, s_rng2, asZip_lst, asZip_tup, asStr_str, wRet, wRetN, wRetF, wSet, wOwn, wSetOb, wIf, wBk, wCt, wFn, wFnB, wFnF, wFnK, wFnFK, dEnds, dEndsF, gNm, wYes,
  wipeE, List.map_cons, List.map_nil, List.set_cons_zero, List.set_cons_succ, D.tru, D.len, D.items, D.seq, D.flat, D.isNon, true_and, and_true, if_true, if_false, Bool.false_eq_true, Bool.not_true, Bool.not_false])
local macro_rules | `(tactic| walk_at "dn") => `(tactic| simp only [↓s_var, ↓s_varb, ↓s_test, ↓s_tru, ↓s_andv, ↓s_orv, ↓s_notv, ↓s_chain, ↓s_part, ↓s_list, ↓s_rInt2, ↓s_len, ↓s_tuple, ↓s_is, ↓s_ixl, ↓s_ixt, ↓s_ixs, ↓s_seqi, ↓s_gcons, ↓s_gnil, ↓s_gtup, ↓s_append, ↓s_insert, ↓s_enum, ↓s_par, ↓s_listRg, ↓s_rng3, ↓s_raise1, ↓asIns_i, ↓s_putF, ↓s_fld, ↓asFld_i, ↓s_startI4, ↓asLT_l, ↓asLT_t, ↓cx_K, ↓s_reverse, ↓s_retof, ↓s_reto, ↓asBl_bl, ↓asInt_int, ↓asTup_tup, ↓asSome_some, ↓asLst_lst, ↓atVal_0, ↓atVal_s, ↓atGet_0, ↓atGet_o, ↓atGet_s, ↓atOb_o, ↓atOb_s, ↓s_start0, ↓s_startU, ↓s_startV, ↓s_add, ↓s_addS, ↓s_addL, ↓s_addT, ↓s_i2, ↓s_ordI, ↓s_ordS, ↓s_isN, ↓s_mulI, ↓s_mulS, ↓s_mulL, ↓s_strip, ↓s_inS, ↓s_neg, ↓s_abs, ↓s_intI, ↓s_intB, ↓s_slL, ↓s_slT, ↓s_slS, ↓isStr_str, ↓s_ifand, ↓s_ifor, ↓s_eqS, ↓s_eqI, ↓s_eqB, ↓Dv.ite_tt, ↓Dv.ite_ff, wC, wOp, wMt1, Dv.wNot, Dv.wAnd, Dv.wOr, wIfE, wNil, wCons, wTup, wLst, wOb, Ob.d, wCall, wNoPart, wOrT, wAndT, wHead, wGetK, rIxK, wSl, wNx, Dv.wSeq, wDrop, wSortedSet, wSortedLen, wSortedPair, ↓s_all, ↓s_lc, ↓s_for, ↓s_zip, ↓s_zipS, ↓s_rng1, ↓s_rng2, ↓asZip_lst, ↓asZip_tup, ↓asStr_str, wRet, wRetN, wRetF, wSet, wOwn, wSetOb, wIf, wBk, wCt, wFn, wFnB, wFnF, wFnK, wFnFK, dEnds, dEndsF, gNm, wYes, wipeE, List.map_cons, List.map_nil, List.set_cons_zero, List.set_cons_succ, D.tru, D.len, D.items, D.seq, D.flat, D.isNon, ↓true_and, ↓and_true, ↓if_true, ↓if_false, Bool.false_eq_true, Bool.not_true, Bool.not_false])

section
variable {P : Program} {w : World} {K : PySem.W.Frag} {mg : Str → Option Value} {base : Heap}
abbrev sIniN : Stmt := inClass (topS 4) 0
theorem scIniN : FnScope ["self", "at"] ["self", "at"] (defScope sIniN) := ⟨rfl, rfl, rfl, by decide +kernel, rfl, by decide +kernel, by decide +kernel⟩
theorem ok_iniN {f C : Addr} {fd : FuncData} (F : Fun K "__init__" "InvalidNode.__init__" sIniN f fd) (xc : XCl K C) (att : ∀ f ∈ (["at"] : List Str), PySem.W.findIn K (.ref C) f = some none) : FnOk P w K mg base CX0 1 f fd ["self", "at"] (spCtor K C ["at"]) := by
  refine F.ok scIniN (fun vs H Q E h => ?_) (fun cdv A outer s' H vs Q E hr h => ?_)
  · obtain ⟨a, xs, rfl, hl, _⟩ := h
    rw [List.length_cons, hl]
    rfl
  · obtain ⟨a, xs, rfl, hl, ha, _, q⟩ := h
    match xs, hl with
    | [x0], _ =>
      refine ⟨_, pss_one (ps_att (pv 0) (pv 1)), ?_⟩
      refine ⟨x0, rfl, .ref a, rfl, a, C, rfl, xc, att _ (by decide), .inl ⟨ha, fun dx nd ne => ?_⟩⟩
      exact q (by decide) _ dx nd ne (fun b ba bd => by rw [upd_ne ba, upd_ne bd]) upd_same (by rw [upd_ne ne]; exact upd_same)
abbrev sIniM : Stmt := inClass (topS 6) 0
theorem scIniM : FnScope ["self", "count"] ["self", "count"] (defScope sIniM) := ⟨rfl, rfl, rfl, by decide +kernel, rfl, by decide +kernel, by decide +kernel⟩
theorem ok_iniM {f C : Addr} {fd : FuncData} (F : Fun K "__init__" "TooMany.__init__" sIniM f fd) (xc : XCl K C) (att : ∀ f ∈ (["count"] : List Str), PySem.W.findIn K (.ref C) f = some none) : FnOk P w K mg base CX0 1 f fd ["self", "count"] (spCtor K C ["count"]) := by
  refine F.ok scIniM (fun vs H Q E h => ?_) (fun cdv A outer s' H vs Q E hr h => ?_)
  · obtain ⟨a, xs, rfl, hl, _⟩ := h
    rw [List.length_cons, hl]
    rfl
  · obtain ⟨a, xs, rfl, hl, ha, _, q⟩ := h
    match xs, hl with
    | [x0], _ =>
      refine ⟨_, pss_one (ps_att (pv 0) (pv 1)), ?_⟩
      refine ⟨x0, rfl, .ref a, rfl, a, C, rfl, xc, att _ (by decide), .inl ⟨ha, fun dx nd ne => ?_⟩⟩
      exact q (by decide) _ dx nd ne (fun b ba bd => by rw [upd_ne ba, upd_ne bd]) upd_same (by rw [upd_ne ne]; exact upd_same)
end
section
variable {P : Program} {w : World} {K : PySem.W.Frag} {mg : Str → Option Value} {base : Heap} (CN CM : Addr)
/-- what a made book or a refusal comes to -/
inductive Res where
  | node (i : Int)
  | many (i : Int)
  | made (xs : List D)
def itsD : D → List D
  | .lst xs => xs
  | .tup xs => xs
  | _ => []
def firstBad (m : Int) : List D → Nat → Option Nat
  | [], _ => none
  | x :: r, i => if nodeD m x then firstBad m r (i + 1) else some i
def resD (d : D) : Res :=
  if (d.isLst || d.isTup) = false ∨ (itsD d).length = 0 then .node (-1)
  else if 200 < (itsD d).length then .many (itsD d).length
  else match firstBad (itsD d).length (itsD d) 0 with
    | some i => .node i
    | none => .made (itsD d)
/-- what Book may be asked of -/
def BookDom (K : PySem.W.Frag) (d : D) : Prop := d.kind K ∧ (itsD d).length ≤ 100000 ∧ ∀ x ∈ (itsD d), NodeDom K x
def sp_Book___init__ (K : PySem.W.Frag) : DSpI := fun ds n Q E => ∃ d : D, ds = [d] ∧ BookDom K d ∧ match resD d with
  | .node i => E ⟨CN, some [("at", .int i)]⟩ n
  | .many i => E ⟨CM, some [("count", .int i)]⟩ n
  | .made xs => ∀ ls : List D, ls.length = xs.length → (∀ x ∈ ls, LenOk x) → Q [("_nodes", .lst xs), ("_lengths", .lst ls)] n
theorem kid_nat {m : Int} {d : D} (h : kidD m d = true) : ∃ o : Option Nat, d = kD o ∧ ∀ k, o = some k → (k : Int) < m := by
  unfold kidD at h
  rw [Bool.or_eq_true] at h
  rcases h with h | h
  · cases d <;> first | exact ⟨none, rfl, fun k e => nomatch e⟩ | cases h
  · cases d with
    | int i =>
      have h' : (decide (0 ≤ i) && decide (i ≤ m - 1)) = true := h
      rw [Bool.and_eq_true, decide_eq_true_eq, decide_eq_true_eq] at h'
      refine ⟨some i.toNat, ?_, fun k e => ?_⟩
      · show D.int i = .int ((i.toNat : Nat) : Int)
        rw [Int.toNat_of_nonneg h'.1]
      · cases e; omega
    | _ => cases h
theorem kids_nat {m : Int} : ∀ {r : List D}, r.all (kidD m) = true → ∃ ks : List (Option Nat), r = ks.map kD ∧ ∀ k, some k ∈ ks → (k : Int) < m
  | [], _ => ⟨[], rfl, fun k h => nomatch h⟩
  | d :: r, h => by
    rw [List.all_cons, Bool.and_eq_true] at h
    obtain ⟨o, e1, h1⟩ := kid_nat h.1
    obtain ⟨ks, e2, h2⟩ := kids_nat h.2
    refine ⟨o :: ks, by rw [e1, e2]; rfl, fun k hk => ?_⟩
    rcases List.mem_cons.1 hk with hk | hk
    · exact h1 k hk.symm
    · exact h2 k hk
theorem node_nd {m : Nat} {d : D} (h : nodeD (m : Int) d = true) : ∃ x : Nd, d = ndD x ∧ NdOk m x := by
  cases d with
  | tup xs =>
    cases xs with
    | nil => cases h
    | cons c r =>
      have h' : (decide (r.length = 4) && ((emptyD c || colorD c) && r.all (kidD m))) = true := h
      rw [Bool.and_eq_true, Bool.and_eq_true, decide_eq_true_eq] at h'
      obtain ⟨h4, hc, hr⟩ := h'
      obtain ⟨ks, e, hk⟩ := kids_nat hr
      have hs : ∃ z, c = .str z := by
        cases c <;> first | exact ⟨_, rfl⟩ | cases hc
      obtain ⟨z, rfl⟩ := hs
      refine ⟨(z, ks), by rw [e]; rfl, ?_, fun k hkm => ?_⟩
      · rw [e, List.length_map] at h4; exact h4
      · have := hk k hkm; omega
  | _ => cases h
theorem nodes_nd {m : Nat} : ∀ {xs : List D} {i : Nat}, firstBad (m : Int) xs i = none → ∃ ns : List Nd, xs = ns.map ndD ∧ ∀ x ∈ ns, NdOk m x
  | [], _, _ => ⟨[], rfl, fun x h => nomatch h⟩
  | d :: xs, i, h => by
    unfold firstBad at h
    split at h
    · rename_i hd
      obtain ⟨x, e1, h1⟩ := node_nd hd
      obtain ⟨ns, e2, h2⟩ := nodes_nd h
      refine ⟨x :: ns, by rw [e1, e2]; rfl, fun y hy => ?_⟩
      rcases List.mem_cons.1 hy with hy | hy
      · rw [hy]; exact h1
      · exact h2 y hy
    · cases h
abbrev s_Book___init__ : Stmt := inClass (topS 31) 0
theorem sc_Book___init__ : FnScope ["self", "nodes", "at", "node"] ["self", "nodes"] (defScope s_Book___init__) := ⟨rfl, rfl, rfl, by decide +kernel, rfl, by decide +kernel, by decide +kernel⟩
theorem ok_Book___init__ {C CInvalidNode CTooMany : Addr} {k : Nat} {f : Addr} {fd : FuncData} (hk : 2 ≤ k) (M : Mg mg) (F : Fun K "__init__" "Book.__init__" s_Book___init__ f fd)  (T : Cls K C) (N__nodes : NoAttr K C "_nodes") (N__lengths : NoAttr K C "_lengths") (O_InvalidNode : CtorOk P w K mg base "InvalidNode" CInvalidNode ["at"]) (O_TooMany : CtorOk P w K mg base "TooMany" CTooMany ["count"]) (C_is_list : Cal P w K mg base CX0 k "is_list" ["value"] (sp_is_list K)) (C_is_node : Cal P w K mg base CX0 k "is_node" ["value", "many"] (sp_is_node K)) (C_word_lengths : CalF P w K mg base CX0 k "word_lengths" ["net"] sp_word_lengths) : FnOk P w K mg base (L2.CX P w) (k + 1) f fd ["self", "nodes"] (lSpI K C (sp_Book___init__ CInvalidNode CTooMany K)) := by
  refine dokI F sc_Book___init__ (by decide) (fun ds n Q E h => ?_) (fun cdv A outer s H E hr => ⟨_, (dss_cons (ds_if (DW.t (dw_or (dt_not (dt_tru (DE.b (de_call C_is_list hr (da_cons (dv 1) da_nil))))) (dw_or1 (dt_cmp (od_eq (hu64 hr)) (DE.b (de_bi cd_len M.b_len (dab_cons (dvb 1) dab_nil))) (DE.b de_int))))) (dss_one (ds_raise O_InvalidNode takesX (hr.mono (by omega)) (da_cons (de_neg (DE.b de_int)) da_nil))) dss_nil)
      (dss_cons (ds_if (dt_cmp od_gt (DE.b (de_bi cd_len M.b_len (dab_cons (dvb 1) dab_nil))) (DE.b (de_gint M.c_MOST_NODES))) (dss_one (ds_raise O_TooMany takesX (hr.mono (by omega)) (da_cons (de_bi cd_len M.b_len (dab_cons (dvb 1) dab_nil)) da_nil))) dss_nil)
      (dss_cons (ds_for (vs := [2, 3]) (Et.di_enum M.b_enumerate (da_cons (dv 1) da_nil)) (dg_tup (k := 2) (dgs_name (i := 2) sc_Book___init__.nd rfl (by first | exact Or.inl rfl | exact Or.inr rfl) (dgs_name (i := 3) sc_Book___init__.nd rfl (by first | exact Or.inl rfl | exact Or.inr rfl) dgs_nil))) (dss_one (ds_if (dt_not (dt_tru (DE.b (de_call C_is_node hr (da_cons (dv 3) (da_cons (de_bi cd_len M.b_len (dab_cons (dvb 1) dab_nil)) da_nil)))))) (dss_one (ds_raise O_InvalidNode takesX (hr.mono (by omega)) (da_cons (dv 2) da_nil))) dss_nil)) (hp := passes_of rfl))
      (dss_cons (ds_putF 0 T N__nodes (DF.toE (df_list M.b_list (dab_cons (dvb 1) dab_nil))))
      (dss_one (ds_putF 0 T N__lengths (DF.toE (df_call C_word_lengths hr (da_cons (de_fld T N__nodes (dvb 0)) da_nil))))))))), fun ds n Q E h y => ?_⟩)
  · obtain ⟨d, rfl, _⟩ := h
    rfl
  · obtain ⟨d, rfl, ⟨hd, hl, hx⟩, q⟩ := h
    walk_at "dv"
    refine ⟨d, rfl, hd, ?_⟩
    have fin : ∀ (xs : List D) (n1 : Nat), n1 = n → itsD d = xs → D.len d = some xs.length → D.items d = some xs → ¬ xs.length = 0 → ¬ 200 < xs.length → (d.isLst || d.isTup) = true →
        ForR (gTp 2 (gsName 2 (gsName 3 gsNil))) (wIf (Dv.wNot (Dv.wTru (wFn (sp_is_node K) (wCons (wVar 3) (wCons (wCall rLenD (wCons (wVarB 1) wNil)) wNil))))) (wRaise CInvalidNode ["at"] (wCons (wVar 2) wNil)) wNx) (Et.enumD xs)
          { nx := wSeq (wPutF 0 C "_nodes" (wOb (rListD (wCons (wVarB 1) wNil)))) (wPutF 0 C "_lengths" (wOb (wFnF sp_word_lengths (wCons (wFld C "_nodes" (wVarB 0)) wNil)))) (dEndsI y C Q E),
            rt := (dEndsI y C Q E).rt, bk := (dEndsI y C Q E).bk, ct := (dEndsI y C Q E).ct, rf := (dEndsI y C Q E).rf, ex := (dEndsI y C Q E).ex } [SD.own (Ob.ins y C []), SD.val d, SD.un, SD.un] n1 := by
      intro xs n1 en ei el ed h0 h200 hlt
      have er : resD d = match firstBad xs.length xs 0 with
          | some i => .node i
          | none => .made xs := by
        unfold resD
        rw [ei, hlt, if_neg (by simp [h0]), if_neg h200]
      rw [er] at q
      refine ⟨fun i env n2 => n2 = n ∧ ∃ e2 e3 : SD, env = [.own (.ins y C []), .val d, e2, e3] ∧ firstBad xs.length xs 0 = firstBad xs.length (xs.drop i) i, ⟨en, _, _, rfl, rfl⟩, ?_, ?_⟩
      · rintro env n2 ⟨en2, e2, e3, rfl, hf⟩
        rw [Et.enumD_len, List.drop_length] at hf
        have hf0 : firstBad xs.length xs 0 = none := hf
        rw [hf0] at q
        obtain ⟨ns, ens, hns⟩ := nodes_nd hf0
        walk_at "dv"
        refine ⟨by decide, ?_⟩
        show asSome d.items _
        rw [ed, asSome_some]
        have l1 : (putD "_nodes" (.lst xs) []).length < 1000 := by show 1 < 1000; decide
        have l2 : List.lookup ("_nodes" : Str) (putD "_nodes" (.lst xs) []) = some (.lst xs) := by
          show List.lookup ("_nodes" : Str) [(("_nodes" : Str), D.lst xs)] = _
          rw [List.lookup_cons_self]
        refine ⟨l1, ?_⟩
        rw [l2, asSome_some]
        refine ⟨ns, by rw [ens], by rw [← List.length_map (f := ndD), ← ens, ← ei]; exact hl, fun x hx => by rw [← List.length_map (f := ndD), ← ens]; exact hns x hx, fun ls hll hlo => ?_⟩
        refine ⟨_, rfl, ?_⟩
        have l3 : putD "_lengths" (.lst ls) (putD "_nodes" (.lst xs) []) = ([("_nodes", .lst xs), ("_lengths", .lst ls)] : List (Str × D)) := by
          show (if ("_nodes" : Str) = "_lengths" then _ else _) = _
          rw [if_neg (by decide)]
          rfl
        show Q (putD "_lengths" (.lst ls) (putD "_nodes" (.lst xs) [])) n2
        rw [l3, en2]
        exact q ls (by rw [hll, ens, List.length_map]) hlo
      · rintro i x env n2 hx2 ⟨en2, e2, e3, rfl, hf⟩
        have hi : i < xs.length := by
          have := (List.getElem?_eq_some_iff.1 hx2).1
          rw [Et.enumD_len] at this
          exact this
        have hx0 : xs[i]? = some xs[i] := List.getElem?_eq_getElem hi
        rw [Et.enumD_get hx0] at hx2
        cases hx2
        have hdr : firstBad xs.length (xs.drop i) i = if nodeD xs.length xs[i] = true then firstBad xs.length (xs.drop (i + 1)) (i + 1) else some i := by
          rw [List.drop_eq_getElem_cons hi]
          rfl
        walk_at "dv"
        refine ⟨rfl, ?_⟩
        show asSome d.len _
        rw [el, asSome_some]
        refine ⟨_, _, rfl, hx _ (by rw [ei]; exact List.getElem_mem hi), ?_⟩
        rw [hdr] at hf
        cases en' : nodeD (xs.length : Int) xs[i] with
        | true =>
          rw [en', if_pos rfl] at hf
          exact ⟨en2, _, _, rfl, hf⟩
        | false =>
          rw [en', if_neg Bool.false_ne_true] at hf
          rw [hf] at q
          rw [en2]
          exact q
    have bad : (d.isLst || d.isTup) = false → E ⟨CInvalidNode, some [("at", .int (-1))]⟩ n := fun h => by
      unfold resD at q
      rw [h, if_pos (Or.inl rfl)] at q
      exact q
    have emp : (itsD d).length = 0 → E ⟨CInvalidNode, some [("at", .int (-1))]⟩ n := fun h => by
      unfold resD at q
      rw [h, if_pos (Or.inr rfl)] at q
      exact q
    have big : (d.isLst || d.isTup) = true → ¬ (itsD d).length = 0 → 200 < (itsD d).length → E ⟨CTooMany, some [("count", .int (itsD d).length)]⟩ n := fun h h0 h2 => by
      unfold resD at q
      rw [h, if_neg (by simp [h0]), if_pos h2] at q
      exact q
    cases d with
    | lst xs =>
      simp only [D.isLst, D.isTup, Bool.or_false, Bool.not_true, Bool.false_eq_true, if_false, asSome_some, asLT_l]
      by_cases h0 : xs.length = 0
      · rw [if_pos (decide_eq_true (by omega))]
        exact emp h0
      · rw [if_neg (fun z => h0 (by have := of_decide_eq_true z; omega))]
        by_cases h2 : 200 < xs.length
        · rw [if_pos (decide_eq_true (by omega))]
          exact big rfl h0 h2
        · rw [if_neg (fun z => h2 (by have := of_decide_eq_true z; omega))]
          exact fin xs n rfl rfl rfl rfl h0 h2 rfl
    | tup xs =>
      simp only [D.isLst, D.isTup, Bool.false_or, Bool.not_true, Bool.false_eq_true, if_false, asSome_some, asLT_t]
      by_cases h0 : xs.length = 0
      · rw [if_pos (decide_eq_true (by omega))]
        exact emp h0
      · rw [if_neg (fun z => h0 (by have := of_decide_eq_true z; omega))]
        by_cases h2 : 200 < xs.length
        · rw [if_pos (decide_eq_true (by omega))]
          exact big rfl h0 h2
        · rw [if_neg (fun z => h2 (by have := of_decide_eq_true z; omega))]
          exact fin xs n rfl rfl rfl rfl h0 h2 rfl
    | _ => exact bad rfl
end
end K4

set_option Elab.async false
set_option linter.all false
set_option maxRecDepth 100000
set_option maxHeartbeats 4000000
/-! k04: Book's methods -/
namespace K4
open PySem PySem.Spec PyProof.Rows L2 Dv Ke
local macro_rules | `(tactic| walk_at "dv") => `(tactic| simp only [s_var, s_varb, s_test, s_tru, s_andv, s_orv, s_notv, s_chain, s_part, s_list, s_len, s_tuple, s_is, s_ixl, s_ixt, s_ixs, s_seqi, s_gcons, s_gnil, s_gtup, s_append, s_insert, s_enum, s_par, s_listRg, s_rng3, s_raise1, asIns_i, s_putF, s_fld, asFld_i, s_startI4, asLT_l, asLT_t, cx_K, s_reverse, s_retof, s_reto,
  asBl_bl, asInt_int, asTup_tup, asSome_some, asLst_lst, atVal_0, atVal_s, atGet_0, atGet_o, atGet_s, atOb_o, atOb_s, s_start0, s_startU, s_startV, s_add, s_addS, s_addL, s_addT, s_i2, s_ordI, s_ordS, s_isN, s_mulI, s_mulS, s_mulL, s_strip, s_inS, s_neg, s_abs, s_intI, s_intB, s_slL, s_slT, s_slS, isStr_str, s_ifand, s_ifor, s_eqS, s_eqI, s_eqB, Dv.ite_tt, Dv.ite_ff,
  wC, wOp, wMt1, Dv.wNot, Dv.wAnd, Dv.wOr, wIfE, wNil, wCons, wTup, wLst, wOb, Ob.d, wCall, wNoPart, wSl, wNx, Dv.wSeq, wDrop, wSortedSet, wSortedLen, wSortedPair, s_all, s_lc, s_for, s_zip, s_zipS, s_rng1, s_rng2, asZip_lst, asZip_tup, asStr_str, wRet, wRetN, wRetF, wSet, wOwn, wSetOb, wIf, wBk, wCt, wFn, wFnB, wFnF, wFnK, wFnFK, dEnds, dEndsF, gNm, wYes,
  wipeE, List.map_cons, List.map_nil, List.set_cons_zero, List.set_cons_succ, D.tru, D.len, D.items, D.seq, D.flat, D.isNon, true_and, and_true, if_true, if_false, Bool.false_eq_true, Bool.not_true, Bool.not_false])
local macro_rules | `(tactic| walk_at "dn") => `(tactic| simp only [↓s_var, ↓s_varb, ↓s_test, ↓s_tru, ↓s_andv, ↓s_orv, ↓s_notv, ↓s_chain, ↓s_part, ↓s_list, ↓s_rInt2, ↓s_len, ↓s_tuple, ↓s_is, ↓s_ixl, ↓s_ixt, ↓s_ixs, ↓s_seqi, ↓s_gcons, ↓s_gnil, ↓s_gtup, ↓s_append, ↓s_insert, ↓s_enum, ↓s_par, ↓s_listRg, ↓s_rng3, ↓s_raise1, ↓asIns_i, ↓s_putF, ↓s_fld, ↓asFld_i, ↓s_startI4, ↓asLT_l, ↓asLT_t, ↓cx_K, ↓s_reverse, ↓s_retof, ↓s_reto, ↓asBl_bl, ↓asInt_int, ↓asTup_tup, ↓asSome_some, ↓asLst_lst, ↓atVal_0, ↓atVal_s, ↓atGet_0, ↓atGet_o, ↓atGet_s, ↓atOb_o, ↓atOb_s, ↓s_start0, ↓s_startU, ↓s_startV, ↓s_add, ↓s_addS, ↓s_addL, ↓s_addT, ↓s_i2, ↓s_ordI, ↓s_ordS, ↓s_isN, ↓s_mulI, ↓s_mulS, ↓s_mulL, ↓s_strip, ↓s_inS, ↓s_neg, ↓s_abs, ↓s_intI, ↓s_intB, ↓s_slL, ↓s_slT, ↓s_slS, ↓isStr_str, ↓s_ifand, ↓s_ifor, ↓s_eqS, ↓s_eqI, ↓s_eqB, ↓Dv.ite_tt, ↓Dv.ite_ff, wC, wOp, wMt1, Dv.wNot, Dv.wAnd, Dv.wOr, wIfE, wNil, wCons, wTup, wLst, wOb, Ob.d, wCall, wNoPart, wOrT, wAndT, wHead, wGetK, rIxK, wSl, wNx, Dv.wSeq, wDrop, wSortedSet, wSortedLen, wSortedPair, ↓s_all, ↓s_lc, ↓s_for, ↓s_zip, ↓s_zipS, ↓s_rng1, ↓s_rng2, ↓asZip_lst, ↓asZip_tup, ↓asStr_str, wRet, wRetN, wRetF, wSet, wOwn, wSetOb, wIf, wBk, wCt, wFn, wFnB, wFnF, wFnK, wFnFK, dEnds, dEndsF, gNm, wYes, wipeE, List.map_cons, List.map_nil, List.set_cons_zero, List.set_cons_succ, D.tru, D.len, D.items, D.seq, D.flat, D.isNon, ↓true_and, ↓and_true, ↓if_true, ↓if_false, Bool.false_eq_true, Bool.not_true, Bool.not_false])

section
variable {P : Program} {w : World} {K : PySem.W.Frag} {mg : Str → Option Value} {base : Heap}
theorem de_gref {X : Cx} {x : Str} {a : Addr} {pos : Pos} (hm : X.mg x = some (.ref a)) (hg : Gl X x := by rfl) (hd : (x == ("__debug__" : Str)) = false := by decide) : DE X (.Name x pos) (wC (.ref a)) :=
  de_glob hg hm (v := .ref a) rfl (fun _ _ => .ref a) hd
def sp_Book_nodes (C : Addr) : DSp := fun ds n Q _ => ∃ fs xs, ds = [.ins C fs] ∧ fs.lookup ("_nodes" : Str) = some (D.lst xs) ∧ Q (.lst xs) n
abbrev s_Book_nodes : Stmt := inClass (topS 31) 1
theorem sc_Book_nodes : FnScope ["self"] ["self"] (defScope s_Book_nodes) := ⟨rfl, rfl, rfl, by decide +kernel, rfl, by decide +kernel, by decide +kernel⟩
theorem ok_Book_nodes {C : Addr} {k : Nat} {f : Addr} {fd : FuncData} (hk : 2 ≤ k) (M : Mg mg) (F : Fun K "nodes" "Book.nodes" s_Book_nodes f fd)  (T : Cls K C) (N__nodes : NoAttr K C "_nodes") : FnOk P w K mg base CX0 (k + 1) f fd ["self"] (lSp K (sp_Book_nodes C)) := by
  refine dok F sc_Book_nodes (fun ds n Q E h => ?_) (fun cdv A outer s H E hr => ⟨_, (dss_one (ds_ret (DF.toE (df_list M.b_list (dab_cons (DE.b (de_fld T N__nodes (dvb 0))) dab_nil))))), fun ds n Q E h => ?_⟩)
  · obtain ⟨fs, xs, rfl, _⟩ := h
    rfl
  · obtain ⟨fs, xs, rfl, hf, q⟩ := h
    walk_at "dv"
    rw [hf, asSome_some]
    exact q
end
end K4

set_option Elab.async false
set_option linter.all false
set_option maxRecDepth 100000
set_option maxHeartbeats 4000000
/-! k04: the law's drawn nets -/
namespace K4
open PySem PySem.Spec PyProof.Rows L2 Dv
local macro_rules | `(tactic| walk_at "dv") => `(tactic| simp only [s_var, s_varb, s_test, s_tru, s_andv, s_orv, s_notv, s_chain, s_part, s_list, s_len, s_tuple, s_is, s_ixl, s_ixt, s_ixs, s_seqi, s_gcons, s_gnil, s_gtup, s_append, s_insert, s_enum, s_par, s_listRg, s_rng3, s_raise1, asIns_i, s_putF, s_fld, asFld_i, s_startI4, asLT_l, asLT_t, cx_K, s_reverse, s_retof, s_reto,
  asBl_bl, asInt_int, asTup_tup, asSome_some, asLst_lst, atVal_0, atVal_s, atGet_0, atGet_o, atGet_s, atOb_o, atOb_s, s_start0, s_startU, s_startV, s_add, s_addS, s_addL, s_addT, s_i2, s_ordI, s_ordS, s_isN, s_mulI, s_mulS, s_mulL, s_strip, s_inS, s_neg, s_abs, s_intI, s_intB, s_slL, s_slT, s_slS, isStr_str, s_ifand, s_ifor, s_eqS, s_eqI, s_eqB, Dv.ite_tt, Dv.ite_ff,
  wC, wOp, wMt1, Dv.wNot, Dv.wAnd, Dv.wOr, wIfE, wNil, wCons, wTup, wLst, wOb, Ob.d, wCall, wNoPart, wSl, wNx, Dv.wSeq, wDrop, wSortedSet, wSortedLen, wSortedPair, s_all, s_lc, s_for, s_zip, s_zipS, s_rng1, s_rng2, asZip_lst, asZip_tup, asStr_str, wRet, wRetN, wRetF, wSet, wOwn, wSetOb, wIf, wBk, wCt, wFn, wFnB, wFnF, wFnK, wFnFK, dEnds, dEndsF, gNm, wYes,
  wipeE, List.map_cons, List.map_nil, List.set_cons_zero, List.set_cons_succ, D.tru, D.len, D.items, D.seq, D.flat, D.isNon, true_and, and_true, if_true, if_false, Bool.false_eq_true, Bool.not_true, Bool.not_false])
local macro_rules | `(tactic| walk_at "dn") => `(tactic| simp only [↓s_var, ↓s_varb, ↓s_test, ↓s_tru, ↓s_andv, ↓s_orv, ↓s_notv, ↓s_chain, ↓s_part, ↓s_list, ↓s_rInt2, ↓s_len, ↓s_tuple, ↓s_is, ↓s_ixl, ↓s_ixt, ↓s_ixs, ↓s_seqi, ↓s_gcons, ↓s_gnil, ↓s_gtup, ↓s_append, ↓s_insert, ↓s_enum, ↓s_par, ↓s_listRg, ↓s_rng3, ↓s_raise1, ↓asIns_i, ↓s_putF, ↓s_fld, ↓asFld_i, ↓s_startI4, ↓asLT_l, ↓asLT_t, ↓cx_K, ↓s_reverse, ↓s_retof, ↓s_reto, ↓asBl_bl, ↓asInt_int, ↓asTup_tup, ↓asSome_some, ↓asLst_lst, ↓atVal_0, ↓atVal_s, ↓atGet_0, ↓atGet_o, ↓atGet_s, ↓atOb_o, ↓atOb_s, ↓s_start0, ↓s_startU, ↓s_startV, ↓s_add, ↓s_addS, ↓s_addL, ↓s_addT, ↓s_i2, ↓s_ordI, ↓s_ordS, ↓s_isN, ↓s_mulI, ↓s_mulS, ↓s_mulL, ↓s_strip, ↓s_inS, ↓s_neg, ↓s_abs, ↓s_intI, ↓s_intB, ↓s_slL, ↓s_slT, ↓s_slS, ↓isStr_str, ↓s_ifand, ↓s_ifor, ↓s_eqS, ↓s_eqI, ↓s_eqB, ↓Dv.ite_tt, ↓Dv.ite_ff, wC, wOp, wMt1, Dv.wNot, Dv.wAnd, Dv.wOr, wIfE, wNil, wCons, wTup, wLst, wOb, Ob.d, wCall, wNoPart, wOrT, wAndT, wHead, wGetK, rIxK, wSl, wNx, Dv.wSeq, wDrop, wSortedSet, wSortedLen, wSortedPair, ↓s_all, ↓s_lc, ↓s_for, ↓s_zip, ↓s_zipS, ↓s_rng1, ↓s_rng2, ↓asZip_lst, ↓asZip_tup, ↓asStr_str, wRet, wRetN, wRetF, wSet, wOwn, wSetOb, wIf, wBk, wCt, wFn, wFnB, wFnF, wFnK, wFnFK, dEnds, dEndsF, gNm, wYes, wipeE, List.map_cons, List.map_nil, List.set_cons_zero, List.set_cons_succ, D.tru, D.len, D.items, D.seq, D.flat, D.isNon, ↓true_and, ↓and_true, ↓if_true, ↓if_false, Bool.false_eq_true, Bool.not_true, Bool.not_false])

section
variable {P : Program} {w : World} {K : PySem.W.Frag} {mg : Str → Option Value} {base : Heap}
abbrev sp__law_draw : DSp := sp_draw
def sp__law_of : DSp := fun ds n Q _ => ∃ (x : D) (ys : List D), ds = [.bag, x] ∧ n < 2 ^ 40 ∧ x.seq = some ys ∧ 0 < ys.length ∧ ys.length < 2 ^ 60 ∧ ∀ d ∈ ys, Q d (n + 1)
theorem atI_in {α : Type} {xs : List α} {k : Int} (h0 : 0 ≤ k) (h1 : k < (xs.length : Nat)) : ∃ d, atI xs k = some d ∧ d ∈ xs := by
  have e : k.toNat < xs.length := by omega
  have e5 : atI xs k = some xs[k.toNat] := by
    have z : atI xs ((k.toNat : Nat) : Int) = some xs[k.toNat] := atI_nat (List.getElem?_eq_getElem e)
    rwa [Int.toNat_of_nonneg h0] at z
  exact ⟨_, e5, List.getElem_mem e⟩
theorem tops_ok {n : Nat} (h : n < 2 ^ 60) : ((n : Nat) : Int).natAbs < 2 ^ tops := by
  rw [Int.natAbs_natCast]
  exact Nat.lt_of_lt_of_le h (Nat.pow_le_pow_right (by decide) (by decide))
abbrev s__law_of : Stmt := topS 35
theorem sc__law_of : FnScope ["bag", "some"] ["bag", "some"] (defScope s__law_of) := ⟨rfl, rfl, rfl, by decide +kernel, rfl, by decide +kernel, by decide +kernel⟩
theorem ok__law_of  {k : Nat} {f : Addr} {fd : FuncData} (M : Mg mg) (F : Fun K "_law_of" "_law_of" s__law_of f fd)  (C__law_draw : Cal P w K mg base CX0 k "_law_draw" ["bag", "top"] sp__law_draw) : FnOk P w K mg base CX0 (k + 1) f fd ["bag", "some"] (lSp K sp__law_of) := by
  refine dok F sc__law_of (fun ds n Q E h => ?_) (fun cdv A outer s H E hr => ⟨_, (dss_one (ds_ret (de_ix (dvb 1) (DE.b (de_call C__law_draw hr (da_cons (dv 0) (da_cons (de_bi cd_len M.b_len (dab_cons (dvb 1) dab_nil)) da_nil))))))), fun ds n Q E h => ?_⟩)
  · obtain ⟨x, ys, rfl, _⟩ := h
    rfl
  · obtain ⟨x, ys, rfl, hn, hs, h0, h1, q⟩ := h
    walk_at "dv"
    cases x with
    | lst xs =>
      cases hs
      refine ⟨_, rfl, hn, by omega, tops_ok h1, fun k k0 k1 => ?_⟩
      obtain ⟨d, e, hd⟩ := atI_in k0 k1
      walk_at "dv"
      rw [e]
      exact q d hd
    | tup xs =>
      cases hs
      refine ⟨_, rfl, hn, by omega, tops_ok h1, fun k k0 k1 => ?_⟩
      obtain ⟨d, e, hd⟩ := atI_in k0 k1
      walk_at "dv"
      rw [e]
      exact q d hd
    | str s =>
      cases hs
      have hl : (signsD s).length = s.cps.toList.length := by unfold signsD; rw [List.length_map]
      have hl2 : s.length = s.cps.toList.length := (Array.length_toList).symm
      rw [hl] at h0 h1
      walk_at "dv"
      rw [hl2]
      refine ⟨_, rfl, hn, by omega, tops_ok h1, fun k k0 k1 => ?_⟩
      obtain ⟨c, e, hc⟩ := atI_in k0 k1
      walk_at "dv"
      rw [e]
      exact q _ (List.mem_map.2 ⟨c, hc, rfl⟩)
    | _ => cases hs
/-- a child of one of m nodes -/
def KidOk (m : Nat) (d : D) : Prop := d = .non ∨ ∃ i : Nat, d = .int (i : Nat) ∧ i < m
def ColOk (s : Str) : Prop := s = "" ∨ s = "x" ∨ s = "y" ∨ s = "z"
structure HueOk (h : Str) : Prop where
  pos : 0 < h.length
  le : h.length ≤ 10
  ok : ∀ c ∈ h.cps.toList, 120 ≤ c ∧ c ≤ 122
/-- a drawn node of one of m -/
def NodeS (m : Nat) (d : D) : Prop := ∃ (c : Str) (r : List D), d = .tup (.str c :: r) ∧ ColOk c ∧ r.length = 4 ∧ ∀ x ∈ r, KidOk m x
theorem ColOk.len {c : Str} (h : ColOk c) : c.length ≤ 10 := by rcases h with rfl | rfl | rfl | rfl <;> decide +kernel
def sp__law_placed : DSp := fun ds n Q _ => ∃ (ks : List D) (m : Nat), ds = [.bag, .lst ks] ∧ n + 10 < 2 ^ 40 ∧ ks.length ≤ 4 ∧ (∀ x ∈ ks, KidOk m x) ∧ ∀ row n', row.length = 4 → (∀ x ∈ row, KidOk m x) → n ≤ n' → n' ≤ n + 4 → Q (.lst row) n'
abbrev s__law_placed : Stmt := topS 37
theorem sc__law_placed : FnScope ["bag", "kids", "row", "k"] ["bag", "kids"] (defScope s__law_placed) := ⟨rfl, rfl, rfl, by decide +kernel, rfl, by decide +kernel, by decide +kernel⟩
theorem ok__law_placed  {k : Nat} {f : Addr} {fd : FuncData} (M : Mg mg) (F : Fun K "_law_placed" "_law_placed" s__law_placed f fd)  (C__law_draw : Cal P w K mg base CX0 k "_law_draw" ["bag", "top"] sp__law_draw) : FnOk P w K mg base CX0 (k + 1) f fd ["bag", "kids"] (lSp K sp__law_placed) := by
  refine dok F sc__law_placed (fun ds n Q E h => ?_) (fun cdv A outer s H E hr => ⟨_, (dss_cons (ds_own (i := 2) sc__law_placed.nd rfl (by first | exact Or.inl rfl | exact Or.inr rfl) (df_list M.b_list (dab_cons (dvb 1) dab_nil)))
      (dss_cons (ds_for (vs := [3]) (di_rng1 M.b_range (da_cons (de_op od_sub (DE.b de_int) (DE.b (de_bi cd_len M.b_len (dab_cons (dvb 1) dab_nil)))) da_nil)) (dg_name (i := 3) sc__law_placed.nd rfl (by first | exact Or.inl rfl | exact Or.inr rfl)) (dss_one (ds_insert 2 (de_call C__law_draw hr (da_cons (dv 0) (da_cons (de_op od_add (DE.b (de_bi cd_len M.b_len (dab_cons (dvb 2) dab_nil))) (DE.b de_int)) da_nil))) de_non)))
      (dss_one (ds_retO 2)))), fun ds n Q E h => ?_⟩)
  · obtain ⟨ks, mm, rfl, _⟩ := h
    rfl
  · obtain ⟨ks, mm, rfl, hn, hk, hok, q⟩ := h
    walk_at "dv"
    have hm : (4 - (ks.length : Int)).toNat = 4 - ks.length := by omega
    rw [hm]
    have hrl : (rngD 0 (4 - ks.length)).length = 4 - ks.length := rngD_len _ _
    refine ⟨⟨by omega, by omega⟩, fun i env n' => ∃ (row : List D) (e3 : SD), env = [.val .bag, .val (.lst ks), .own (.lst row), e3] ∧ row.length = ks.length + i ∧ (∀ x ∈ row, KidOk mm x) ∧ n' = n + i, ⟨_, _, rfl, rfl, hok, rfl⟩, ?_, ?_⟩
    · rintro env n' ⟨row, e3, rfl, hl, hr, rfl⟩
      rw [hrl] at hl ⊢
      walk_at "dv"
      exact q row (n + (4 - ks.length)) (by omega) hr (by omega) (by omega)
    · rintro i y env n' hy ⟨row, e3, rfl, hl, hr, rfl⟩
      have hi : i < 4 - ks.length := by
        have := (List.getElem?_eq_some_iff.1 hy).1
        rw [hrl] at this
        exact this
      walk_at "dv"
      have e1 : ((row.length : Int) + 1) = ((row.length + 1 : Nat) : Int) := by omega
      refine ⟨_, rfl, by omega, by omega, by rw [e1]; exact tops_ok (by omega), fun j j0 j1 => ?_⟩
      obtain ⟨u, rfl⟩ : ∃ u : Nat, j = u := ⟨j.toNat, by omega⟩
      refine ⟨u, rfl, by omega, by have := sizeLine_eq; omega, _, _, rfl, by rw [insL_len]; omega, fun x hx => ?_, by omega⟩
      rcases insL_mem hx with m | m
      · exact hr x m
      · exact .inl m
theorem sgn_col {c : Nat} (h : 120 ≤ c ∧ c ≤ 122) : ColOk (⟨#[c]⟩ : Str) := by
  have : c = 120 ∨ c = 121 ∨ c = 122 := by omega
  rcases this with rfl | rfl | rfl
  · exact .inr (.inl (by decide +kernel))
  · exact .inr (.inr (.inl (by decide +kernel)))
  · exact .inr (.inr (.inr (by decide +kernel)))
theorem sub_sign {s : Str} {d : D} (hh : HueOk s) (h : d ∈ signsD s) : ∃ c : Str, d = .str c ∧ ColOk c := by
  unfold signsD at h
  obtain ⟨c, hc, e⟩ := List.mem_map.1 h
  exact ⟨_, e.symm, sgn_col (hh.ok c hc)⟩
theorem signsD_len (s : Str) : (signsD s).length = s.length := by unfold signsD; rw [List.length_map]; exact Array.length_toList
theorem datas_ints : ∀ xs : List Int, D.datas (xs.map .int) = true
  | [] => rfl
  | x :: xs => by
    show (D.data (.int x) && D.datas (xs.map .int)) = true
    rw [datas_ints xs]
    rfl
theorem deps_ints : ∀ xs : List Int, D.deps (xs.map .int) = 0
  | [] => rfl
  | x :: xs => by
    show max (D.dep (.int x)) (D.deps (xs.map .int)) = 0
    rw [deps_ints xs]
    rfl
theorem kid_in {m : Nat} {d : D} (h : d ∈ rngD 0 m ++ [.non]) : KidOk m d := by
  rcases List.mem_append.1 h with h | h
  · unfold rngD at h
    obtain ⟨i, hi, e⟩ := List.mem_map.1 h
    rw [Int.zero_add] at e
    exact .inr ⟨i, e.symm, List.mem_range.1 hi⟩
  · rw [List.mem_singleton] at h
    exact .inl h
def sp__law_free : DSp := fun ds n Q _ => ∃ h : Str, ds = [.bag, .str h] ∧ n + 100 < 2 ^ 40 ∧ HueOk h ∧ ∀ row n', 0 < row.length → row.length ≤ 10 → (∀ x ∈ row, NodeS row.length x) → n ≤ n' → n' ≤ n + 60 → Q (.lst row) n'
abbrev s__law_free : Stmt := topS 38
theorem sc__law_free : FnScope ["bag", "hue", "many", "spots", "found", "k", "tint", "kids", "n"] ["bag", "hue"] (defScope s__law_free) := ⟨rfl, rfl, rfl, by decide +kernel, rfl, by decide +kernel, by decide +kernel⟩
theorem ok__law_free  {k : Nat} {f : Addr} {fd : FuncData} (M : Mg mg) (F : Fun K "_law_free" "_law_free" s__law_free f fd)  (C__law_draw : Cal P w K mg base CX0 k "_law_draw" ["bag", "top"] sp__law_draw) (C__law_of : Cal P w K mg base CX0 k "_law_of" ["bag", "some"] sp__law_of) : FnOk P w K mg base CX0 (k + 1) f fd ["bag", "hue"] (lSp K sp__law_free) := by
  refine dok F sc__law_free (fun ds n Q E h => ?_) (fun cdv A outer s H E hr => ⟨_, (dss_cons (ds_set (i := 2) sc__law_free.nd rfl (by first | exact Or.inl rfl | exact Or.inr rfl) (de_op od_add (DE.b de_int) (DE.b (de_call C__law_draw hr (da_cons (dv 0) (da_cons de_int da_nil))))))
      (dss_cons (ds_set (i := 3) sc__law_free.nd rfl (by first | exact Or.inl rfl | exact Or.inr rfl) (de_call C__law_of hr (da_cons (dv 0) (da_cons (DF.toE (df_lst (da_cons (DF.toE (df_lst (da_cons de_int (da_cons de_int da_nil)))) (da_cons (DF.toE (df_lst (da_cons de_int (da_cons de_int (da_cons de_int da_nil))))) (da_cons (DF.toE (df_lst (da_cons de_int (da_cons de_int da_nil)))) (da_cons (DF.toE (df_lst (da_cons de_int (da_cons de_int (da_cons de_int da_nil))))) (da_cons (DF.toE (df_lst (da_cons de_int da_nil))) (da_cons (DF.toE (df_lst (da_cons de_int (da_cons de_int (da_cons de_int (da_cons de_int da_nil)))))) (da_cons (DF.toE (df_lst (da_cons de_int (da_cons de_int da_nil)))) (da_cons (DF.toE (df_lst (da_cons de_int (da_cons de_int da_nil)))) da_nil)))))))))) da_nil))))
      (dss_cons (ds_own (i := 4) sc__law_free.nd rfl (by first | exact Or.inl rfl | exact Or.inr rfl) (df_lst da_nil))
      (dss_cons (ds_for (vs := [5]) (di_rng1 M.b_range (da_cons (dv 2) da_nil)) (dg_name (i := 5) sc__law_free.nd rfl (by first | exact Or.inl rfl | exact Or.inr rfl)) (dss_cons (ds_set (i := 6) sc__law_free.nd rfl (by first | exact Or.inl rfl | exact Or.inr rfl) (de_if (dt_cmp (od_eq (hu64 hr)) (DE.b (de_call C__law_draw hr (da_cons (dv 0) (da_cons de_int da_nil)))) (DE.b de_int)) (de_call C__law_of hr (da_cons (dv 0) (da_cons (dv 1) da_nil))) de_str))
      (dss_cons (ds_setLc (i := 7) (own := [("n", 8)]) sc__law_free.nd rfl rfl (sw_true rfl rfl rfl (by decide +kernel)) (di_rng1 M.b_range (da_cons de_int da_nil)) (blkOk_by (N := ["bag", "hue", "many", "spots", "found", "k", "tint", "kids", "n"]) (sc := defScope s__law_free) (by decide +kernel)) (fun _ _ _ _ _ => (dg_name (i := 8) sc__law_free.nd rfl (by first | exact Or.inl rfl | exact Or.inr rfl))) (fun _ _ _ _ _ => dts_nil) (fun _ _ _ _ _ => (de_if (dt_cmp (od_in (hu65 hr)) (dvb 8) (dvb 3)) (de_call C__law_of hr (da_cons (dv 0) (da_cons (de_op od_add (DE.b (DF.toE (df_listRg M.b_list M.b_range (dv 2)))) (DE.b (DF.toE (df_lst (da_cons de_non da_nil))))) da_nil))) de_non)))
      (dss_one (ds_append 4 (de_tyc cd_tuple M.b_tuple (dab_cons (DE.b (de_op od_add (DE.b (DF.toE (df_lst (da_cons (dv 6) da_nil)))) (dvb 7))) dab_nil)))))))
      (dss_one (ds_retO 4)))))), fun ds n Q E h => ?_⟩)
  · obtain ⟨ks, rfl, _⟩ := h
    rfl
  · obtain ⟨hu, rfl, hn, hh, q⟩ := h
    have h0 := hh.pos
    have h1 := hh.le
    walk_at "dv"
    refine ⟨_, rfl, by omega, by decide, by decide +kernel, fun k k0 k1 => ?_⟩
    walk_at "dv"
    refine ⟨by decide, by decide, by decide, by decide, by decide, by decide, by decide, by decide, by decide, _, _, rfl, by omega, rfl, by decide, by decide, fun d hd => ⟨by decide, ?_⟩⟩
    obtain ⟨sp, rfl, hsp⟩ : ∃ sp : List Int, d = .lst (sp.map .int) ∧ sp.length ≤ 4 := by
      simp only [List.mem_cons, List.not_mem_nil, or_false] at hd
      rcases hd with e | e | e | e | e | e | e | e
      · exact ⟨[0, 1], e, by decide⟩
      · exact ⟨[0, 1, 2], e, by decide⟩
      · exact ⟨[1, 3], e, by decide⟩
      · exact ⟨[0, 2, 3], e, by decide⟩
      · exact ⟨[2], e, by decide⟩
      · exact ⟨[0, 1, 2, 3], e, by decide⟩
      · exact ⟨[0, 1], e, by decide⟩
      · exact ⟨[1, 2], e, by decide⟩
    obtain ⟨m, hm⟩ : ∃ m : Nat, 1 + k = m := ⟨(1 + k).toNat, by omega⟩
    rw [hm]
    have hrl : (rngD 0 ((m : Nat) : Int).toNat).length = m := by rw [rngD_len]; omega
    have hm5 : m ≤ 5 := by omega
    refine ⟨⟨by omega, by omega⟩, fun i env n' => ∃ (row : List D) (e5 e6 e7 : SD), env = [.val .bag, .val (.str hu), .val (.int m), .val (.lst (sp.map .int)), .own (.lst row), e5, e6, e7, .un] ∧ row.length = i ∧ (∀ x ∈ row, NodeS m x) ∧ n + 2 ≤ n' ∧ n' ≤ n + 2 + 10 * i, ⟨_, _, _, _, rfl, rfl, fun x hx => (nomatch hx), by omega, by omega⟩, ?_, ?_⟩
    · rintro env n' ⟨row, e5, e6, e7, rfl, hl, hr, n1, n2⟩
      rw [hrl] at hl n2
      walk_at "dv"
      exact q row n' (by omega) (by omega) (by rw [hl]; exact hr) (by omega) (by omega)
    · rintro i y env n' hy ⟨row, e5, e6, e7, rfl, hl, hr, n1, n2⟩
      have hi : i < m := by
        have := (List.getElem?_eq_some_iff.1 hy).1
        rw [hrl] at this
        exact this
      walk_at "dv"
      refine ⟨_, rfl, by omega, by decide, by decide +kernel, fun j j0 j1 => ?_⟩
      walk_at "dv"
      split
      · refine ⟨_, _, rfl, by omega, rfl, by rw [signsD_len]; exact h0, by rw [signsD_len]; omega, fun d hd => ?_⟩
        obtain ⟨c, rfl, hc⟩ := sub_sign hh hd
        refine ⟨rfl, ⟨by decide, by decide⟩, ?_⟩
        refine lc_draw (fun _ d => KidOk m d) 1 ?_ (fun ds n2 g1 g2 g3 g4 => ?_) (fun u z hz n2 R hn1 hn2 hR => ?_)
        · rw [rngD_len]; have := sizeLine_eq; omega
        · rw [rngD_len] at g1 g4
          have hs := sizeLine_eq
          refine ⟨by show 1 ≤ _; rw [hs]; decide, by rw [g1, hs]; show 1 + 4 ≤ 16777216; decide, by omega, _, _, _, _, rfl, by rw [List.length_append, hl]; rfl, fun x hx => ?_, by omega, by omega⟩
          rcases List.mem_append.1 hx with hx | hx
          · exact hr x hx
          · rw [List.mem_singleton] at hx
            exact ⟨c, ds, by rw [hx]; rfl, hc, g1, fun x hx => by obtain ⟨v, hv⟩ := List.getElem?_of_mem hx; exact g2 v x hv⟩
        · obtain ⟨hu', rfl⟩ := rngD_get hz
          have hu4 : u < 4 := hu'
          walk_at "dv"
          refine ⟨⟨rfl, datas_ints sp, by show 0 ≤ 63; decide, by rw [deps_ints]; decide⟩, ?_⟩
          walk_at "dv"
          split
          · have hs := sizeLine_eq
            refine ⟨⟨by omega, by omega⟩, by decide, by rw [hrl]; simp only [List.length_cons, List.length_nil]; omega, _, _, rfl, by omega, rfl, by simp, by rw [List.length_append, hrl]; simp only [List.length_cons, List.length_nil]; omega, fun d hd => hR _ _ (kid_in (by rwa [Int.toNat_natCast] at hd)) (by omega) (by omega)⟩
          · exact hR _ _ (.inl rfl) (by omega) (by omega)
      · obtain ⟨c, ec, hc⟩ : ∃ c : Str, c = "" ∧ ColOk c := ⟨"", rfl, .inl rfl⟩
        rw [← ec]
        refine ⟨rfl, ⟨by decide, by decide⟩, ?_⟩
        refine lc_draw (fun _ d => KidOk m d) 1 ?_ (fun ds n2 g1 g2 g3 g4 => ?_) (fun u z hz n2 R hn1 hn2 hR => ?_)
        · rw [rngD_len]; have := sizeLine_eq; omega
        · rw [rngD_len] at g1 g4
          have hs := sizeLine_eq
          refine ⟨by show 1 ≤ _; rw [hs]; decide, by rw [g1, hs]; show 1 + 4 ≤ 16777216; decide, by omega, _, _, _, _, rfl, by rw [List.length_append, hl]; rfl, fun x hx => ?_, by omega, by omega⟩
          rcases List.mem_append.1 hx with hx | hx
          · exact hr x hx
          · rw [List.mem_singleton] at hx
            exact ⟨c, ds, by rw [hx]; rfl, hc, g1, fun x hx => by obtain ⟨v, hv⟩ := List.getElem?_of_mem hx; exact g2 v x hv⟩
        · obtain ⟨hu', rfl⟩ := rngD_get hz
          have hu4 : u < 4 := hu'
          walk_at "dv"
          refine ⟨⟨rfl, datas_ints sp, by show 0 ≤ 63; decide, by rw [deps_ints]; decide⟩, ?_⟩
          walk_at "dv"
          split
          · have hs := sizeLine_eq
            refine ⟨⟨by omega, by omega⟩, by decide, by rw [hrl]; simp only [List.length_cons, List.length_nil]; omega, _, _, rfl, by omega, rfl, by simp, by rw [List.length_append, hrl]; simp only [List.length_cons, List.length_nil]; omega, fun d hd => hR _ _ (kid_in (by rwa [Int.toNat_natCast] at hd)) (by omega) (by omega)⟩
          · exact hR _ _ (.inl rfl) (by omega) (by omega)
end
end K4

set_option Elab.async false
set_option linter.all false
set_option maxRecDepth 100000
set_option maxHeartbeats 4000000
/-! k04: the law's drawn nets -/
namespace K4
open PySem PySem.Spec PyProof.Rows L2 Dv
local macro_rules | `(tactic| walk_at "dv") => `(tactic| simp only [s_var, s_varb, s_test, s_tru, s_andv, s_orv, s_notv, s_chain, s_part, s_list, s_len, s_tuple, s_is, s_ixl, s_ixt, s_ixs, s_seqi, s_gcons, s_gnil, s_gtup, s_append, s_insert, s_enum, s_par, s_listRg, s_rng3, s_raise1, asIns_i, s_putF, s_fld, asFld_i, s_startI4, asLT_l, asLT_t, cx_K, s_reverse, s_retof, s_reto,
  asBl_bl, asInt_int, asTup_tup, asSome_some, asLst_lst, atVal_0, atVal_s, atGet_0, atGet_o, atGet_s, atOb_o, atOb_s, s_start0, s_startU, s_startV, s_add, s_addS, s_addL, s_addT, s_i2, s_ordI, s_ordS, s_isN, s_mulI, s_mulS, s_mulL, s_strip, s_inS, s_neg, s_abs, s_intI, s_intB, s_slL, s_slT, s_slS, isStr_str, s_ifand, s_ifor, s_eqS, s_eqI, s_eqB, Dv.ite_tt, Dv.ite_ff,
  wC, wOp, wMt1, Dv.wNot, Dv.wAnd, Dv.wOr, wIfE, wNil, wCons, wTup, wLst, wOb, Ob.d, wCall, wNoPart, wSl, wNx, Dv.wSeq, wDrop, wSortedSet, wSortedLen, wSortedPair, s_all, s_lc, s_for, s_zip, s_zipS, s_rng1, s_rng2, asZip_lst, asZip_tup, asStr_str, wRet, wRetN, wRetF, wSet, wOwn, wSetOb, wIf, wBk, wCt, wFn, wFnB, wFnF, wFnK, wFnFK, dEnds, dEndsF, gNm, wYes,
  wipeE, List.map_cons, List.map_nil, List.set_cons_zero, List.set_cons_succ, D.tru, D.len, D.items, D.seq, D.flat, D.isNon, true_and, and_true, if_true, if_false, Bool.false_eq_true, Bool.not_true, Bool.not_false])
local macro_rules | `(tactic| walk_at "dn") => `(tactic| simp only [↓s_var, ↓s_varb, ↓s_test, ↓s_tru, ↓s_andv, ↓s_orv, ↓s_notv, ↓s_chain, ↓s_part, ↓s_list, ↓s_rInt2, ↓s_len, ↓s_tuple, ↓s_is, ↓s_ixl, ↓s_ixt, ↓s_ixs, ↓s_seqi, ↓s_gcons, ↓s_gnil, ↓s_gtup, ↓s_append, ↓s_insert, ↓s_enum, ↓s_par, ↓s_listRg, ↓s_rng3, ↓s_raise1, ↓asIns_i, ↓s_putF, ↓s_fld, ↓asFld_i, ↓s_startI4, ↓asLT_l, ↓asLT_t, ↓cx_K, ↓s_reverse, ↓s_retof, ↓s_reto, ↓asBl_bl, ↓asInt_int, ↓asTup_tup, ↓asSome_some, ↓asLst_lst, ↓atVal_0, ↓atVal_s, ↓atGet_0, ↓atGet_o, ↓atGet_s, ↓atOb_o, ↓atOb_s, ↓s_start0, ↓s_startU, ↓s_startV, ↓s_add, ↓s_addS, ↓s_addL, ↓s_addT, ↓s_i2, ↓s_ordI, ↓s_ordS, ↓s_isN, ↓s_mulI, ↓s_mulS, ↓s_mulL, ↓s_strip, ↓s_inS, ↓s_neg, ↓s_abs, ↓s_intI, ↓s_intB, ↓s_slL, ↓s_slT, ↓s_slS, ↓isStr_str, ↓s_ifand, ↓s_ifor, ↓s_eqS, ↓s_eqI, ↓s_eqB, ↓Dv.ite_tt, ↓Dv.ite_ff, wC, wOp, wMt1, Dv.wNot, Dv.wAnd, Dv.wOr, wIfE, wNil, wCons, wTup, wLst, wOb, Ob.d, wCall, wNoPart, wOrT, wAndT, wHead, wGetK, rIxK, wSl, wNx, Dv.wSeq, wDrop, wSortedSet, wSortedLen, wSortedPair, ↓s_all, ↓s_lc, ↓s_for, ↓s_zip, ↓s_zipS, ↓s_rng1, ↓s_rng2, ↓asZip_lst, ↓asZip_tup, ↓asStr_str, wRet, wRetN, wRetF, wSet, wOwn, wSetOb, wIf, wBk, wCt, wFn, wFnB, wFnF, wFnK, wFnFK, dEnds, dEndsF, gNm, wYes, wipeE, List.map_cons, List.map_nil, List.set_cons_zero, List.set_cons_succ, D.tru, D.len, D.items, D.seq, D.flat, D.isNon, ↓true_and, ↓and_true, ↓if_true, ↓if_false, Bool.false_eq_true, Bool.not_true, Bool.not_false])

local macro_rules | `(tactic| walk_at "sz") => `(tactic| simp only [List.length_cons, List.length_nil, sizeLine_eq, Nat.reduceAdd, Nat.reduceLeDiff, Nat.reduceSub, true_and, List.cons_append, List.nil_append])
theorem ints_kids {m : Nat} {d : D} (is : List Int) (e : d = .lst (is.map .int)) (h : is.length ≤ 4) (hm : ∀ i ∈ is, 0 ≤ i ∧ i < m) : ∃ ks : List D, d = .lst ks ∧ ks.length ≤ 4 ∧ ∀ x ∈ ks, KidOk m x :=
  ⟨_, e, by rw [List.length_map]; exact h, fun x hx => by
    obtain ⟨i, hi, q⟩ := List.mem_map.1 hx
    obtain ⟨h0, h1⟩ := hm i hi
    exact .inr ⟨i.toNat, by rw [← q, Int.toNat_of_nonneg h0], by omega⟩⟩
/-- a form of a net -/
def FormOk (d : D) : Prop := ∃ its : List (Str × List Int), d = .lst (its.map fun p => .tup [.str p.1, .lst (p.2.map .int)]) ∧ 0 < its.length ∧ its.length ≤ 4 ∧ ∀ p ∈ its, ColOk p.1 ∧ p.2.length ≤ 4 ∧ ∀ i ∈ p.2, 0 ≤ i ∧ i < its.length
theorem tops_int {t : Int} (h0 : 0 ≤ t) (h : t < 2 ^ 60) : t.natAbs < 2 ^ tops := by
  have e : t.natAbs < 2 ^ 60 := by omega
  exact Nat.lt_of_lt_of_le e (Nat.pow_le_pow_right (by decide) (by decide))
section
variable {P : Program} {w : World} {K : PySem.W.Frag} {mg : Str → Option Value} {base : Heap}
def sp__law_grown : DSp := sp__law_free
abbrev s__law_grown : Stmt := topS 39
theorem sc__law_grown : FnScope ["bag", "hue", "many", "found", "k", "kids", "tint", "p", "q"] ["bag", "hue"] (defScope s__law_grown) := ⟨rfl, rfl, rfl, by decide +kernel, rfl, by decide +kernel, by decide +kernel⟩
theorem ok__law_grown  {k : Nat} {f : Addr} {fd : FuncData} (M : Mg mg) (F : Fun K "_law_grown" "_law_grown" s__law_grown f fd)  (C__law_draw : Cal P w K mg base CX0 k "_law_draw" ["bag", "top"] sp__law_draw) (C__law_of : Cal P w K mg base CX0 k "_law_of" ["bag", "some"] sp__law_of) (C__law_placed : Cal P w K mg base CX0 k "_law_placed" ["bag", "kids"] sp__law_placed) : FnOk P w K mg base CX0 (k + 1) f fd ["bag", "hue"] (lSp K sp__law_grown) := by
  refine dok F sc__law_grown (fun ds n Q E h => ?_) (fun cdv A outer s H E hr => ⟨_, (dss_cons (ds_set (i := 2) sc__law_grown.nd rfl (by first | exact Or.inl rfl | exact Or.inr rfl) (de_op od_add (DE.b de_int) (DE.b (de_call C__law_draw hr (da_cons (dv 0) (da_cons de_int da_nil))))))
      (dss_cons (ds_set (i := 3) sc__law_grown.nd rfl (by first | exact Or.inl rfl | exact Or.inr rfl) (DF.toE (df_lst (da_cons (de_tup (da_cons (de_call C__law_of hr (da_cons (dv 0) (da_cons (dv 1) da_nil))) (da_cons de_non (da_cons de_non (da_cons de_non (da_cons de_non da_nil)))))) da_nil))))
      (dss_cons (ds_for (vs := [4]) (di_rng3 M.b_range (da_cons (de_op od_sub (dvb 2) (DE.b de_int)) (da_cons (de_neg (DE.b de_int)) (da_cons (de_neg (DE.b de_int)) da_nil)))) (dg_name (i := 4) sc__law_grown.nd rfl (by first | exact Or.inl rfl | exact Or.inr rfl)) (dss_cons (ds_par (i := 7) (j := 8) sc__law_grown.nd rfl rfl (by decide) rfl rfl (da_cons (de_op od_add (DE.b (de_op od_add (dvb 4) (DE.b de_int))) (DE.b (de_call C__law_draw hr (da_cons (dv 0) (da_cons (de_op od_sub (DE.b (de_op od_sub (dvb 2) (dvb 4))) (DE.b de_int)) da_nil))))) (da_cons (de_op od_add (DE.b (de_op od_add (dvb 4) (DE.b de_int))) (DE.b (de_call C__law_draw hr (da_cons (dv 0) (da_cons (de_op od_sub (DE.b (de_op od_sub (dvb 2) (dvb 4))) (DE.b de_int)) da_nil))))) da_nil)))
      (dss_cons (ds_set (i := 5) sc__law_grown.nd rfl (by first | exact Or.inl rfl | exact Or.inr rfl) (de_call C__law_of hr (da_cons (dv 0) (da_cons (DF.toE (df_lst (da_cons (DF.toE (df_lst (da_cons (dv 7) (da_cons (dv 8) da_nil)))) (da_cons (DF.toE (df_lst (da_cons (dv 7) (da_cons (dv 4) da_nil)))) (da_cons (DF.toE (df_lst (da_cons (dv 4) (da_cons (dv 7) da_nil)))) (da_cons (DF.toE (df_lst (da_cons (dv 4) (da_cons (dv 7) (da_cons (dv 4) da_nil))))) (da_cons (DF.toE (df_lst (da_cons (dv 7) (da_cons (dv 4) (da_cons (dv 8) da_nil))))) (da_cons (DF.toE (df_lst (da_cons (dv 7) (da_cons (dv 8) (da_cons (dv 7) da_nil))))) (da_cons (DF.toE (df_lst (da_cons (dv 4) (da_cons (dv 7) (da_cons (dv 4) (da_cons (dv 8) da_nil)))))) (da_cons (DF.toE (df_lst (da_cons (dv 7) da_nil))) da_nil)))))))))) da_nil))))
      (dss_cons (ds_set (i := 6) sc__law_grown.nd rfl (by first | exact Or.inl rfl | exact Or.inr rfl) (de_call C__law_of hr (da_cons (dv 0) (da_cons (DF.toE (df_lst (da_cons de_str (da_cons de_str (da_cons de_str (da_cons (de_call C__law_of hr (da_cons (dv 0) (da_cons (dv 1) da_nil))) da_nil)))))) da_nil))))
      (dss_one (ds_set (i := 3) sc__law_grown.nd rfl (by first | exact Or.inl rfl | exact Or.inr rfl) (de_op od_add (DE.b (DF.toE (df_lst (da_cons (de_tyc cd_tuple M.b_tuple (dab_cons (DE.b (de_op od_add (DE.b (DF.toE (df_lst (da_cons (dv 6) da_nil)))) (DE.b (de_call C__law_placed hr (da_cons (dv 0) (da_cons (dv 5) da_nil)))))) dab_nil)) da_nil)))) (dvb 3))))))))
      (dss_one (ds_ret (dv 3)))))), fun ds n Q E h => ?_⟩)
  · obtain ⟨ks, rfl, _⟩ := h
    rfl
  · obtain ⟨hu, rfl, hn, hh, q⟩ := h
    have h0 := hh.pos
    have h1 := hh.le
    walk_at "dv"
    refine ⟨_, rfl, by omega, by decide, by decide +kernel, fun k k0 k1 => ?_⟩
    walk_at "dv"
    refine ⟨_, _, rfl, by omega, rfl, by rw [signsD_len]; exact h0, by rw [signsD_len]; omega, fun d hd => ?_⟩
    obtain ⟨c, rfl, hc⟩ := sub_sign hh hd
    walk_at "sz"
    obtain ⟨m, rfl⟩ : ∃ m : Nat, k = m := ⟨k.toNat, by omega⟩
    have e1 : (2 + (m : Int) - 2 - -1).toNat = m + 1 := by omega
    rw [e1]
    refine ⟨⟨by omega, by omega, by decide, by decide⟩, fun i env n' => ∃ (row : List D) (e4 e5 e6 e7 e8 : SD), env = [.val .bag, .val (.str hu), .val (.int (2 + (m : Int))), .val (.lst row), e4, e5, e6, e7, e8] ∧ row.length = i + 1 ∧ (∀ x ∈ row, NodeS (m + 2) x) ∧ n + 2 ≤ n' ∧ n' ≤ n + 2 + 10 * i, ⟨_, _, _, _, _, _, rfl, rfl, fun x hx => ?_, by omega, by omega⟩, ?_, ?_⟩
    · rw [List.mem_singleton] at hx
      exact ⟨c, [.non, .non, .non, .non], hx, hc, rfl, fun x hx => .inl (by simpa using hx)⟩
    · rintro env n' ⟨row, e4, e5, e6, e7, e8, rfl, hl, hr, n1, n2⟩
      rw [rngC_len] at hl n2
      walk_at "dv"
      exact q row n' (by omega) (by omega) (by rw [show row.length = m + 2 by omega]; exact hr) (by omega) (by omega)
    · rintro i y env n' hy ⟨row, e4, e5, e6, e7, e8, rfl, hl, hr, n1, n2⟩
      have hi : i < m + 1 := by
        have := (List.getElem?_eq_some_iff.1 hy).1
        rw [rngC_len] at this
        exact this
      have ey : y = .int ((m - i : Nat) : Int) := by
        unfold rngC at hy
        rw [List.getElem?_map, List.getElem?_range hi] at hy
        have := (Option.some.inj hy).symm
        rw [this]
        have e2 : 2 + (m : Int) - 2 + (i : Int) * (-1) = ((m - i : Nat) : Int) := by omega
        show D.int (2 + (m : Int) - 2 + (i : Int) * (-1)) = _
        rw [e2]
      subst ey
      generalize hz : m - i = z
      walk_at "dv"
      refine ⟨_, rfl, by omega, by omega, tops_int (by omega) (by omega), fun p p0 p1 => ?_⟩
      refine ⟨_, rfl, by omega, by omega, tops_int (by omega) (by omega), fun r r0 r1 => ?_⟩
      obtain ⟨p, rfl⟩ : ∃ u : Int, p = u - 1 - z := ⟨p + 1 + z, by omega⟩
      obtain ⟨r, rfl⟩ : ∃ u : Int, r = u - 1 - z := ⟨r + 1 + z, by omega⟩
      walk_at "dn"
      rw [show (z : Int) + 1 + (p - 1 - z) = p by omega, show (z : Int) + 1 + (r - 1 - z) = r by omega]
      have bp : 0 ≤ p ∧ p < ((m + 2 : Nat) : Int) := by omega
      have br : 0 ≤ r ∧ r < ((m + 2 : Nat) : Int) := by omega
      have bz : 0 ≤ (z : Int) ∧ (z : Int) < ((m + 2 : Nat) : Int) := by omega
      clear p0 p1 r0 r1
      generalize (z : Int) = z at bz
      walk_at "sz"
      refine ⟨_, _, rfl, by omega, rfl, by simp, by simp, fun d hd => ?_⟩
      obtain ⟨ks, rfl, hk4, hks⟩ : ∃ ks : List D, d = .lst ks ∧ ks.length ≤ 4 ∧ ∀ x ∈ ks, KidOk (m + 2) x := by
        simp only [List.mem_cons, List.not_mem_nil, or_false] at hd
        rcases hd with e | e | e | e | e | e | e | e
        · exact ints_kids [p, r] e (by simp) (by simp; omega)
        · exact ints_kids [p, z] e (by simp) (by simp; omega)
        · exact ints_kids [z, p] e (by simp) (by simp; omega)
        · exact ints_kids [z, p, z] e (by simp) (by simp; omega)
        · exact ints_kids [p, z, r] e (by simp) (by simp; omega)
        · exact ints_kids [p, r, p] e (by simp) (by simp; omega)
        · exact ints_kids [z, p, z, r] e (by simp) (by simp; omega)
        · exact ints_kids [p] e (by simp) (by simp; omega)
      refine ⟨_, _, rfl, by omega, rfl, by rw [signsD_len]; exact h0, by rw [signsD_len]; omega, fun d hd => ?_⟩
      obtain ⟨c2, rfl, hc2⟩ := sub_sign hh hd
      refine ⟨_, _, rfl, by omega, rfl, by simp, by simp, fun d hd => ?_⟩
      obtain ⟨c3, rfl, hc3⟩ : ∃ c3 : Str, d = .str c3 ∧ ColOk c3 := by
        simp only [List.mem_cons, List.not_mem_nil, or_false] at hd
        have e0 : ColOk "" := .inl rfl
        rcases hd with e | e | e | e
        · exact ⟨_, e, e0⟩
        · exact ⟨_, e, e0⟩
        · exact ⟨_, e, e0⟩
        · exact ⟨_, e, hc2⟩
      refine ⟨ks, _, rfl, by omega, hk4, hks, fun row' n3 g1 g2 g3 g4 => ?_⟩
      have hs := sizeLine_eq
      refine ⟨by show 1 + row'.length ≤ _; omega, by omega, _, _, _, _, _, _, rfl, by rw [List.length_cons, hl], fun x hx => ?_, by omega, by omega⟩
      rcases List.mem_cons.1 hx with hx | hx
      · exact ⟨c3, row', hx, hc3, g1, g2⟩
      · exact hr x hx
def sp__law_shape : DSp := sp__law_free
abbrev s__law_shape : Stmt := topS 40
theorem sc__law_shape : FnScope ["bag", "hue", "forms", "c", "d", "tint", "kids"] ["bag", "hue"] (defScope s__law_shape) := ⟨rfl, rfl, rfl, by decide +kernel, rfl, by decide +kernel, by decide +kernel⟩
theorem ok__law_shape  {k : Nat} {f : Addr} {fd : FuncData} (M : Mg mg) (F : Fun K "_law_shape" "_law_shape" s__law_shape f fd)  (C__law_of : Cal P w K mg base CX0 k "_law_of" ["bag", "some"] sp__law_of) (C__law_placed : Cal P w K mg base CX0 k "_law_placed" ["bag", "kids"] sp__law_placed) : FnOk P w K mg base CX0 (k + 1) f fd ["bag", "hue"] (lSp K sp__law_shape) := by
  refine dok F sc__law_shape (fun ds n Q E h => ?_) (fun cdv A outer s H E hr => ⟨_, (dss_cons (ds_par (i := 3) (j := 4) sc__law_shape.nd rfl rfl (by decide) rfl rfl (da_cons (de_call C__law_of hr (da_cons (dv 0) (da_cons (dv 1) da_nil))) (da_cons (de_call C__law_of hr (da_cons (dv 0) (da_cons (dv 1) da_nil))) da_nil)))
      (dss_cons (ds_set (i := 2) sc__law_shape.nd rfl (by first | exact Or.inl rfl | exact Or.inr rfl) (DF.toE (df_lst (da_cons (DF.toE (df_lst (da_cons (de_tup (da_cons (dv 3) (da_cons (DF.toE (df_lst (da_cons de_int (da_cons de_int da_nil)))) da_nil))) da_nil))) (da_cons (DF.toE (df_lst (da_cons (de_tup (da_cons de_str (da_cons (DF.toE (df_lst (da_cons de_int (da_cons de_int da_nil)))) da_nil))) (da_cons (de_tup (da_cons (dv 3) (da_cons (DF.toE (df_lst da_nil)) da_nil))) da_nil)))) (da_cons (DF.toE (df_lst (da_cons (de_tup (da_cons de_str (da_cons (DF.toE (df_lst (da_cons de_int (da_cons de_int da_nil)))) da_nil))) (da_cons (de_tup (da_cons (dv 3) (da_cons (DF.toE (df_lst da_nil)) da_nil))) da_nil)))) (da_cons (DF.toE (df_lst (da_cons (de_tup (da_cons (dv 3) (da_cons (DF.toE (df_lst (da_cons de_int (da_cons de_int da_nil)))) da_nil))) (da_cons (de_tup (da_cons (dv 4) (da_cons (DF.toE (df_lst (da_cons de_int da_nil))) da_nil))) da_nil)))) (da_cons (DF.toE (df_lst (da_cons (de_tup (da_cons de_str (da_cons (DF.toE (df_lst (da_cons de_int (da_cons de_int (da_cons de_int da_nil))))) da_nil))) (da_cons (de_tup (da_cons (dv 3) (da_cons (DF.toE (df_lst da_nil)) da_nil))) da_nil)))) da_nil))))))))
      (dss_cons (ds_set (i := 2) sc__law_shape.nd rfl (by first | exact Or.inl rfl | exact Or.inr rfl) (de_op od_add (dvb 2) (DE.b (DF.toE (df_lst (da_cons (DF.toE (df_lst (da_cons (de_tup (da_cons de_str (da_cons (DF.toE (df_lst (da_cons de_int (da_cons de_int (da_cons de_int (da_cons de_int da_nil)))))) da_nil))) (da_cons (de_tup (da_cons (dv 3) (da_cons (DF.toE (df_lst da_nil)) da_nil))) (da_cons (de_tup (da_cons (dv 4) (da_cons (DF.toE (df_lst da_nil)) da_nil))) da_nil))))) (da_cons (DF.toE (df_lst (da_cons (de_tup (da_cons (dv 3) (da_cons (DF.toE (df_lst (da_cons de_int (da_cons de_int da_nil)))) da_nil))) (da_cons (de_tup (da_cons (dv 4) (da_cons (DF.toE (df_lst (da_cons de_int (da_cons de_int da_nil)))) da_nil))) da_nil)))) (da_cons (DF.toE (df_lst (da_cons (de_tup (da_cons de_str (da_cons (DF.toE (df_lst (da_cons de_int da_nil))) da_nil))) da_nil))) (da_cons (DF.toE (df_lst (da_cons (de_tup (da_cons (dv 3) (da_cons (DF.toE (df_lst (da_cons de_int da_nil))) da_nil))) da_nil))) (da_cons (DF.toE (df_lst (da_cons (de_tup (da_cons (dv 3) (da_cons (DF.toE (df_lst da_nil)) da_nil))) da_nil))) da_nil))))))))))
      (dss_cons (ds_set (i := 2) sc__law_shape.nd rfl (by first | exact Or.inl rfl | exact Or.inr rfl) (de_op od_add (dvb 2) (DE.b (DF.toE (df_lst (da_cons (DF.toE (df_lst (da_cons (de_tup (da_cons (dv 3) (da_cons (DF.toE (df_lst (da_cons de_int (da_cons de_int da_nil)))) da_nil))) (da_cons (de_tup (da_cons de_str (da_cons (DF.toE (df_lst (da_cons de_int (da_cons de_int da_nil)))) da_nil))) (da_cons (de_tup (da_cons (dv 4) (da_cons (DF.toE (df_lst da_nil)) da_nil))) da_nil))))) (da_cons (DF.toE (df_lst (da_cons (de_tup (da_cons de_str (da_cons (DF.toE (df_lst (da_cons de_int (da_cons de_int da_nil)))) da_nil))) (da_cons (de_tup (da_cons de_str (da_cons (DF.toE (df_lst (da_cons de_int (da_cons de_int da_nil)))) da_nil))) (da_cons (de_tup (da_cons de_str (da_cons (DF.toE (df_lst (da_cons de_int (da_cons de_int da_nil)))) da_nil))) (da_cons (de_tup (da_cons (dv 3) (da_cons (DF.toE (df_lst da_nil)) da_nil))) da_nil)))))) (da_cons (DF.toE (df_lst (da_cons (de_tup (da_cons (dv 3) (da_cons (DF.toE (df_lst (da_cons de_int (da_cons de_int (da_cons de_int da_nil))))) da_nil))) (da_cons (de_tup (da_cons (dv 4) (da_cons (DF.toE (df_lst da_nil)) da_nil))) da_nil)))) da_nil))))))))
      (dss_cons (ds_set (i := 2) sc__law_shape.nd rfl (by first | exact Or.inl rfl | exact Or.inr rfl) (de_op od_add (dvb 2) (DE.b (DF.toE (df_lst (da_cons (DF.toE (df_lst (da_cons (de_tup (da_cons de_str (da_cons (DF.toE (df_lst (da_cons de_int (da_cons de_int da_nil)))) da_nil))) (da_cons (de_tup (da_cons de_str (da_cons (DF.toE (df_lst (da_cons de_int (da_cons de_int da_nil)))) da_nil))) (da_cons (de_tup (da_cons (dv 3) (da_cons (DF.toE (df_lst da_nil)) da_nil))) da_nil))))) (da_cons (DF.toE (df_lst (da_cons (de_tup (da_cons de_str (da_cons (DF.toE (df_lst (da_cons de_int (da_cons de_int (da_cons de_int da_nil))))) da_nil))) (da_cons (de_tup (da_cons (dv 3) (da_cons (DF.toE (df_lst (da_cons de_int da_nil))) da_nil))) (da_cons (de_tup (da_cons (dv 4) (da_cons (DF.toE (df_lst da_nil)) da_nil))) da_nil))))) (da_cons (DF.toE (df_lst (da_cons (de_tup (da_cons (dv 3) (da_cons (DF.toE (df_lst (da_cons de_int (da_cons de_int (da_cons de_int da_nil))))) da_nil))) (da_cons (de_tup (da_cons (dv 4) (da_cons (DF.toE (df_lst da_nil)) da_nil))) (da_cons (de_tup (da_cons (dv 3) (da_cons (DF.toE (df_lst da_nil)) da_nil))) (da_cons (de_tup (da_cons (dv 4) (da_cons (DF.toE (df_lst (da_cons de_int (da_cons de_int da_nil)))) da_nil))) da_nil)))))) da_nil))))))))
      (dss_one (ds_ret (DF.toE (df_lc (own := [("tint", 5), ("kids", 6)]) sc__law_shape.nd (di_seq (de_call C__law_of hr (da_cons (dv 0) (da_cons (dv 2) da_nil)))) (blkOk_by (N := ["bag", "hue", "forms", "c", "d", "tint", "kids"]) (sc := defScope s__law_shape) (by decide +kernel)) (fun _ _ _ _ _ => (dg_tup (k := 2) (dgs_name (i := 5) sc__law_shape.nd rfl (by first | exact Or.inl rfl | exact Or.inr rfl) (dgs_name (i := 6) sc__law_shape.nd rfl (by first | exact Or.inl rfl | exact Or.inr rfl) dgs_nil)))) (fun _ _ _ _ _ => dts_nil) (fun _ _ _ _ _ => (de_tyc cd_tuple M.b_tuple (dab_cons (DE.b (de_op od_add (DE.b (DF.toE (df_lst (da_cons (dv 5) da_nil)))) (DE.b (de_call C__law_placed hr (da_cons (dv 0) (da_cons (dv 6) da_nil)))))) dab_nil)))))))))))), fun ds n Q E h => ?_⟩)
  · obtain ⟨ks, rfl, _⟩ := h
    rfl
  · obtain ⟨hu, rfl, hn, hh, q⟩ := h
    have h0 := hh.pos
    have h1 := hh.le
    walk_at "dv"
    refine ⟨_, _, rfl, by omega, rfl, by rw [signsD_len]; exact h0, by rw [signsD_len]; omega, fun d hd => ?_⟩
    obtain ⟨c, rfl, hc⟩ := sub_sign hh hd
    refine ⟨_, _, rfl, by omega, rfl, by rw [signsD_len]; exact h0, by rw [signsD_len]; omega, fun d hd => ?_⟩
    obtain ⟨c', rfl, hc'⟩ := sub_sign hh hd
    walk_at "sz"
    refine ⟨rfl, _, _, rfl, by omega, rfl, by simp, by simp, fun d hd => ?_⟩
    have e0 : ColOk "" := .inl rfl
    obtain ⟨its, rfl, i0, i1, hits⟩ : FormOk d := by
      simp only [List.mem_cons, List.not_mem_nil, or_false] at hd
      rcases hd with e | e | e | e | e | e | e | e | e | e | e | e | e | e | e | e
      · exact ⟨([(c, [0, 0])] : List (Str × List Int)), e, by simp, by simp, fun p hp => by simp only [List.mem_cons, List.not_mem_nil, or_false] at hp; (rw [hp]; first | exact ⟨hc, by simp, by simp⟩ | exact ⟨hc', by simp, by simp⟩ | exact ⟨e0, by simp, by simp⟩)⟩
      · exact ⟨([("", [1, 0]), (c, [])] : List (Str × List Int)), e, by simp, by simp, fun p hp => by simp only [List.mem_cons, List.not_mem_nil, or_false] at hp; (rcases hp with h | h <;> rw [h] <;> first | exact ⟨hc, by simp, by simp⟩ | exact ⟨hc', by simp, by simp⟩ | exact ⟨e0, by simp, by simp⟩)⟩
      · exact ⟨([("", [0, 1]), (c, [])] : List (Str × List Int)), e, by simp, by simp, fun p hp => by simp only [List.mem_cons, List.not_mem_nil, or_false] at hp; (rcases hp with h | h <;> rw [h] <;> first | exact ⟨hc, by simp, by simp⟩ | exact ⟨hc', by simp, by simp⟩ | exact ⟨e0, by simp, by simp⟩)⟩
      · exact ⟨([(c, [0, 1]), (c', [1])] : List (Str × List Int)), e, by simp, by simp, fun p hp => by simp only [List.mem_cons, List.not_mem_nil, or_false] at hp; (rcases hp with h | h <;> rw [h] <;> first | exact ⟨hc, by simp, by simp⟩ | exact ⟨hc', by simp, by simp⟩ | exact ⟨e0, by simp, by simp⟩)⟩
      · exact ⟨([("", [0, 1, 0]), (c, [])] : List (Str × List Int)), e, by simp, by simp, fun p hp => by simp only [List.mem_cons, List.not_mem_nil, or_false] at hp; (rcases hp with h | h <;> rw [h] <;> first | exact ⟨hc, by simp, by simp⟩ | exact ⟨hc', by simp, by simp⟩ | exact ⟨e0, by simp, by simp⟩)⟩
      · exact ⟨([("", [0, 1, 0, 2]), (c, []), (c', [])] : List (Str × List Int)), e, by simp, by simp, fun p hp => by simp only [List.mem_cons, List.not_mem_nil, or_false] at hp; (rcases hp with h | h | h <;> rw [h] <;> first | exact ⟨hc, by simp, by simp⟩ | exact ⟨hc', by simp, by simp⟩ | exact ⟨e0, by simp, by simp⟩)⟩
      · exact ⟨([(c, [1, 1]), (c', [0, 0])] : List (Str × List Int)), e, by simp, by simp, fun p hp => by simp only [List.mem_cons, List.not_mem_nil, or_false] at hp; (rcases hp with h | h <;> rw [h] <;> first | exact ⟨hc, by simp, by simp⟩ | exact ⟨hc', by simp, by simp⟩ | exact ⟨e0, by simp, by simp⟩)⟩
      · exact ⟨([("", [0])] : List (Str × List Int)), e, by simp, by simp, fun p hp => by simp only [List.mem_cons, List.not_mem_nil, or_false] at hp; (rw [hp]; first | exact ⟨hc, by simp, by simp⟩ | exact ⟨hc', by simp, by simp⟩ | exact ⟨e0, by simp, by simp⟩)⟩
      · exact ⟨([(c, [0])] : List (Str × List Int)), e, by simp, by simp, fun p hp => by simp only [List.mem_cons, List.not_mem_nil, or_false] at hp; (rw [hp]; first | exact ⟨hc, by simp, by simp⟩ | exact ⟨hc', by simp, by simp⟩ | exact ⟨e0, by simp, by simp⟩)⟩
      · exact ⟨([(c, [])] : List (Str × List Int)), e, by simp, by simp, fun p hp => by simp only [List.mem_cons, List.not_mem_nil, or_false] at hp; (rw [hp]; first | exact ⟨hc, by simp, by simp⟩ | exact ⟨hc', by simp, by simp⟩ | exact ⟨e0, by simp, by simp⟩)⟩
      · exact ⟨([(c, [1, 2]), ("", [1, 1]), (c', [])] : List (Str × List Int)), e, by simp, by simp, fun p hp => by simp only [List.mem_cons, List.not_mem_nil, or_false] at hp; (rcases hp with h | h | h <;> rw [h] <;> first | exact ⟨hc, by simp, by simp⟩ | exact ⟨hc', by simp, by simp⟩ | exact ⟨e0, by simp, by simp⟩)⟩
      · exact ⟨([("", [1, 2]), ("", [1, 3]), ("", [3, 2]), (c, [])] : List (Str × List Int)), e, by simp, by simp, fun p hp => by simp only [List.mem_cons, List.not_mem_nil, or_false] at hp; (rcases hp with h | h | h | h <;> rw [h] <;> first | exact ⟨hc, by simp, by simp⟩ | exact ⟨hc', by simp, by simp⟩ | exact ⟨e0, by simp, by simp⟩)⟩
      · exact ⟨([(c, [0, 1, 0]), (c', [])] : List (Str × List Int)), e, by simp, by simp, fun p hp => by simp only [List.mem_cons, List.not_mem_nil, or_false] at hp; (rcases hp with h | h <;> rw [h] <;> first | exact ⟨hc, by simp, by simp⟩ | exact ⟨hc', by simp, by simp⟩ | exact ⟨e0, by simp, by simp⟩)⟩
      · exact ⟨([("", [2, 1]), ("", [2, 1]), (c, [])] : List (Str × List Int)), e, by simp, by simp, fun p hp => by simp only [List.mem_cons, List.not_mem_nil, or_false] at hp; (rcases hp with h | h | h <;> rw [h] <;> first | exact ⟨hc, by simp, by simp⟩ | exact ⟨hc', by simp, by simp⟩ | exact ⟨e0, by simp, by simp⟩)⟩
      · exact ⟨([("", [1, 0, 2]), (c, [1]), (c', [])] : List (Str × List Int)), e, by simp, by simp, fun p hp => by simp only [List.mem_cons, List.not_mem_nil, or_false] at hp; (rcases hp with h | h | h <;> rw [h] <;> first | exact ⟨hc, by simp, by simp⟩ | exact ⟨hc', by simp, by simp⟩ | exact ⟨e0, by simp, by simp⟩)⟩
      · exact ⟨([(c, [1, 2, 3]), (c', []), (c, []), (c', [2, 2])] : List (Str × List Int)), e, by simp, by simp, fun p hp => by simp only [List.mem_cons, List.not_mem_nil, or_false] at hp; (rcases hp with h | h | h | h <;> rw [h] <;> first | exact ⟨hc, by simp, by simp⟩ | exact ⟨hc', by simp, by simp⟩ | exact ⟨e0, by simp, by simp⟩)⟩
    walk_at "dv"
    have hs := sizeLine_eq
    refine lc_draw (fun _ d => NodeS its.length d) 4 (by rw [List.length_map]; omega) (fun ds n' g1 g2 g3 g4 => ?_) (fun i y hy n1 R hn1 hn2 hR => ?_)
    · rw [List.length_map] at g1 g4
      exact q ds n' (by omega) (by omega) (fun x hx => by obtain ⟨v, hv⟩ := List.getElem?_of_mem hx; rw [g1]; exact g2 v x hv) (by omega) (by omega)
    · rw [List.getElem?_map] at hy
      obtain ⟨p, hp, rfl⟩ := Option.map_eq_some_iff.1 hy
      have hi := (List.getElem?_eq_some_iff.1 hp).1
      obtain ⟨hp1, hp2, hp3⟩ := hits p (List.mem_of_getElem? hp)
      walk_at "dv"
      obtain ⟨ks, e, hk4, hks⟩ := ints_kids p.2 rfl hp2 hp3
      rw [e]
      refine ⟨rfl, by show 1 ≤ _; omega, ks, _, rfl, by omega, hk4, hks, fun row' n3 g1 g2 g3 g4 => ?_⟩
      walk_at "dv"
      exact ⟨by show 1 + row'.length ≤ _; omega, hR _ _ ⟨p.1, row', rfl, hp1, g1, g2⟩ (by omega) (by omega)⟩
def sp__law_net : DSp := fun ds n Q _ => ds = [.bag] ∧ n + 200 < 2 ^ 40 ∧ ∀ row n', 0 < row.length → row.length ≤ 10 → (∀ x ∈ row, NodeS row.length x) → n ≤ n' → n' ≤ n + 70 → Q (.lst row) n'
abbrev s__law_net : Stmt := topS 41
theorem sc__law_net : FnScope ["bag", "hue", "way"] ["bag"] (defScope s__law_net) := ⟨rfl, rfl, rfl, by decide +kernel, rfl, by decide +kernel, by decide +kernel⟩
theorem ok__law_net  {k : Nat} {f : Addr} {fd : FuncData} (M : Mg mg) (F : Fun K "_law_net" "_law_net" s__law_net f fd)  (C__law_of : Cal P w K mg base CX0 k "_law_of" ["bag", "some"] sp__law_of) (C__law_draw : Cal P w K mg base CX0 k "_law_draw" ["bag", "top"] sp__law_draw) (C__law_free : Cal P w K mg base CX0 k "_law_free" ["bag", "hue"] sp__law_free) (C__law_grown : Cal P w K mg base CX0 k "_law_grown" ["bag", "hue"] sp__law_grown) (C__law_shape : Cal P w K mg base CX0 k "_law_shape" ["bag", "hue"] sp__law_shape) : FnOk P w K mg base CX0 (k + 1) f fd ["bag"] (lSp K sp__law_net) := by
  refine dok F sc__law_net (fun ds n Q E h => ?_) (fun cdv A outer s H E hr => ⟨_, (dss_cons (ds_set (i := 1) sc__law_net.nd rfl (by first | exact Or.inl rfl | exact Or.inr rfl) (de_call C__law_of hr (da_cons (dv 0) (da_cons (DF.toE (df_lst (da_cons de_str (da_cons de_str (da_cons de_str (da_cons de_str (da_cons de_str da_nil))))))) da_nil))))
      (dss_cons (ds_set (i := 2) sc__law_net.nd rfl (by first | exact Or.inl rfl | exact Or.inr rfl) (de_call C__law_draw hr (da_cons (dv 0) (da_cons de_int da_nil))))
      (dss_cons (ds_if (dt_cmp od_lt (dvb 2) (DE.b de_int)) (dss_one (ds_ret (de_call C__law_free hr (da_cons (dv 0) (da_cons (dv 1) da_nil))))) dss_nil)
      (dss_one (ds_ret (de_if (dt_cmp od_lt (dvb 2) (DE.b de_int)) (de_call C__law_grown hr (da_cons (dv 0) (da_cons (dv 1) da_nil))) (de_call C__law_shape hr (da_cons (dv 0) (da_cons (dv 1) da_nil))))))))), fun ds n Q E h => ?_⟩)
  · exact congrArg List.length h.1
  · obtain ⟨rfl, hn, q⟩ := h
    walk_at "dv"
    refine ⟨by decide, _, _, rfl, by omega, rfl, by simp, by simp, fun d hd => ?_⟩
    obtain ⟨u, rfl, hh⟩ : ∃ u : Str, d = .str u ∧ HueOk u := by
      simp only [List.mem_cons, List.not_mem_nil, or_false] at hd
      rcases hd with e | e | e | e | e <;> exact ⟨_, e, by decide +kernel, by decide +kernel, by decide +kernel⟩
    refine ⟨_, rfl, by omega, by decide, by decide +kernel, fun k k0 k1 => ?_⟩
    walk_at "dv"
    split
    · exact ⟨u, rfl, by omega, hh, fun row n' a b c d e => q row n' a b c (by omega) (by omega)⟩
    · split
      · exact ⟨u, rfl, by omega, hh, fun row n' a b c d e => q row n' a b c (by omega) (by omega)⟩
      · exact ⟨u, rfl, by omega, hh, fun row n' a b c d e => q row n' a b c (by omega) (by omega)⟩
end
end K4

set_option Elab.async false
set_option linter.all false
set_option maxRecDepth 100000
set_option maxHeartbeats 4000000
/-! k04: any value, what is due -/
namespace K4
open PySem PySem.Spec PyProof.Rows L2 Dv
local macro_rules | `(tactic| walk_at "dv") => `(tactic| simp only [s_var, s_varb, s_test, s_tru, s_andv, s_orv, s_notv, s_chain, s_part, s_list, s_len, s_tuple, s_is, s_ixl, s_ixt, s_ixs, s_seqi, s_gcons, s_gnil, s_gtup, s_append, s_insert, s_enum, s_par, s_listRg, s_rng3, s_raise1, asIns_i, s_putF, s_fld, asFld_i, s_startI4, asLT_l, asLT_t, cx_K, s_reverse, s_retof, s_reto,
  asBl_bl, asInt_int, asTup_tup, asSome_some, asLst_lst, atVal_0, atVal_s, atGet_0, atGet_o, atGet_s, atOb_o, atOb_s, s_start0, s_startU, s_startV, s_add, s_addS, s_addL, s_addT, s_i2, s_ordI, s_ordS, s_isN, s_mulI, s_mulS, s_mulL, s_strip, s_inS, s_neg, s_abs, s_intI, s_intB, s_slL, s_slT, s_slS, isStr_str, s_ifand, s_ifor, s_eqS, s_eqI, s_eqB, Dv.ite_tt, Dv.ite_ff,
  wC, wOp, wMt1, Dv.wNot, Dv.wAnd, Dv.wOr, wIfE, wNil, wCons, wTup, wLst, wOb, Ob.d, wCall, wNoPart, wSl, wNx, Dv.wSeq, wDrop, wSortedSet, wSortedLen, wSortedPair, s_all, s_lc, s_for, s_zip, s_zipS, s_rng1, s_rng2, asZip_lst, asZip_tup, asStr_str, wRet, wRetN, wRetF, wSet, wOwn, wSetOb, wIf, wBk, wCt, wFn, wFnB, wFnF, wFnK, wFnFK, dEnds, dEndsF, gNm, wYes,
  wipeE, List.map_cons, List.map_nil, List.set_cons_zero, List.set_cons_succ, D.tru, D.len, D.items, D.seq, D.flat, D.isNon, true_and, and_true, if_true, if_false, Bool.false_eq_true, Bool.not_true, Bool.not_false])
local macro_rules | `(tactic| walk_at "dn") => `(tactic| simp only [↓s_var, ↓s_varb, ↓s_test, ↓s_tru, ↓s_andv, ↓s_orv, ↓s_notv, ↓s_chain, ↓s_part, ↓s_list, ↓s_rInt2, ↓s_len, ↓s_tuple, ↓s_is, ↓s_ixl, ↓s_ixt, ↓s_ixs, ↓s_seqi, ↓s_gcons, ↓s_gnil, ↓s_gtup, ↓s_append, ↓s_insert, ↓s_enum, ↓s_par, ↓s_listRg, ↓s_rng3, ↓s_raise1, ↓asIns_i, ↓s_putF, ↓s_fld, ↓asFld_i, ↓s_startI4, ↓asLT_l, ↓asLT_t, ↓cx_K, ↓s_reverse, ↓s_retof, ↓s_reto, ↓asBl_bl, ↓asInt_int, ↓asTup_tup, ↓asSome_some, ↓asLst_lst, ↓atVal_0, ↓atVal_s, ↓atGet_0, ↓atGet_o, ↓atGet_s, ↓atOb_o, ↓atOb_s, ↓s_start0, ↓s_startU, ↓s_startV, ↓s_add, ↓s_addS, ↓s_addL, ↓s_addT, ↓s_i2, ↓s_ordI, ↓s_ordS, ↓s_isN, ↓s_mulI, ↓s_mulS, ↓s_mulL, ↓s_strip, ↓s_inS, ↓s_neg, ↓s_abs, ↓s_intI, ↓s_intB, ↓s_slL, ↓s_slT, ↓s_slS, ↓isStr_str, ↓s_ifand, ↓s_ifor, ↓s_eqS, ↓s_eqI, ↓s_eqB, ↓Dv.ite_tt, ↓Dv.ite_ff, wC, wOp, wMt1, Dv.wNot, Dv.wAnd, Dv.wOr, wIfE, wNil, wCons, wTup, wLst, wOb, Ob.d, wCall, wNoPart, wOrT, wAndT, wHead, wGetK, rIxK, wSl, wNx, Dv.wSeq, wDrop, wSortedSet, wSortedLen, wSortedPair, ↓s_all, ↓s_lc, ↓s_for, ↓s_zip, ↓s_zipS, ↓s_rng1, ↓s_rng2, ↓asZip_lst, ↓asZip_tup, ↓asStr_str, wRet, wRetN, wRetF, wSet, wOwn, wSetOb, wIf, wBk, wCt, wFn, wFnB, wFnF, wFnK, wFnFK, dEnds, dEndsF, gNm, wYes, wipeE, List.map_cons, List.map_nil, List.set_cons_zero, List.set_cons_succ, D.tru, D.len, D.items, D.seq, D.flat, D.isNon, ↓true_and, ↓and_true, ↓if_true, ↓if_false, Bool.false_eq_true, Bool.not_true, Bool.not_false])

local macro_rules | `(tactic| walk_at "sz") => `(tactic| simp only [List.length_cons, List.length_nil, sizeLine_eq, Nat.reduceAdd, Nat.reduceLeDiff, Nat.reduceSub, true_and, List.cons_append, List.nil_append])
section
variable {P : Program} {w : World} {K : PySem.W.Frag} {mg : Str → Option Value} {base : Heap}
def menuD : List D := [.non, .bl true, .bl false, .int 0, .int 1, .int (-1), .int 7, .int (10 ^ 30), .str "", .str "a", .str "x", .str "-", .str "ab", .str "e", .tup [], .lst [], .tup [.str "a"], .lst [.str "a"], .tup [.int 1, .int 2], .tup [.tup []], .str "X", .str "a\n", .str " ", .tup [.str "x", .non, .non, .non, .non], .lst [.tup [.str "a", .int 1]]]
def sp__law_any : DSp := fun ds n Q _ => ∃ (more : List D) (R : D → Prop), ds = [.bag, .lst more] ∧ n < 2 ^ 40 ∧ more.length ≤ 100 ∧ (∀ d ∈ menuD, R d) ∧ (∀ d ∈ more, R d) ∧ ∀ d, R d → Q d (n + 1)
abbrev s__law_any : Stmt := topS 42
theorem sc__law_any : FnScope ["bag", "more", "menu"] ["bag", "more"] (defScope s__law_any) := ⟨rfl, rfl, rfl, by decide +kernel, rfl, by decide +kernel, by decide +kernel⟩
theorem ok__law_any  {k : Nat} {f : Addr} {fd : FuncData} (M : Mg mg) (F : Fun K "_law_any" "_law_any" s__law_any f fd)  (C__law_of : Cal P w K mg base CX0 k "_law_of" ["bag", "some"] sp__law_of) : FnOk P w K mg base CX0 (k + 1) f fd ["bag", "more"] (lSp K sp__law_any) := by
  refine dok F sc__law_any (fun ds n Q E h => ?_) (fun cdv A outer s H E hr => ⟨_, (dss_cons (ds_set (i := 2) sc__law_any.nd rfl (by first | exact Or.inl rfl | exact Or.inr rfl) (DF.toE (df_lst (da_cons de_non (da_cons de_bl (da_cons de_bl (da_cons de_int (da_cons de_int (da_cons (de_neg (DE.b de_int)) (da_cons de_int (da_cons (de_op od_pow (DE.b de_int) (DE.b de_int)) (da_cons de_str (da_cons de_str (da_cons de_str (da_cons de_str (da_cons de_str (da_cons de_str (da_cons (de_tup da_nil) (da_cons (DF.toE (df_lst da_nil)) (da_cons (de_tup (da_cons de_str da_nil)) (da_cons (DF.toE (df_lst (da_cons de_str da_nil))) (da_cons (de_tup (da_cons de_int (da_cons de_int da_nil))) (da_cons (de_tup (da_cons (de_tup da_nil) da_nil)) (da_cons de_str (da_cons de_str (da_cons de_str da_nil))))))))))))))))))))))))))
      (dss_one (ds_ret (de_call C__law_of hr (da_cons (dv 0) (da_cons (de_op od_add (DE.b (de_op od_add (dvb 2) (DE.b (DF.toE (df_lst (da_cons (de_tup (da_cons de_str (da_cons de_non (da_cons de_non (da_cons de_non (da_cons de_non da_nil)))))) (da_cons (DF.toE (df_lst (da_cons (de_tup (da_cons de_str (da_cons de_int da_nil))) da_nil))) da_nil))))))) (dvb 1)) da_nil)))))), fun ds n Q E h => ?_⟩)
  · obtain ⟨m, R, rfl, _⟩ := h
    rfl
  · obtain ⟨m, R, rfl, hn, hl, hm, hr, q⟩ := h
    walk_at "dv"
    walk_at "sz"
    refine ⟨by first | decide | exact ⟨by decide, by decide, by decide⟩, by omega, _, _, rfl, hn, rfl, by simp, by simp only [List.length_cons]; omega, fun d hd => q d ?_⟩
    have e : ∀ x : D, x ∈ menuD ++ m → R x := fun x hx => by
      rcases List.mem_append.1 hx with h | h
      · exact hm x h
      · exact hr x h
    exact e d hd
end
end K4

set_option Elab.async false
set_option linter.all false
set_option maxRecDepth 100000
set_option maxHeartbeats 4000000
/-! k04: the reading of nodes and books, on signs -/
namespace M4
open PySem SX K4 Dv
/-- a number's text as it is written in a node -/
def idxB (l : List Nat) : Bool := l.all (fun c => decide (48 ≤ c) && decide (c ≤ 57)) && (decide (1 ≤ l.length) && decide (l.length ≤ 3)) && (decide (l = [48]) || decide (l.head? ≠ some 48))
def valL (l : List Nat) : Nat := NumText.digitsVal l
theorem numL_single {n : Nat} (h : n < 10) : TL.numL n = [48 + n] := TL.numL_lt h
theorem numL_two {n : Nat} (h0 : 10 ≤ n) (h : n < 100) : TL.numL n = [48 + n / 10, 48 + n % 10] := by
  rw [TL.numL_step h0, TL.numL_lt (show n / 10 < 10 by omega)]
  rfl
theorem numL_three {n : Nat} (h0 : 100 ≤ n) (h : n < 1000) : TL.numL n = [48 + n / 100, 48 + n / 10 % 10, 48 + n % 10] := by
  rw [TL.numL_step (by omega), numL_two (show 10 ≤ n / 10 by omega) (by omega)]
  rw [show n / 10 / 10 = n / 100 by omega]
  rfl
theorem idx_num {n : Nat} (h : n < 1000) : idxB (TL.numL n) = true := by
  by_cases h1 : n < 10
  · rw [numL_single h1]
    unfold idxB
    simp
    omega
  · by_cases h2 : n < 100
    · rw [numL_two (by omega) h2]
      unfold idxB
      simp
      omega
    · rw [numL_three (by omega) h]
      unfold idxB
      simp
      omega
theorem val_num (n : Nat) : valL (TL.numL n) = n := TL.numL_val n
theorem num_val {l : List Nat} (h : idxB l = true) : TL.numL (valL l) = l ∧ valL l < 1000 := by
  unfold idxB at h
  rw [Bool.and_eq_true, Bool.and_eq_true, Bool.and_eq_true, Bool.or_eq_true, decide_eq_true_eq, decide_eq_true_eq, decide_eq_true_eq, decide_eq_true_eq, List.all_eq_true] at h
  obtain ⟨⟨hd, h1, h3⟩, h0⟩ := h
  have dg : ∀ c ∈ l, 48 ≤ c ∧ c ≤ 57 := fun c hc => by
    have := hd c hc
    rw [Bool.and_eq_true, decide_eq_true_eq, decide_eq_true_eq] at this
    exact this
  match l, h1, h3 with
  | [a], _, _ =>
    have ha := dg a (by simp)
    have e : valL [a] = a - 48 := by
      unfold valL NumText.digitsVal
      simp
    rw [e, numL_single (by omega)]
    exact ⟨by rw [show 48 + (a - 48) = a by omega], by omega⟩
  | [a, b], _, _ =>
    have ha := dg a (by simp)
    have hb := dg b (by simp)
    have na : a ≠ 48 := by
      rcases h0 with h | h
      · cases h
      · intro e
        subst e
        exact h rfl
    have e : valL [a, b] = (a - 48) * 10 + (b - 48) := by
      unfold valL NumText.digitsVal
      simp
    rw [e, numL_two (by omega) (by omega)]
    refine ⟨?_, by omega⟩
    rw [show 48 + ((a - 48) * 10 + (b - 48)) / 10 = a by omega, show 48 + ((a - 48) * 10 + (b - 48)) % 10 = b by omega]
  | [a, b, c], _, _ =>
    have ha := dg a (by simp)
    have hb := dg b (by simp)
    have hc := dg c (by simp)
    have na : a ≠ 48 := by
      rcases h0 with h | h
      · cases h
      · intro e
        subst e
        exact h rfl
    have e : valL [a, b, c] = ((a - 48) * 10 + (b - 48)) * 10 + (c - 48) := by
      unfold valL NumText.digitsVal
      simp
    rw [e, numL_three (by omega) (by omega)]
    refine ⟨?_, by omega⟩
    rw [show 48 + (((a - 48) * 10 + (b - 48)) * 10 + (c - 48)) / 100 = a by omega, show 48 + (((a - 48) * 10 + (b - 48)) * 10 + (c - 48)) / 10 % 10 = b by omega,
      show 48 + (((a - 48) * 10 + (b - 48)) * 10 + (c - 48)) % 10 = c by omega]
  | _ :: _ :: _ :: _ :: _, _, h => simp at h
/-! ### nodes -/
abbrev Kids := List (Option Nat)
/-- what is read so far: how far, and the children -/
abbrev StP := Nat × Kids
def placeOf (c : Nat) : Nat := if 97 ≤ c ∧ c ≤ 100 then c - 96 else 0
def stepP (s : StP) (p : List Nat) : Option StP := match p with
  | [] => none
  | c :: r => if placeOf c ≤ s.1 ∨ idxB r = false then none else some (placeOf c, s.2.set (placeOf c - 1) (some (valL r)))
def goP : List (List Nat) → StP → Option StP
  | [], s => some s
  | p :: ps, s => (stepP s p).bind (goP ps)
/-- a color's signs, or none -/
def colOf (h : List Nat) : Option Str := if h = [45] then some "" else if h = [120] then some "x" else if h = [121] then some "y" else if h = [122] then some "z" else none
def colL (c : Str) : List Nat := if c = "" then [45] else c.cps.toList
def k0 : Kids := [none, none, none, none]
def nodeOf (l : List Nat) : Option Nd := match cutAt 32 l with
  | [] => none
  | h :: ps => (colOf h).bind fun c => (goP ps (0, k0)).map fun s => (c, s.2)
/-- the children as text, from a letter on -/
def prt : Nat → Kids → List Nat
  | _, [] => []
  | c, none :: r => prt (c + 1) r
  | c, some k :: r => 32 :: c :: (TL.numL k ++ prt (c + 1) r)
def nodeT (x : Nd) : List Nat := colL x.1 ++ prt 97 x.2
def joinP (ps : List (List Nat)) : List Nat := (ps.map fun p => 32 :: p).flatten
theorem cut_join (c : Nat) : ∀ l : List Nat, ∃ h ps, cutAt c l = h :: ps ∧ l = h ++ (ps.map fun p => c :: p).flatten
  | [] => ⟨[], [], rfl, rfl⟩
  | d :: r => by
    obtain ⟨h, ps, e1, e2⟩ := cut_join c r
    by_cases hd : d = c
    · refine ⟨[], h :: ps, ?_, ?_⟩
      · show (if d = c then _ else _) = _
        rw [if_pos hd, e1]
      · subst hd
        rw [e2]
        simp
    · refine ⟨d :: h, ps, ?_, ?_⟩
      · show (if d = c then _ else _) = _
        rw [if_neg hd, e1]
      · rw [List.cons_append, ← e2]
theorem cut_app {c : Nat} : ∀ {p : List Nat} (q : List Nat), c ∉ p → cutAt c (p ++ c :: q) = p :: cutAt c q
  | [], q, _ => by
    show (if c = c then _ else _) = _
    rw [if_pos rfl]
  | d :: p, q, h => by
    have hd : d ≠ c := fun e => h (by rw [e]; exact List.mem_cons_self)
    have ih := cut_app (p := p) q fun m => h (List.mem_cons_of_mem _ m)
    show (if d = c then _ else _) = _
    rw [if_neg hd]
    show (match cutAt c (p ++ c :: q) with | [] => [[d]] | p :: ps => (d :: p) :: ps) = _
    rw [ih]
theorem cut_free {c : Nat} : ∀ {p : List Nat}, c ∉ p → cutAt c p = [p]
  | [], _ => rfl
  | d :: p, h => by
    have hd : d ≠ c := fun e => h (by rw [e]; exact List.mem_cons_self)
    have ih := cut_free (p := p) fun m => h (List.mem_cons_of_mem _ m)
    show (if d = c then _ else _) = _
    rw [if_neg hd, ih]
theorem cut_pieces {c : Nat} : ∀ {ps : List (List Nat)} {h : List Nat}, c ∉ h → (∀ p ∈ ps, c ∉ p) → cutAt c (h ++ (ps.map fun p => c :: p).flatten) = h :: ps
  | [], h, hh, _ => by
    rw [List.map_nil, List.flatten_nil, List.append_nil]
    exact cut_free hh
  | p :: ps, h, hh, hp => by
    rw [List.map_cons, List.flatten_cons, List.cons_append, cut_app _ hh, cut_pieces (hp p List.mem_cons_self) fun q hq => hp q (List.mem_cons_of_mem _ hq)]
theorem col_back {h : List Nat} {c : Str} (e : colOf h = some c) : colL c = h ∧ ColOk c := by
  unfold colOf at e
  split at e
  · cases e
    rename_i q
    exact ⟨by rw [q]; rfl, .inl rfl⟩
  · split at e
    · cases e
      rename_i q
      exact ⟨by rw [q]; decide +kernel, .inr (.inl rfl)⟩
    · split at e
      · cases e
        rename_i q
        exact ⟨by rw [q]; decide +kernel, .inr (.inr (.inl rfl))⟩
      · split at e
        · cases e
          rename_i q
          exact ⟨by rw [q]; decide +kernel, .inr (.inr (.inr rfl))⟩
        · cases e
theorem col_forth {c : Str} (h : ColOk c) : colOf (colL c) = some c ∧ (32 ∉ colL c ∧ 10 ∉ colL c) := by
  rcases h with rfl | rfl | rfl | rfl <;> decide +kernel
/-- behind a: nothing yet -/
def Free (a : Nat) (ks : Kids) : Prop := ks.length = 4 ∧ ∀ i, a ≤ i → i < 4 → ks[i]? = some none
theorem go_print : ∀ {ps : List (List Nat)} {a : Nat} {ks : Kids} {s : StP}, a ≤ 4 → Free a ks → goP ps (a, ks) = some s → s.2.length = 4 ∧ (∀ i, i < a → s.2[i]? = ks[i]?) ∧ joinP ps = prt (97 + a) (s.2.drop a) ∧ ∀ k, some k ∈ s.2 → some k ∈ ks ∨ k < 1000
  | [], a, ks, s, ha, hf, h => by
    cases h
    refine ⟨hf.1, fun i _ => rfl, ?_, fun k hk => .inl hk⟩
    have key : ∀ (m c : Nat), prt c (List.replicate m none) = [] := by
      intro m
      induction m with
      | zero => intro c; rfl
      | succ m ih => intro c; exact ih (c + 1)
    have e : ks.drop a = List.replicate (4 - a) none := by
      apply List.ext_getElem?
      intro i
      rw [List.getElem?_drop, List.getElem?_replicate]
      split
      · rename_i hi
        exact hf.2 (a + i) (by omega) (by omega)
      · exact List.getElem?_eq_none (by rw [hf.1]; omega)
    rw [e, key]
    rfl
  | p :: ps, a, ks, s, ha, hf, h => by
    have h' : (stepP (a, ks) p).bind (goP ps) = some s := h
    cases p with
    | nil => cases h'
    | cons c r =>
      have e1 : stepP (a, ks) (c :: r) = if placeOf c ≤ a ∨ idxB r = false then none else some (placeOf c, ks.set (placeOf c - 1) (some (valL r))) := rfl
      rw [e1] at h'
      by_cases hc : placeOf c ≤ a ∨ idxB r = false
      · rw [if_pos hc] at h'
        cases h'
      · rw [if_neg hc] at h'
        have hp1 : a < placeOf c := by
          rcases Nat.lt_or_ge a (placeOf c) with g | g
          · exact g
          · exact absurd (.inl g) hc
        have hp2 : idxB r = true := by
          cases e : idxB r with
          | true => rfl
          | false => exact absurd (.inr e) hc
        have hpl : placeOf c ≤ 4 ∧ c = placeOf c + 96 := by
          unfold placeOf at hp1 ⊢
          split
          · omega
          · rename_i q
            rw [if_neg q] at hp1
            omega
        obtain ⟨j, hj⟩ : ∃ j, placeOf c = j + 1 := ⟨placeOf c - 1, by omega⟩
        rw [hj] at h' hp1 hpl
        rw [Nat.add_sub_cancel] at h'
        have hf2 : Free (j + 1) (ks.set j (some (valL r))) := ⟨by rw [List.length_set]; exact hf.1, fun i h1 h2 => by
          rw [List.getElem?_set_ne (by omega)]
          exact hf.2 i (by omega) h2⟩
        obtain ⟨g1, g2, g3, g4⟩ := go_print (by omega) hf2 h'
        obtain ⟨nv, nl⟩ := num_val hp2
        refine ⟨g1, fun i hi => ?_, ?_, fun k hk => ?_⟩
        · rw [g2 i (by omega), List.getElem?_set_ne (by omega)]
        · have hsj : s.2[j]? = some (some (valL r)) := by
            rw [g2 j (by omega), List.getElem?_set_self (by rw [hf.1]; omega)]
          have mid : ∀ (m b : Nat), b + m = j → a ≤ b → prt (97 + b) (s.2.drop b) = prt (97 + j) (s.2.drop j) := by
            intro m
            induction m with
            | zero => intro b hb _; rw [show b = j by omega]
            | succ m ih =>
              intro b hb hab
              have hsb : s.2[b]? = some none := by
                rw [g2 b (by omega), List.getElem?_set_ne (by omega)]
                exact hf.2 b hab (by omega)
              obtain ⟨hbl, hbv⟩ := List.getElem?_eq_some_iff.1 hsb
              rw [List.drop_eq_getElem_cons hbl, hbv]
              show prt (97 + b + 1) _ = _
              exact ih (b + 1) (by omega) (by omega)
          rw [mid (j - a) a (by omega) (Nat.le_refl _)]
          obtain ⟨hjl, hjv⟩ := List.getElem?_eq_some_iff.1 hsj
          rw [List.drop_eq_getElem_cons hjl, hjv]
          show (32 :: c :: r) ++ joinP ps = 32 :: (97 + j) :: (TL.numL (valL r) ++ prt (97 + j + 1) (s.2.drop (j + 1)))
          rw [nv, g3, show 97 + (j + 1) = 97 + j + 1 by omega, show c = 97 + j by omega]
          rfl
        · rcases g4 k hk with g | g
          · rcases List.mem_or_eq_of_mem_set g with g | g
            · exact .inl g
            · cases g
              exact .inr nl
          · exact .inr g
theorem node_print {l : List Nat} {x : Nd} (h : nodeOf l = some x) : nodeT x = l ∧ ColOk x.1 ∧ x.2.length = 4 ∧ ∀ k, some k ∈ x.2 → k < 1000 := by
  unfold nodeOf at h
  obtain ⟨hd, ps, e1, e2⟩ := cut_join 32 l
  rw [e1] at h
  have h' : ((colOf hd).bind fun c => (goP ps (0, k0)).map fun s => (c, s.2)) = some x := h
  cases ec : colOf hd with
  | none => rw [ec] at h'; cases h'
  | some c =>
    rw [ec] at h'
    have h2 : (goP ps (0, k0)).map (fun s => (c, s.2)) = some x := h'
    cases eg : goP ps (0, k0) with
    | none => rw [eg] at h2; cases h2
    | some s =>
      rw [eg] at h2
      cases h2
      have hf : Free 0 k0 := ⟨rfl, fun i _ h4 => by
        match i, h4 with
        | 0, _ => rfl
        | 1, _ => rfl
        | 2, _ => rfl
        | 3, _ => rfl⟩
      obtain ⟨g1, g2, g3, g4⟩ := go_print (by omega) hf eg
      obtain ⟨c1, c2⟩ := col_back ec
      refine ⟨?_, c2, g1, fun k hk => ?_⟩
      · show colL c ++ prt 97 s.2 = l
        rw [c1, e2]
        have : joinP ps = prt 97 s.2 := g3
        rw [← this]
        rfl
      · rcases g4 k hk with g | g
        · simp [k0] at g
        · exact g
/-- a node as it may be written -/
structure NdW (x : Nd) : Prop where
  col : ColOk x.1
  len : x.2.length = 4
  lt : ∀ k, some k ∈ x.2 → k < 1000
theorem num_free {n c : Nat} (h : c < 48) : c ∉ TL.numL n := TL.numL_free (.inl h)
theorem prt_pieces (c : Nat) : ∀ ks : Kids, ∃ ps : List (List Nat), prt c ks = joinP ps ∧ ∀ p ∈ ps, ∃ d k, p = d :: TL.numL k ∧ c ≤ d ∧ d < c + ks.length := by
  intro ks
  induction ks generalizing c with
  | nil => exact ⟨[], rfl, fun p hp => nomatch hp⟩
  | cons k ks ih =>
    obtain ⟨ps, e, h⟩ := ih (c + 1)
    cases k with
    | none => exact ⟨ps, e, fun p hp => by obtain ⟨d, k, h1, h2, h3⟩ := h p hp; exact ⟨d, k, h1, by omega, by rw [List.length_cons]; omega⟩⟩
    | some k =>
      refine ⟨(c :: TL.numL k) :: ps, ?_, fun p hp => ?_⟩
      · show 32 :: c :: (TL.numL k ++ prt (c + 1) ks) = _
        rw [e]
        rfl
      · rcases List.mem_cons.1 hp with rfl | hp
        · exact ⟨c, k, rfl, Nat.le_refl _, by rw [List.length_cons]; omega⟩
        · obtain ⟨d, k, h1, h2, h3⟩ := h p hp
          exact ⟨d, k, h1, by omega, by rw [List.length_cons]; omega⟩
theorem node_read {x : Nd} (h : NdW x) : nodeOf (nodeT x) = some x ∧ 10 ∉ nodeT x := by
  obtain ⟨c, ks⟩ := x
  obtain ⟨hc, hl, hk⟩ := h
  obtain ⟨f1, f2, f3⟩ := col_forth hc
  match ks, hl with
  | [k0', k1, k2, k3], _ =>
    have b0 : ∀ k, k0' = some k → k < 1000 := fun k e => hk k (by rw [e]; simp)
    have b1 : ∀ k, k1 = some k → k < 1000 := fun k e => hk k (by rw [e]; simp)
    have b2 : ∀ k, k2 = some k → k < 1000 := fun k e => hk k (by rw [e]; simp)
    have b3 : ∀ k, k3 = some k → k < 1000 := fun k e => hk k (by rw [e]; simp)
    have pc : ∀ (d : Nat) (k : Nat), 97 ≤ d → 32 ∉ d :: TL.numL k := fun d k hd hm => by
      rcases List.mem_cons.1 hm with e | hm
      · omega
      · exact num_free (by decide) hm
    have step : ∀ (d : Nat) (s : StP) (k : Nat), k < 1000 → 97 ≤ d → d ≤ 100 → s.1 < d - 96 → stepP s (d :: TL.numL k) = some (d - 96, s.2.set (d - 97) (some k)) := fun d s k hk h1 h2 h3 => by
      have hp : placeOf d = d - 96 := by unfold placeOf; rw [if_pos ⟨h1, h2⟩]
      show (if placeOf d ≤ s.1 ∨ idxB (TL.numL k) = false then none else some (placeOf d, s.2.set (placeOf d - 1) (some (valL (TL.numL k))))) = _
      rw [hp, idx_num hk, val_num, if_neg (by simp; omega), show d - 96 - 1 = d - 97 by omega]
    have main : ∀ ps : List (List Nat), prt 97 [k0', k1, k2, k3] = joinP ps → (∀ p ∈ ps, 32 ∉ p) → (goP ps (0, M4.k0)).map (·.2) = some [k0', k1, k2, k3] → nodeOf (nodeT (c, [k0', k1, k2, k3])) = some (c, [k0', k1, k2, k3]) := fun ps e hp hg => by
      unfold nodeOf nodeT
      show (match cutAt 32 (colL c ++ prt 97 [k0', k1, k2, k3]) with | [] => none | h :: ps => _) = _
      rw [e]
      unfold joinP
      rw [cut_pieces f2 hp]
      show ((colOf (colL c)).bind fun c => (goP ps (0, M4.k0)).map fun s => (c, s.2)) = _
      rw [f1]
      show (goP ps (0, M4.k0)).map (fun s => (c, s.2)) = _
      cases eg : goP ps (0, M4.k0) with
      | none => rw [eg] at hg; cases hg
      | some s =>
        rw [eg] at hg
        have : s.2 = [k0', k1, k2, k3] := Option.some.inj hg
        show some (c, s.2) = _
        rw [this]
    refine ⟨?_, ?_⟩
    · cases k0' with
      | none => cases k1 with
        | none => cases k2 with
          | none => cases k3 with
            | none => exact main [] rfl (fun p hp => nomatch hp) rfl
            | some d => exact main [100 :: TL.numL d] (by simp [prt, joinP]) (by simp; exact num_free (by decide)) (by simp [goP, step, b3, M4.k0])
          | some b => cases k3 with
            | none => exact main [99 :: TL.numL b] (by simp [prt, joinP]) (by simp; exact num_free (by decide)) (by simp [goP, step, b2, M4.k0])
            | some d => exact main [99 :: TL.numL b, 100 :: TL.numL d] (by simp [prt, joinP]) (by simp; exact ⟨num_free (by decide), num_free (by decide)⟩) (by simp [goP, step, b2, b3, M4.k0])
        | some a => cases k2 with
          | none => cases k3 with
            | none => exact main [98 :: TL.numL a] (by simp [prt, joinP]) (by simp; exact num_free (by decide)) (by simp [goP, step, b1, M4.k0])
            | some d => exact main [98 :: TL.numL a, 100 :: TL.numL d] (by simp [prt, joinP]) (by simp; exact ⟨num_free (by decide), num_free (by decide)⟩) (by simp [goP, step, b1, b3, M4.k0])
          | some b => cases k3 with
            | none => exact main [98 :: TL.numL a, 99 :: TL.numL b] (by simp [prt, joinP]) (by simp; exact ⟨num_free (by decide), num_free (by decide)⟩) (by simp [goP, step, b1, b2, M4.k0])
            | some d => exact main [98 :: TL.numL a, 99 :: TL.numL b, 100 :: TL.numL d] (by simp [prt, joinP]) (by simp; exact ⟨num_free (by decide), num_free (by decide), num_free (by decide)⟩) (by simp [goP, step, b1, b2, b3, M4.k0])
      | some z => cases k1 with
        | none => cases k2 with
          | none => cases k3 with
            | none => exact main [97 :: TL.numL z] (by simp [prt, joinP]) (by simp; exact num_free (by decide)) (by simp [goP, step, b0, M4.k0])
            | some d => exact main [97 :: TL.numL z, 100 :: TL.numL d] (by simp [prt, joinP]) (by simp; exact ⟨num_free (by decide), num_free (by decide)⟩) (by simp [goP, step, b0, b3, M4.k0])
          | some b => cases k3 with
            | none => exact main [97 :: TL.numL z, 99 :: TL.numL b] (by simp [prt, joinP]) (by simp; exact ⟨num_free (by decide), num_free (by decide)⟩) (by simp [goP, step, b0, b2, M4.k0])
            | some d => exact main [97 :: TL.numL z, 99 :: TL.numL b, 100 :: TL.numL d] (by simp [prt, joinP]) (by simp; exact ⟨num_free (by decide), num_free (by decide), num_free (by decide)⟩) (by simp [goP, step, b0, b2, b3, M4.k0])
        | some a => cases k2 with
          | none => cases k3 with
            | none => exact main [97 :: TL.numL z, 98 :: TL.numL a] (by simp [prt, joinP]) (by simp; exact ⟨num_free (by decide), num_free (by decide)⟩) (by simp [goP, step, b0, b1, M4.k0])
            | some d => exact main [97 :: TL.numL z, 98 :: TL.numL a, 100 :: TL.numL d] (by simp [prt, joinP]) (by simp; exact ⟨num_free (by decide), num_free (by decide), num_free (by decide)⟩) (by simp [goP, step, b0, b1, b3, M4.k0])
          | some b => cases k3 with
            | none => exact main [97 :: TL.numL z, 98 :: TL.numL a, 99 :: TL.numL b] (by simp [prt, joinP]) (by simp; exact ⟨num_free (by decide), num_free (by decide), num_free (by decide)⟩) (by simp [goP, step, b0, b1, b2, M4.k0])
            | some d => exact main [97 :: TL.numL z, 98 :: TL.numL a, 99 :: TL.numL b, 100 :: TL.numL d] (by simp [prt, joinP]) (by simp; exact ⟨num_free (by decide), num_free (by decide), num_free (by decide), num_free (by decide)⟩) (by simp [goP, step, b0, b1, b2, b3, M4.k0])
    · intro hm
      rcases List.mem_append.1 (show 10 ∈ colL c ++ prt 97 [k0', k1, k2, k3] from hm) with hm | hm
      · exact f3 hm
      · obtain ⟨ps, e, hps⟩ := prt_pieces 97 [k0', k1, k2, k3]
        rw [e] at hm
        unfold joinP at hm
        obtain ⟨q, hq, hm⟩ := List.mem_flatten.1 hm
        obtain ⟨p, hp, rfl⟩ := List.mem_map.1 hq
        obtain ⟨d, k, rfl, h1, h2⟩ := hps p hp
        rcases List.mem_cons.1 hm with e | hm
        · omega
        · rcases List.mem_cons.1 hm with e | hm
          · omega
          · exact num_free (by decide) hm
end M4

set_option Elab.async false
set_option linter.all false
set_option maxRecDepth 100000
set_option maxHeartbeats 4000000
/-! Ma01: texts in short order; strip and in as words on signs -/
namespace Ma
open PySem PySem.Spec PyProof.Rows L2 Dv
theorem inS_one (c : Nat) (t : Str) : inS ⟨#[c]⟩ t = decide (c ∈ t.cps.toList) := PySem.StrLaws.found_one t c
theorem str_nil {s : Str} : s = "" ↔ s.cps.toList = [] := by
  constructor
  · rintro rfl; rfl
  · intro h
    cases s with
    | mk a =>
      have : a = #[] := by
        have h' : a.toList = [] := h
        cases a
        simp at h'
        rw [h']
      subst this
      rfl
theorem takeWhile_len {p : Nat → Bool} : ∀ {l : List Nat}, (l.takeWhile p).length = l.length ↔ ∀ c ∈ l, p c = true
  | [] => by simp
  | c :: l => by
    rw [List.takeWhile_cons]
    by_cases h : p c = true
    · rw [if_pos h, List.length_cons, List.length_cons, Nat.add_right_cancel_iff, takeWhile_len (l := l)]
      simp [h]
    · rw [if_neg h]
      simp [h]
theorem takeWhile_le (p : Nat → Bool) : ∀ (l : List Nat), (l.takeWhile p).length ≤ l.length
  | [] => Nat.le_refl _
  | c :: l => by
    rw [List.takeWhile_cons]
    split
    · rw [List.length_cons, List.length_cons]
      exact Nat.succ_le_succ (takeWhile_le p l)
    · exact Nat.zero_le _
theorem drop_takeWhile {p : Nat → Bool} : ∀ {l : List Nat}, (l.takeWhile p).length < l.length → ∃ c r, l.drop (l.takeWhile p).length = c :: r ∧ p c = false
  | [], h => by simp at h
  | c :: l, h => by
    rw [List.takeWhile_cons] at h ⊢
    by_cases hp : p c = true
    · rw [if_pos hp] at h ⊢
      rw [List.length_cons, List.length_cons] at h
      rw [List.length_cons, List.drop_succ_cons]
      exact drop_takeWhile (by omega)
    · rw [if_neg hp]
      exact ⟨c, l, rfl, by simpa using hp⟩
/-- nothing is left of a text when the signs of t are taken away at both ends: it has no others -/
theorem strip_nil (s t : Str) : Txt.stripChars s t = "" ↔ ∀ c ∈ s.cps.toList, c ∈ t.cps.toList := by
  have hp : ∀ c, t.cps.contains c = true ↔ c ∈ t.cps.toList := fun c => by simp
  have hlen : s.length = s.cps.toList.length := (Array.length_toList).symm
  have lo : PySem.stripLo t.cps.contains true s = (s.cps.toList.takeWhile t.cps.contains).length := rfl
  have hi : PySem.stripHi t.cps.contains true s (PySem.stripLo t.cps.contains true s) = s.cps.toList.length - ((s.cps.toList.drop (s.cps.toList.takeWhile t.cps.contains).length).reverse.takeWhile t.cps.contains).length := by
    rw [lo, ← hlen]
    rfl
  have le1 := takeWhile_le t.cps.contains s.cps.toList
  have le2 := takeWhile_le t.cps.contains (s.cps.toList.drop (s.cps.toList.takeWhile t.cps.contains).length).reverse
  rw [List.length_reverse, List.length_drop] at le2
  have all_iff : (∀ c ∈ s.cps.toList, c ∈ t.cps.toList) ↔ (s.cps.toList.takeWhile t.cps.contains).length = s.cps.toList.length := by
    rw [takeWhile_len]
    exact ⟨fun h c hc => (hp c).2 (h c hc), fun h c hc => (hp c).1 (h c hc)⟩
  -- a sign that stays
  have stays : (s.cps.toList.takeWhile t.cps.contains).length < s.cps.toList.length → ((s.cps.toList.drop (s.cps.toList.takeWhile t.cps.contains).length).reverse.takeWhile t.cps.contains).length < s.cps.toList.length - (s.cps.toList.takeWhile t.cps.contains).length := fun h => by
    refine Nat.lt_of_le_of_ne le2 fun e => ?_
    obtain ⟨c, r, e1, e2⟩ := drop_takeWhile h
    have : (((s.cps.toList.drop (s.cps.toList.takeWhile t.cps.contains).length).reverse.takeWhile t.cps.contains).length) = (s.cps.toList.drop (s.cps.toList.takeWhile t.cps.contains).length).reverse.length := by
      rw [e, List.length_reverse, List.length_drop]
    have a := takeWhile_len.1 this c (by rw [e1]; simp)
    rw [e2] at a
    cases a
  unfold Txt.stripChars Txt.stripBy
  rw [all_iff]
  by_cases hs : PySem.stripSame t.cps.contains true true s = true
  · rw [if_pos hs, str_nil]
    unfold PySem.stripSame at hs
    rw [hi, lo, Bool.and_eq_true, beq_iff_eq, beq_iff_eq] at hs
    constructor
    · intro h
      rw [h]
      rfl
    · intro h
      rw [hs.1] at h
      exact List.length_eq_zero_iff.1 h.symm
  · rw [if_neg hs, str_nil]
    unfold PySem.stripped Builtin.Str.strSub
    rw [hi, lo]
    have e : (s.cps.extract (s.cps.toList.takeWhile t.cps.contains).length (s.cps.toList.length - ((s.cps.toList.drop (s.cps.toList.takeWhile t.cps.contains).length).reverse.takeWhile t.cps.contains).length)).toList = [] ↔ (s.cps.toList.length - ((s.cps.toList.drop (s.cps.toList.takeWhile t.cps.contains).length).reverse.takeWhile t.cps.contains).length) ≤ (s.cps.toList.takeWhile t.cps.contains).length := by
      rw [← List.length_eq_zero_iff, Array.length_toList, Array.size_extract, ← Array.length_toList]
      omega
    rw [e]
    constructor
    · intro h
      rcases Nat.lt_or_ge (s.cps.toList.takeWhile t.cps.contains).length s.cps.toList.length with z | z
      · have := stays z
        omega
      · omega
    · intro h
      rw [h]
      omega
/-! ### strictly ascending lists -/
theorem strict_unique {α : Type} {lt : α → α → Prop} (irr : ∀ a, ¬ lt a a) (asy : ∀ a b, lt a b → ¬ lt b a) : ∀ {xs ys : List α}, xs.Pairwise lt → ys.Pairwise lt → (∀ z, z ∈ xs ↔ z ∈ ys) → xs = ys
  | [], [], _, _, _ => rfl
  | [], y :: ys, _, _, h => absurd ((h y).2 List.mem_cons_self) (by simp)
  | x :: xs, [], _, _, h => absurd ((h x).1 List.mem_cons_self) (by simp)
  | x :: xs, y :: ys, hx, hy, h => by
    rw [List.pairwise_cons] at hx hy
    have e : x = y := by
      rcases List.mem_cons.1 ((h x).1 List.mem_cons_self) with e | e
      · exact e
      · rcases List.mem_cons.1 ((h y).2 List.mem_cons_self) with f | f
        · exact f.symm
        · exact absurd (hy.1 x e) (asy _ _ (hx.1 y f))
    subst e
    rw [strict_unique irr asy hx.2 hy.2 fun z => ?_]
    constructor
    · intro hz
      rcases List.mem_cons.1 ((h z).1 (List.mem_cons_of_mem _ hz)) with e | e
      · exact absurd (hx.1 z hz) (by rw [e]; exact irr x)
      · exact e
    · intro hz
      rcases List.mem_cons.1 ((h z).2 (List.mem_cons_of_mem _ hz)) with e | e
      · exact absurd (hy.1 z hz) (by rw [e]; exact irr x)
      · exact e
theorem no_swap {α : Type} {a b : α} : ∀ {l : List α}, l.Nodup → List.Sublist [a, b] l → List.Sublist [b, a] l → False
  | [], _, h, _ => by simp at h
  | c :: l, hn, h1, h2 => by
    rw [List.nodup_cons] at hn
    cases h1 with
    | cons _ h1 =>
      cases h2 with
      | cons _ h2 => exact no_swap hn.2 h1 h2
      | cons_cons _ h2 => exact hn.1 (h1.subset (by simp))
    | cons_cons _ h1 =>
      cases h2 with
      | cons _ h2 => exact hn.1 (h2.subset (by simp))
      | cons_cons _ h2 => exact hn.1 (h1.subset (by simp))
/-- short order -/
def ltShort (p q : Str) : Prop := p.length < q.length ∨ (p.length = q.length ∧ p.cps.toList < q.cps.toList)
theorem str_eq {p q : Str} (h : p.cps.toList = q.cps.toList) : p = q := by
  cases p; cases q
  have h' : Array.toList _ = Array.toList _ := h
  rw [Array.toList_inj] at h'
  exact congrArg _ h'
theorem lt_irr (p : Str) : ¬ ltShort p p := fun h => by
  rcases h with h | h
  · omega
  · exact List.lt_irrefl _ h.2
theorem lt_asy (p q : Str) (h : ltShort p q) : ¬ ltShort q p := fun k => by
  rcases h with h | h <;> rcases k with k | k
  · omega
  · omega
  · omega
  · exact List.lt_asymm h.2 k.2
theorem lex_lt_of {p q : Str} (h : p.cps.toList ≤ q.cps.toList) (hne : p ≠ q) : p.cps.toList < q.cps.toList := by
  rcases List.le_iff_lt_or_eq.1 h with h | h
  · exact h
  · exact absurd (str_eq h) hne
theorem leLen_trans (a b c : Str) (h1 : Ss.leLen a b = true) (h2 : Ss.leLen b c = true) : Ss.leLen a c = true := by
  rw [Ss.leLen_iff] at *
  omega
theorem leLen_total (a b : Str) : (Ss.leLen a b || Ss.leLen b a) = true := by
  rw [Bool.or_eq_true, Ss.leLen_iff, Ss.leLen_iff]
  omega
theorem short_pw {xs ns : List Str} (asc : Ss.Ascending xs ns) : (ns.mergeSort Ss.leLen).Pairwise ltShort := by
  have hs := List.pairwise_mergeSort leLen_trans leLen_total ns
  have hp := List.mergeSort_perm ns Ss.leLen
  have nd : (ns.mergeSort Ss.leLen).Nodup := hp.nodup_iff.2 asc.nodup
  rw [List.pairwise_iff_forall_sublist]
  intro a b hab
  have le := (List.pairwise_iff_forall_sublist.1 hs) hab
  rw [Ss.leLen_iff] at le
  rcases Nat.lt_or_eq_of_le le with h | h
  · exact .inl h
  · refine .inr ⟨h, ?_⟩
    have hne : a ≠ b := fun e => by
      have := (List.pairwise_iff_forall_sublist.1 nd) hab
      exact this e
    have ha : a ∈ ns := hp.mem_iff.1 (hab.subset (by simp))
    have hb : b ∈ ns := hp.mem_iff.1 (hab.subset (by simp))
    -- in ns the two stand in the same order
    have key : ∀ {l : List Str}, a ∈ l → b ∈ l → List.Sublist [a, b] l ∨ List.Sublist [b, a] l := by
      intro l
      induction l with
      | nil => intro h; cases h
      | cons c l ih =>
        intro h1 h2
        rcases List.mem_cons.1 h1 with e1 | k1 <;> rcases List.mem_cons.1 h2 with e2 | k2
        · exact absurd (e1.trans e2.symm) hne
        · subst e1; exact .inl ((List.singleton_sublist.2 k2).cons_cons _)
        · subst e2; exact .inr ((List.singleton_sublist.2 k1).cons_cons _)
        · exact (ih k1 k2).imp (fun z => z.cons _) (fun z => z.cons _)
    rcases key ha hb with z | z
    · have := (List.pairwise_iff_forall_sublist.1 asc.sorted) z
      exact lex_lt_of ((Ss.leStr_iff a b).1 this) hne
    · exfalso
      have z2 := List.pair_sublist_mergeSort leLen_trans leLen_total (by rw [Ss.leLen_iff]; omega) z
      exact no_swap nd hab z2
theorem short_mem {xs ns : List Str} (asc : Ss.Ascending xs ns) (z : Str) : z ∈ ns.mergeSort Ss.leLen ↔ z ∈ xs := by
  rw [(List.mergeSort_perm ns Ss.leLen).mem_iff, asc.mem]
theorem short_eq {xs ns ys : List Str} (asc : Ss.Ascending xs ns) (h : ys.Pairwise ltShort) (hm : ∀ z, z ∈ ys ↔ z ∈ xs) : ns.mergeSort Ss.leLen = ys :=
  strict_unique lt_irr lt_asy (short_pw asc) h fun z => by rw [short_mem asc, hm]
/-! ### the law's own way: sorted pairs, equal ones left out -/
theorem leP_trans (a b c : Int × Str) (h1 : So.leP a b = true) (h2 : So.leP b c = true) : So.leP a c = true := by
  rw [So.leP_iff] at *
  rcases h1 with h1 | h1 <;> rcases h2 with h2 | h2
  · exact .inl (by omega)
  · exact .inl (by omega)
  · exact .inl (by omega)
  · exact .inr ⟨by omega, List.le_trans h1.2 h2.2⟩
theorem leP_total (a b : Int × Str) : (So.leP a b || So.leP b a) = true := by
  rw [Bool.or_eq_true, So.leP_iff, So.leP_iff]
  rcases Int.lt_trichotomy a.1 b.1 with h | h | h
  · exact .inl (.inl h)
  · rcases List.le_total a.2.cps.toList b.2.cps.toList with g | g
    · exact .inl (.inr ⟨h, g⟩)
    · exact .inr (.inr ⟨h.symm, g⟩)
  · exact .inr (.inl h)
def newAt {α : Type} [DecidableEq α] (rows : List α) (k : Nat) : Bool := decide (k = 0) || decide (rows[k - 1]? ≠ rows[k]?)
def uniq {α : Type} [DecidableEq α] (rows : List α) (d : α) : List α := ((List.range rows.length).filter (newAt rows)).map fun k => rows.getD k d
theorem uniq_mem {α : Type} [DecidableEq α] (rows : List α) (d z : α) : z ∈ uniq rows d ↔ z ∈ rows := by
  unfold uniq
  rw [List.mem_map]
  constructor
  · rintro ⟨k, hk, rfl⟩
    rw [List.mem_filter, List.mem_range] at hk
    rw [List.getD_eq_getElem?_getD, List.getElem?_eq_getElem hk.1]
    exact List.getElem_mem hk.1
  · intro hz
    obtain ⟨m, hm, e⟩ := List.mem_iff_getElem.1 hz
    -- the first place of z
    have key : ∀ m : Nat, (hm : m < rows.length) → rows[m] = z → ∃ k, k < rows.length ∧ rows[k]? = some z ∧ newAt rows k = true := by
      intro m
      induction m with
      | zero =>
        intro hm e
        exact ⟨0, hm, by rw [List.getElem?_eq_getElem hm, e], rfl⟩
      | succ m ih =>
        intro hm e
        by_cases h : rows[m] = z
        · exact ih (by omega) h
        · refine ⟨m + 1, hm, by rw [List.getElem?_eq_getElem hm, e], ?_⟩
          unfold newAt
          rw [Bool.or_eq_true]
          refine .inr (decide_eq_true fun z' => h ?_)
          rw [show m + 1 - 1 = m from rfl, List.getElem?_eq_getElem hm, List.getElem?_eq_getElem (show m < rows.length by omega), e] at z'
          exact Option.some.inj z'
    obtain ⟨k, h1, h2, h3⟩ := key m hm e
    exact ⟨k, List.mem_filter.2 ⟨List.mem_range.2 h1, h3⟩, by rw [List.getD_eq_getElem?_getD, h2]; rfl⟩
theorem uniq_pw {α : Type} [DecidableEq α] {le : α → α → Prop} {rows : List α} (d : α) (trans : ∀ a b c, le a b → le b c → le a c) (anti : ∀ a b, le a b → le b a → a = b) (h : rows.Pairwise le) (refl : ∀ a, le a a) : (uniq rows d).Pairwise fun a b => le a b ∧ a ≠ b := by
  unfold uniq
  rw [List.pairwise_map]
  have hr : (List.range rows.length).Pairwise (· < ·) := List.pairwise_lt_range
  have at_ : ∀ i j : Nat, i ≤ j → (hj : j < rows.length) → le (rows.getD i d) (rows.getD j d) := fun i j hij hj => by
    rw [List.getD_eq_getElem?_getD, List.getD_eq_getElem?_getD, List.getElem?_eq_getElem hj, List.getElem?_eq_getElem (show i < rows.length by omega)]
    rcases Nat.lt_or_eq_of_le hij with h' | h'
    · exact List.pairwise_iff_getElem.1 h i j (by omega) hj h'
    · subst h'; exact refl _
  refine (hr.filter (newAt rows)).imp_of_mem fun {i j} hi hj hij => ?_
  rw [List.mem_filter, List.mem_range] at hi hj
  refine ⟨at_ i j (by omega) hj.1, fun e => ?_⟩
  have h1 := hj.2
  unfold newAt at h1
  rw [Bool.or_eq_true] at h1
  rcases h1 with h1 | h1
  · have := of_decide_eq_true h1
    omega
  · refine of_decide_eq_true h1 ?_
    have a := at_ i (j - 1) (by omega) (by omega)
    have b := at_ (j - 1) j (by omega) hj.1
    rw [e] at a
    have c := anti _ _ b a
    have e1 : rows[j - 1]? = some (rows.getD (j - 1) d) := by
      rw [List.getD_eq_getElem?_getD, List.getElem?_eq_getElem (show j - 1 < rows.length by omega)]
      rfl
    have e2 : rows[j]? = some (rows.getD j d) := by
      rw [List.getD_eq_getElem?_getD, List.getElem?_eq_getElem hj.1]
      rfl
    rw [e1, e2, c]
end Ma

set_option Elab.async false
set_option linter.all false
set_option maxRecDepth 100000
set_option maxHeartbeats 4000000
/-! k04: nodes as text -/
namespace K4
open PySem PySem.Spec PyProof.Rows L2 Dv SX M4
local macro_rules | `(tactic| walk_at "dv") => `(tactic| simp only [s_var, s_varb, s_test, s_tru, s_andv, s_orv, s_notv, s_chain, s_part, s_list, s_len, s_tuple, s_is, s_ixl, s_ixt, s_ixs, s_seqi, s_gcons, s_gnil, s_gtup, s_append, s_insert, s_enum, s_par, s_listRg, s_rng3, s_raise1, asIns_i, s_putF, s_fld, asFld_i, s_startI4, asLT_l, asLT_t, cx_K, s_reverse, s_retof, s_reto,
  asBl_bl, asInt_int, asTup_tup, asSome_some, asLst_lst, atVal_0, atVal_s, atGet_0, atGet_o, atGet_s, atOb_o, atOb_s, s_start0, s_startU, s_startV, s_add, s_addS, s_addL, s_addT, s_i2, s_ordI, s_ordS, s_isN, s_mulI, s_mulS, s_mulL, s_strip, s_inS, s_neg, s_abs, s_intI, s_intB, s_slL, s_slT, s_slS, isStr_str, s_ifand, s_ifor, s_eqS, s_eqI, s_eqB, Dv.ite_tt, Dv.ite_ff,
  wC, wOp, wMt1, Dv.wNot, Dv.wAnd, Dv.wOr, wIfE, wNil, wCons, wTup, wLst, wOb, Ob.d, wCall, wNoPart, wSl, wNx, Dv.wSeq, wDrop, wSortedSet, wSortedLen, wSortedPair, s_all, s_lc, s_for, s_zip, s_zipS, s_rng1, s_rng2, asZip_lst, asZip_tup, asStr_str, wRet, wRetN, wRetF, wSet, wOwn, wSetOb, wIf, wBk, wCt, wFn, wFnB, wFnF, wFnK, wFnFK, dEnds, dEndsF, gNm, wYes,
  wipeE, List.map_cons, List.map_nil, List.set_cons_zero, List.set_cons_succ, D.tru, D.len, D.items, D.seq, D.flat, D.isNon, true_and, and_true, if_true, if_false, Bool.false_eq_true, Bool.not_true, Bool.not_false])
local macro_rules | `(tactic| walk_at "dn") => `(tactic| simp only [↓s_var, ↓s_varb, ↓s_test, ↓s_tru, ↓s_andv, ↓s_orv, ↓s_notv, ↓s_chain, ↓s_part, ↓s_list, ↓s_rInt2, ↓s_len, ↓s_tuple, ↓s_is, ↓s_ixl, ↓s_ixt, ↓s_ixs, ↓s_seqi, ↓s_gcons, ↓s_gnil, ↓s_gtup, ↓s_append, ↓s_insert, ↓s_enum, ↓s_par, ↓s_listRg, ↓s_rng3, ↓s_raise1, ↓asIns_i, ↓s_putF, ↓s_fld, ↓asFld_i, ↓s_startI4, ↓asLT_l, ↓asLT_t, ↓cx_K, ↓s_reverse, ↓s_retof, ↓s_reto, ↓asBl_bl, ↓asInt_int, ↓asTup_tup, ↓asSome_some, ↓asLst_lst, ↓atVal_0, ↓atVal_s, ↓atGet_0, ↓atGet_o, ↓atGet_s, ↓atOb_o, ↓atOb_s, ↓s_start0, ↓s_startU, ↓s_startV, ↓s_add, ↓s_addS, ↓s_addL, ↓s_addT, ↓s_i2, ↓s_ordI, ↓s_ordS, ↓s_isN, ↓s_mulI, ↓s_mulS, ↓s_mulL, ↓s_strip, ↓s_inS, ↓s_neg, ↓s_abs, ↓s_intI, ↓s_intB, ↓s_slL, ↓s_slT, ↓s_slS, ↓isStr_str, ↓s_ifand, ↓s_ifor, ↓s_eqS, ↓s_eqI, ↓s_eqB, ↓Dv.ite_tt, ↓Dv.ite_ff, wC, wOp, wMt1, Dv.wNot, Dv.wAnd, Dv.wOr, wIfE, wNil, wCons, wTup, wLst, wOb, Ob.d, wCall, wNoPart, wOrT, wAndT, wHead, wGetK, rIxK, wSl, wNx, Dv.wSeq, wDrop, wSortedSet, wSortedLen, wSortedPair, ↓s_all, ↓s_lc, ↓s_for, ↓s_zip, ↓s_zipS, ↓s_rng1, ↓s_rng2, ↓asZip_lst, ↓asZip_tup, ↓asStr_str, wRet, wRetN, wRetF, wSet, wOwn, wSetOb, wIf, wBk, wCt, wFn, wFnB, wFnF, wFnK, wFnFK, dEnds, dEndsF, gNm, wYes, wipeE, List.map_cons, List.map_nil, List.set_cons_zero, List.set_cons_succ, D.tru, D.len, D.items, D.seq, D.flat, D.isNon, ↓true_and, ↓and_true, ↓if_true, ↓if_false, Bool.false_eq_true, Bool.not_true, Bool.not_false])

def kv_PLACES : List (Str × D) := [("a", .int 1), ("b", .int 2), ("c", .int 3), ("d", .int 4)]
def sp__is_index_text : DSp := fun ds n Q _ => ∃ l : List Nat, ds = [.str (S l)] ∧ Q (.bl (idxB l)) n
theorem strip_digits (l : List Nat) : decide (Txt.stripChars (S l) "0123456789" = "") = l.all (fun c => decide (48 ≤ c) && decide (c ≤ 57)) := by
  have h : Txt.stripChars (S l) "0123456789" = "" ↔ l.all (fun c => decide (48 ≤ c) && decide (c ≤ 57)) = true := by
    rw [Ma.strip_nil, List.all_eq_true]
    have e : ("0123456789" : Str).cps.toList = [48, 49, 50, 51, 52, 53, 54, 55, 56, 57] := by decide +kernel
    rw [e]
    refine ⟨fun g c hc => ?_, fun g c hc => ?_⟩
    · have := g c hc
      simp at this
      rw [Bool.and_eq_true, decide_eq_true_eq, decide_eq_true_eq]
      omega
    · have := g c hc
      rw [Bool.and_eq_true, decide_eq_true_eq, decide_eq_true_eq] at this
      simp
      omega
  cases hb : l.all (fun c => decide (48 ≤ c) && decide (c ≤ 57)) with
  | true => exact decide_eq_true (h.2 hb)
  | false => exact decide_eq_false fun z => by rw [h.1 z] at hb; cases hb
theorem S_str {l : List Nat} {s : Str} (e : s.cps.toList = l) : s = S l := by rw [← e, S_tl]
theorem z_S : ("0" : Str) = S [48] := S_str (by decide +kernel)
theorem idx_split (l : List Nat) : idxB l = (l.all (fun c => decide (48 ≤ c) && decide (c ≤ 57)) && (decide (1 ≤ l.length) && decide (l.length ≤ 3)) && (decide (l = [48]) || decide (l.head? ≠ some 48))) := rfl
section
variable {P : Program} {w : World} {K : PySem.W.Frag} {mg : Str → Option Value} {base : Heap}
abbrev s__is_index_text : Stmt := topS 24
theorem sc__is_index_text : FnScope ["text"] ["text"] (defScope s__is_index_text) := ⟨rfl, rfl, rfl, by decide +kernel, rfl, by decide +kernel, by decide +kernel⟩
theorem ok__is_index_text  {k : Nat} {f : Addr} {fd : FuncData} (M : Mg mg) (F : Fun K "_is_index_text" "_is_index_text" s__is_index_text f fd)  : FnOk P w K mg base CX0 (k + 1) f fd ["text"] (lSp K sp__is_index_text) := by
  refine dok F sc__is_index_text (fun ds n Q E h => ?_) (fun cdv A outer s H E hr => ⟨_, (dss_cons (ds_if (DW.t (dw_or (dt_cmp (od_ne (hu64 hr)) (DE.b (de_strip (dvb 0) (DE.b (de_gstr M.c__DIGITS)))) (DE.b de_str)) (dw_or1 (dt_not (dt_chain od_le od_le (DE.b de_int) (DE.b (de_bi cd_len M.b_len (dab_cons (dvb 0) dab_nil))) (DE.b de_int)))))) (dss_one (ds_ret de_bl)) dss_nil)
      (dss_one (ds_ret (de_or (de_cmp (od_eq (hu64 hr)) (dvb 0) (DE.b de_str)) (de_one (de_cmp (od_ne (hu64 hr)) (DE.b (de_ix (dvb 0) (DE.b de_int))) (DE.b de_str))))))), fun ds n Q E h => ?_⟩)
  · obtain ⟨l, rfl, _⟩ := h
    rfl
  · obtain ⟨l, rfl, q⟩ := h
    walk_at "dn"
    rw [strip_digits, S_len, z_S]
    rw [idx_split] at q
    cases hd : l.all (fun c => decide (48 ≤ c) && decide (c ≤ 57)) with
    | false =>
      rw [hd, Bool.false_and, Bool.false_and] at q
      exact q
    | true =>
      rw [hd, Bool.true_and] at q
      simp only [Bool.not_true, Bool.false_eq_true, if_false]
      by_cases h1 : 1 ≤ l.length
      · rw [decide_eq_true h1, Bool.true_and] at q
        rw [if_pos (decide_eq_true (by omega : (1 : Int) ≤ l.length))]
        by_cases h3 : l.length ≤ 3
        · rw [decide_eq_true h3, Bool.true_and] at q
          rw [decide_eq_true (by omega : (l.length : Int) ≤ 3)]
          simp only [Bool.not_true, Bool.false_eq_true, if_false]
          by_cases h0 : l = [48]
          · rw [if_pos (decide_eq_true (by rw [h0]))]
            rw [decide_eq_true h0, Bool.true_or] at q
            exact q
          · rw [if_neg (by rw [decide_eq_true_eq]; exact fun e => h0 (S_inj e))]
            rw [decide_eq_false h0, Bool.false_or] at q
            match l, h1 with
            | c :: r, _ =>
              have a0 : atI (c :: r) 0 = some c := atI_nat (j := 0) rfl
              rw [a0, asSome_some]
              have e : (!decide (({ cps := #[c] } : Str) = S [48])) = decide ((c :: r).head? ≠ some 48) := by
                by_cases hc : c = 48
                · subst hc
                  simp
                · have h1 : ¬ (({ cps := #[c] } : Str) = S [48]) := fun e => hc (by
                    have : [c] = [48] := S_inj (a := [c]) (b := [48]) e
                    exact (List.cons.inj this).1)
                  rw [decide_eq_false h1]
                  simp [hc]
              rw [e]
              exact q
        · rw [decide_eq_false h3, Bool.false_and] at q
          rw [decide_eq_false (by omega : ¬ (l.length : Int) ≤ 3)]
          simp only [Bool.not_false, if_true]
          exact q
      · rw [decide_eq_false h1, Bool.false_and, Bool.false_and] at q
        rw [if_neg (by rw [decide_eq_true_eq]; omega)]
        exact q
def kidsD (ks : Kids) : List D := ks.map kD
/-- what reading a node gives -/
def nodeR (l : List Nat) : D := match nodeOf l with
  | none => .non
  | some x => ndD x
theorem one_str {l : List Nat} (h : ∀ c, l ≠ [c]) : ¬ (((S l).length : Nat) : Int) = 1 := fun e => by
  rw [S_len] at e
  match l, e with
  | [c], _ => exact h c rfl
  | [], e => simp at e
  | _ :: _ :: _, e => simp at e; omega
theorem color_S (l : List Nat) : colorD (.str (S l)) = (decide (l = [120]) || (decide (l = [121]) || decide (l = [122]))) := by
  show (decide (((S l).length : Int) = 1) && inS (S l) "xyz") = _
  match l with
  | [c] =>
    rw [show inS (S [c]) "xyz" = decide (c ∈ ("xyz" : Str).cps.toList) from PySem.StrLaws.found_one "xyz" c, show ("xyz" : Str).cps.toList = [120, 121, 122] by decide +kernel, S_len]
    simp
  | [] =>
    rw [decide_eq_false (one_str fun c e => by cases e)]
    simp
  | a :: b :: r =>
    rw [decide_eq_false (one_str fun c e => by cases e)]
    simp
theorem col_none {l : List Nat} (h1 : l ≠ [45]) (h2 : colorD (.str (S l)) = false) : colOf l = none := by
  rw [color_S] at h2
  simp only [Bool.or_eq_false_iff, decide_eq_false_iff_not] at h2
  unfold colOf
  rw [if_neg h1, if_neg h2.1, if_neg h2.2.1, if_neg h2.2.2]
theorem col_some {l : List Nat} (h1 : l ≠ [45]) (h2 : colorD (.str (S l)) = true) : colOf l = some (S l) := by
  rw [color_S] at h2
  simp only [Bool.or_eq_true, decide_eq_true_eq] at h2
  rcases h2 with rfl | rfl | rfl
  · exact congrArg some (S_str (by decide +kernel))
  · exact congrArg some (S_str (by decide +kernel))
  · exact congrArg some (S_str (by decide +kernel))
theorem get_place (p : List Nat) : (kv_PLACES.lookup (S (p.take 1))).getD (.int 0) = .int ((match p with | [] => 0 | c :: _ => M4.placeOf c : Nat) : Int) := by
  have ea : ("a" : Str) = S [97] := S_str (by decide +kernel)
  have eb : ("b" : Str) = S [98] := S_str (by decide +kernel)
  have ec : ("c" : Str) = S [99] := S_str (by decide +kernel)
  have ed : ("d" : Str) = S [100] := S_str (by decide +kernel)
  unfold kv_PLACES
  rw [ea, eb, ec, ed]
  simp only [List.lookup_cons, List.lookup_nil, S_beq]
  match p with
  | [] => rfl
  | c :: r =>
    show ((match [c] == [97] with | true => some (D.int 1) | false => match [c] == [98] with | true => some (D.int 2) | false => match [c] == [99] with | true => some (D.int 3) | false => match [c] == [100] with | true => some (D.int 4) | false => none).getD (.int 0)) = .int ((M4.placeOf c : Nat) : Int)
    have hb : ∀ k : Nat, ([c] == [k]) = decide (c = k) := fun k => by
      by_cases z : c = k <;> simp [z]
    rw [hb, hb, hb, hb]
    unfold M4.placeOf
    by_cases h1 : c = 97
    · subst h1; rfl
    · by_cases h2 : c = 98
      · subst h2; rfl
      · by_cases h3 : c = 99
        · subst h3; rfl
        · by_cases h4 : c = 100
          · subst h4; rfl
          · rw [decide_eq_false h1, decide_eq_false h2, decide_eq_false h3, decide_eq_false h4, if_neg (by omega)]
            rfl
theorem cutS_to {a : List Nat} {i : Int} (h : 0 ≤ i) : cutS (S a) none (some i) = S (a.take i.toNat) := (C8.cutS_slice _ _ _).trans (slice_to h)
theorem cutS_from {a : List Nat} {i : Int} (h : 0 ≤ i) : cutS (S a) (some i) none = S (a.drop i.toNat) := (C8.cutS_slice _ _ _).trans (slice_from h)
def sp_read_node : DSp := fun ds n Q _ => ∃ l : List Nat, ds = [.str (S l)] ∧ l.length ≤ 100000 ∧ Q (nodeR l) n
abbrev s_read_node : Stmt := topS 23
theorem sc_read_node : FnScope ["line", "node", "ahead", "piece", "head", "place", "pieces"] ["line"] (defScope s_read_node) := ⟨rfl, rfl, rfl, by decide +kernel, rfl, by decide +kernel, by decide +kernel⟩
theorem ok_read_node  {k : Nat} {f : Addr} {fd : FuncData} (M : Mg mg) (F : Fun K "read_node" "read_node" s_read_node f fd) {aPLACES : Addr} (KD_PLACES : KD K w aPLACES kv_PLACES) (h_PLACES : mg "PLACES" = some (.ref aPLACES)) (C_is_color : Cal P w K mg base CX0 k "is_color" ["value"] (sp_is_color K)) (C__is_index_text : Cal P w K mg base CX0 k "_is_index_text" ["text"] sp__is_index_text) : FnOk P w K mg base CX0 (k + 1) f fd ["line"] (lSp K sp_read_node) := by
  refine dok F sc_read_node (fun ds n Q E h => ?_) (fun cdv A outer s H E hr => ⟨_, (dss_cons (ds_head (i := 4) (j := 6) sc_read_node.nd rfl rfl rfl rfl (de_split (dvb 0) (DE.b de_str)))
      (dss_cut (ds_if (DW.t (dw_and (dt_cmp (od_ne (hu64 hr)) (dvb 4) (DE.b de_str)) (dw_and1 (dt_not (dt_tru (DE.b (de_call C_is_color hr (da_cons (dv 4) da_nil)))))))) (dss_one (ds_ret de_non)) dss_nil)
      (dss_cut (ds_own (i := 1) sc_read_node.nd rfl (by first | exact Or.inl rfl | exact Or.inr rfl) (df_lst (da_cons (de_if (dt_cmp (od_eq (hu64 hr)) (dvb 4) (DE.b de_str)) de_str (dv 4)) (da_cons de_non (da_cons de_non (da_cons de_non (da_cons de_non da_nil)))))))
      (dss_cons (ds_set (i := 2) sc_read_node.nd rfl (by first | exact Or.inl rfl | exact Or.inr rfl) de_int)
      (dss_cons (ds_for (vs := [3]) (di_seq (dv 6)) (dg_name (i := 3) sc_read_node.nd rfl (by first | exact Or.inl rfl | exact Or.inr rfl)) (dss_cons (ds_set (i := 5) sc_read_node.nd rfl (by first | exact Or.inl rfl | exact Or.inr rfl) (de_getK KD_PLACES h_PLACES (de_slice (dvb 3) do_none (do_some de_int)) de_int))
      (dss_cons (ds_if (DW.t (dw_or (dt_cmp od_le (dvb 5) (dvb 2)) (dw_or1 (dt_not (dt_tru (DE.b (de_call C__is_index_text hr (da_cons (de_slice (dvb 3) (do_some de_int) do_none) da_nil)))))))) (dss_one (ds_ret de_non)) dss_nil)
      (dss_cons (ds_putI 1 (dv 5) (de_tyc cd_intA M.b_int (dab_cons (DE.b (de_slice (dvb 3) (do_some de_int) do_none)) dab_nil)))
      (dss_one (ds_set (i := 2) sc_read_node.nd rfl (by first | exact Or.inl rfl | exact Or.inr rfl) (dv 5)))))))
      (dss_one (ds_ret (de_tyc cd_tuple M.b_tuple (dab_cons (dvb 1) dab_nil))))))))), fun ds n Q E h => ?_⟩)
  · obtain ⟨l, rfl, _⟩ := h
    rfl
  · obtain ⟨l, rfl, hl, q⟩ := h
    have e32 : (" " : Str) = S [32] := S_str (by decide +kernel)
    have e45 : ("-" : Str) = S [45] := S_str (by decide +kernel)
    unfold wHead
    walk_at "dn"
    rw [e32]
    refine ⟨l, 32, rfl, rfl, by decide, by have := sizeLine_eq; omega, ?_⟩
    obtain ⟨hd, ps, ec, _⟩ := cut_join 32 l
    have enode : nodeOf l = (colOf hd).bind fun c => (goP ps (0, k0)).map fun s => (c, s.2) := by
      unfold nodeOf
      rw [ec]
    have pl : ∀ p ∈ ps, p.length ≤ 100000 := fun p hp => Nat.le_trans (cutAt_len (c := 32) (l := l) (by rw [ec]; exact List.mem_cons_of_mem _ hp)) hl
    refine ⟨.str (S hd), ps.map fun p => .str (S p), by rw [ec]; rfl, fun env m => m = n ∧ env = [.val (.str (S l)), .un, .un, .un, .val (.str (S hd)), .un, .val (.lst (ps.map fun p => .str (S p)))] ∧ ∃ c, colOf hd = some c, ?_, ?_⟩
    · walk_at "dn"
      rw [e45]
      by_cases h45 : hd = [45]
      · rw [if_neg (by rw [decide_eq_true (by rw [h45])]; exact Bool.false_ne_true)]
        exact ⟨"", by rw [h45]; decide +kernel⟩
      · rw [if_pos (by rw [decide_eq_false fun e => h45 (S_inj e)]; rfl)]
        refine ⟨_, rfl, .inl rfl, ?_⟩
        walk_at "dn"
        cases hc : colorD (.str (S hd)) with
        | false =>
          simp only [Bool.not_false, if_true]
          have : nodeR l = .non := by
            unfold nodeR
            rw [enode, col_none h45 hc]
            rfl
          rw [this] at q
          exact q
        | true =>
          simp only [Bool.not_true, Bool.false_eq_true, if_false]
          exact ⟨_, col_some h45 hc⟩
    · rintro env m ⟨em, rfl, c, ecol⟩
      subst em
      refine ⟨fun env m' => m' = m ∧ env = [.val (.str (S l)), .own (.lst (.str c :: kidsD k0)), .un, .un, .val (.str (S hd)), .un, .val (.lst (ps.map fun p => .str (S p)))], ?_, ?_⟩
      · walk_at "dn"
        rw [e45]
        have z5 : ∀ d : D, [d, .non, .non, .non, .non].length ≤ sizeLine := fun d => by show 5 ≤ _; have := sizeLine_eq; omega
        by_cases h45 : hd = [45]
        · rw [if_pos (decide_eq_true (by rw [h45]))]
          have : c = "" := by
            rw [h45] at ecol
            exact (Option.some.inj ((show colOf [45] = some "" by decide +kernel).symm.trans ecol)).symm
          rw [this]
          exact ⟨z5 _, rfl⟩
        · rw [if_neg (by rw [decide_eq_true_eq]; exact fun e => h45 (S_inj e))]
          have : c = S hd := by
            have := (col_back ecol).1
            unfold colL at this
            by_cases hc : c = ""
            · rw [if_pos hc] at this
              exact absurd this.symm h45
            · rw [if_neg hc] at this
              exact S_str this
          rw [this]
          exact ⟨z5 _, rfl⟩
      · rintro env m' ⟨em, rfl⟩
        subst em
        walk_at "dn"
        refine ⟨fun i env n2 => n2 = m' ∧ ∃ (st : StP) (e3 e5 : SD), env = [.val (.str (S l)), .own (.lst (.str c :: kidsD st.2)), .val (.int (st.1 : Nat)), e3, .val (.str (S hd)), e5, .val (.lst (ps.map fun p => .str (S p)))] ∧ st.2.length = 4 ∧ st.1 ≤ 4 ∧ goP ps (0, k0) = goP (ps.drop i) st, ⟨rfl, (0, k0), _, _, rfl, rfl, by decide, rfl⟩, ?_, ?_⟩
        · rintro env n2 ⟨en, st, e3, e5, rfl, sl, s4, eg⟩
          subst en
          rw [List.length_map, List.drop_length] at eg
          have eg' : goP ps (0, k0) = some st := eg
          walk_at "dn"
          have : nodeR l = .tup (.str c :: kidsD st.2) := by
            unfold nodeR
            rw [enode, ecol]
            show (match (goP ps (0, k0)).map (fun s => (c, s.2)) with | none => D.non | some x => ndD x) = _
            rw [eg']
            rfl
          rw [this] at q
          exact q
        · rintro i y env n2 hy ⟨en, st, e3, e5, rfl, sl, s4, eg⟩
          subst en
          rw [List.getElem?_map] at hy
          obtain ⟨p, hp, rfl⟩ := Option.map_eq_some_iff.1 hy
          obtain ⟨hi, hpv⟩ := List.getElem?_eq_some_iff.1 hp
          have edr : ps.drop i = p :: ps.drop (i + 1) := by rw [List.drop_eq_getElem_cons hi, hpv]
          have eg2 : goP ps (0, k0) = (stepP st p).bind (goP (ps.drop (i + 1))) := by rw [eg, edr]; rfl
          have pl' := pl p (List.mem_of_getElem? hp)
          have bad : stepP st p = none → Q .non n2 := fun z => by
            have : nodeR l = .non := by
              unfold nodeR
              rw [enode, ecol]
              show (match (goP ps (0, k0)).map (fun s => (c, s.2)) with | none => D.non | some x => ndD x) = _
              rw [eg2, z]
              rfl
            rw [← this]
            exact q
          walk_at "dn"
          rw [cutS_to (by decide), cutS_from (by decide), show (1 : Int).toNat = 1 from rfl]
          refine ⟨_, rfl, ?_⟩
          rw [get_place]
          walk_at "dn"
          match p, bad, pl', eg2 with
          | [], bad, _, _ =>
            rw [if_pos (decide_eq_true (by show ((0 : Nat) : Int) ≤ _; omega))]
            exact bad rfl
          | d :: r, bad, pl', eg2 =>
            have est : stepP st (d :: r) = if M4.placeOf d ≤ st.1 ∨ idxB r = false then none else some (M4.placeOf d, st.2.set (M4.placeOf d - 1) (some (valL r))) := rfl
            show if decide (((M4.placeOf d : Nat) : Int) ≤ (st.1 : Nat)) = true then _ else _
            by_cases hp : M4.placeOf d ≤ st.1
            · rw [if_pos (decide_eq_true (by omega))]
              exact bad (by rw [est, if_pos (.inl hp)])
            · rw [if_neg (by rw [decide_eq_true_eq]; omega)]
              refine ⟨r, rfl, ?_⟩
              walk_at "dn"
              cases hb : idxB r with
              | false =>
                simp only [Bool.not_false, if_true]
                exact bad (by rw [est, if_pos (.inr hb)])
              | true =>
                simp only [Bool.not_true, Bool.false_eq_true, if_false]
                rw [est, if_neg (by rw [hb]; simp; omega)] at eg2
                refine ⟨_, rfl, ?_⟩
                walk_at "dn"
                rw [cutS_from (by decide), show (1 : Int).toNat = 1 from rfl]
                have hb' := hb
                rw [idx_split, Bool.and_eq_true, Bool.and_eq_true, Bool.and_eq_true, decide_eq_true_eq, decide_eq_true_eq] at hb'
                have h4 : M4.placeOf d ≤ 4 := by
                  unfold M4.placeOf
                  split <;> omega
                obtain ⟨j, hj⟩ : ∃ j, M4.placeOf d = j + 1 := ⟨M4.placeOf d - 1, by omega⟩
                show rIntA [D.str (S r)] _
                refine ⟨_, int_S hb'.1.1 (by intro e; rw [e] at hb'; exact absurd hb'.1.2.1 (by decide)) (by omega), by show (S r).length ≤ 640; rw [S_len]; omega, _, j + 1, rfl, by rw [hj]; exact ixN_nat (by rw [List.length_cons, kidsD, List.length_map, sl]; omega), (M4.placeOf d, st.2.set (M4.placeOf d - 1) (some (valL r))), .val (.str (S (d :: r))), .val (.int ((M4.placeOf d : Nat) : Int)), ?_, by rw [List.length_set]; exact sl, h4, eg2⟩
                have e2 : (D.str c :: kidsD st.2).set (j + 1) (.int ((NumText.digitsVal r : Nat) : Int)) = D.str c :: kidsD (st.2.set (M4.placeOf d - 1) (some (valL r))) := by
                  rw [List.set_cons_succ, hj, Nat.add_sub_cancel]
                  unfold kidsD
                  rw [List.map_set]
                  rfl
                rw [e2]
/-- a child by its place -/
def kidAt (ks : Kids) (i : Int) : Option Nat := ks.getD (i.toNat - 1) none
def nkP (ks : Kids) : D → Bool
  | .tup [.str _, .int i] => (kidAt ks i).isSome
  | _ => false
def nkF (ks : Kids) : D → D
  | .tup [.str a, .int i] => .str (S (32 :: (a.cps.toList ++ TL.numL ((kidAt ks i).getD 0))))
  | y => y
/-- the children's texts -/
def pcs : Nat → Kids → List (List Nat)
  | _, [] => []
  | c, none :: r => pcs (c + 1) r
  | c, some k :: r => (32 :: c :: TL.numL k) :: pcs (c + 1) r
theorem pcs_flat : ∀ (c : Nat) (ks : Kids), (pcs c ks).flatten = prt c ks
  | _, [] => rfl
  | c, none :: r => pcs_flat (c + 1) r
  | c, some k :: r => by
    show 32 :: c :: TL.numL k ++ (pcs (c + 1) r).flatten = 32 :: c :: (TL.numL k ++ prt (c + 1) r)
    rw [pcs_flat (c + 1) r]
    rfl
theorem pcs_len {ks : Kids} (h : ∀ k, some k ∈ ks → k < 1000) : ∀ (c : Nat), (pcs c ks).length ≤ ks.length ∧ ∀ p ∈ pcs c ks, p.length ≤ 5 := by
  induction ks with
  | nil => exact fun c => ⟨Nat.le_refl _, fun p hp => nomatch hp⟩
  | cons k ks ih =>
    intro c
    have ih' := ih (fun k hk => h k (List.mem_cons_of_mem _ hk)) (c + 1)
    cases k with
    | none => exact ⟨by have := ih'.1; rw [List.length_cons]; show (pcs (c + 1) ks).length ≤ _; omega, ih'.2⟩
    | some k =>
      have hn3 : (TL.numL k).length ≤ 3 := TL.numL_len (k := 3) (by decide) (h k List.mem_cons_self)
      refine ⟨by show (_ :: pcs (c + 1) ks).length ≤ _; rw [List.length_cons, List.length_cons]; omega, fun p hp => ?_⟩
      rcases List.mem_cons.1 hp with rfl | hp
      · rw [List.length_cons, List.length_cons]; omega
      · exact ih'.2 p hp
theorem pcs_of {ks : Kids} (hl : ks.length = 4) (h : ∀ k, some k ∈ ks → k < 1000) : ∃ ps : List (List Nat), ((pairsD kv_PLACES).filter (nkP ks)).map (nkF ks) = ps.map (fun p => D.str (S p)) ∧ ps.flatten = prt 97 ks ∧ ps.length ≤ 4 ∧ ∀ p ∈ ps, p.length ≤ 5 := by
  refine ⟨pcs 97 ks, ?_, pcs_flat _ _, by have := (pcs_len h 97).1; omega, (pcs_len h 97).2⟩
  have e97 : ("a" : Str) = S [97] := S_str (by decide +kernel)
  have e98 : ("b" : Str) = S [98] := S_str (by decide +kernel)
  have e99 : ("c" : Str) = S [99] := S_str (by decide +kernel)
  have e100 : ("d" : Str) = S [100] := S_str (by decide +kernel)
  unfold pairsD kv_PLACES
  rw [e97, e98, e99, e100]
  match ks, hl with
  | [k0', k1, k2, k3], _ => cases k0' <;> cases k1 <;> cases k2 <;> cases k3 <;> rfl
theorem sum_len {m : Nat} : ∀ {ps : List (List Nat)}, (∀ p ∈ ps, p.length ≤ m) → (ps.map (·.length)).sum ≤ ps.length * m
  | [], _ => Nat.zero_le _
  | p :: ps, h => by
    have := sum_len (m := m) (ps := ps) fun q hq => h q (List.mem_cons_of_mem _ hq)
    have h2 := h p List.mem_cons_self
    rw [List.map_cons, List.sum_cons, List.length_cons, Nat.succ_mul]
    omega
theorem joinL_nil : ∀ ps : List (List Nat), TL.joinL [] ps = ps.flatten
  | [] => rfl
  | [p] => by simp [TL.joinL]
  | p :: q :: r => by
    show p ++ ([] ++ TL.joinL [] (q :: r)) = _
    rw [joinL_nil (q :: r)]
    simp
def sp_node_text : DSp := fun ds n Q _ => ∃ x : Nd, ds = [ndD x] ∧ NdW x ∧ Q (.str (S (nodeT x))) n
abbrev s_node_text : Stmt := topS 22
theorem sc_node_text : FnScope ["node", "children", "letter", "place"] ["node"] (defScope s_node_text) := ⟨rfl, rfl, rfl, by decide +kernel, rfl, by decide +kernel, by decide +kernel⟩
theorem ok_node_text  {k : Nat} {f : Addr} {fd : FuncData} (M : Mg mg) (F : Fun K "node_text" "node_text" s_node_text f fd) {aPLACES : Addr} (KD_PLACES : KD K w aPLACES kv_PLACES) (h_PLACES : mg "PLACES" = some (.ref aPLACES)) : FnOk P w K mg base CX0 (k + 1) f fd ["node"] (lSp K sp_node_text) := by
  refine dok F sc_node_text (fun ds n Q E h => ?_) (fun cdv A outer s H E hr => ⟨_, (dss_cons (ds_setLc (i := 1) (own := [("letter", 2), ("place", 3)]) sc_node_text.nd rfl rfl (sw_true rfl rfl rfl (by decide +kernel)) (di_itemsK KD_PLACES h_PLACES) (blkOk_by (N := ["node", "children", "letter", "place"]) (sc := defScope s_node_text) (by decide +kernel)) (fun _ _ _ _ _ => (dg_tup (k := 2) (dgs_name (i := 2) sc_node_text.nd rfl (by first | exact Or.inl rfl | exact Or.inr rfl) (dgs_name (i := 3) sc_node_text.nd rfl (by first | exact Or.inl rfl | exact Or.inr rfl) dgs_nil)))) (fun _ _ _ _ _ => (dts_one (dt_cmp od_notN (DE.b (de_ix (dvb 0) (dvb 3))) (DE.b de_non)))) (fun _ _ _ _ _ => (de_joined (.cons de_str (.cons (de_fmt (dv 2)) (.cons (de_fmt (de_ix (dvb 0) (dvb 3))) .nil))))))
      (dss_one (ds_ret (de_op od_add (DE.b (de_orT (de_ix (dvb 0) (DE.b de_int)) (de_one de_str))) (DE.b (de_join (DE.b de_str) (dvb 1))))))), fun ds n Q E h => ?_⟩)
  · obtain ⟨l, rfl, _⟩ := h
    rfl
  · obtain ⟨x, rfl, hx, q⟩ := h
    obtain ⟨c, ks⟩ := x
    obtain ⟨hc, hl4, hlt⟩ := hx
    have hs := sizeLine_eq
    walk_at "dn"
    have eat : ∀ (j : Nat) (ko : Option Nat), ks[j]? = some ko → atI (D.str c :: ks.map kD) ((j + 1 : Nat) : Int) = some (kD ko) := fun j ko h => atI_nat (by rw [List.getElem?_cons_succ, List.getElem?_map, h]; rfl)
    refine ⟨rfl, lc_filter (nkP ks) (nkF ks) (by unfold pairsD kv_PLACES; simp; omega) ?_ ?_⟩
    case refine_2 =>
      intro i y hy R S' h1 h2
      obtain ⟨j, a, ko, rfl, hk, ea⟩ : ∃ (j : Nat) (a : Nat) (ko : Option Nat), y = .tup [.str (S [a]), .int ((j + 1 : Nat) : Int)] ∧ ks[j]? = some ko ∧ a < 256 := by
        have e97 : ("a" : Str) = S [97] := S_str (by decide +kernel)
        have e98 : ("b" : Str) = S [98] := S_str (by decide +kernel)
        have e99 : ("c" : Str) = S [99] := S_str (by decide +kernel)
        have e100 : ("d" : Str) = S [100] := S_str (by decide +kernel)
        unfold pairsD kv_PLACES at hy
        rw [e97, e98, e99, e100] at hy
        match ks, hl4 with
        | [k0', k1, k2, k3], _ =>
          match i, hy with
          | 0, hy => exact ⟨0, 97, k0', (Option.some.inj hy).symm, rfl, by decide⟩
          | 1, hy => exact ⟨1, 98, k1, (Option.some.inj hy).symm, rfl, by decide⟩
          | 2, hy => exact ⟨2, 99, k2, (Option.some.inj hy).symm, rfl, by decide⟩
          | 3, hy => exact ⟨3, 100, k3, (Option.some.inj hy).symm, rfl, by decide⟩
          | _ + 4, hy => simp at hy
      have hka : kidAt ks ((j + 1 : Nat) : Int) = ko := by
        unfold kidAt
        rw [Int.toNat_natCast, Nat.add_sub_cancel, List.getD_eq_getElem?_getD, hk]
        rfl
      have ep : nkP ks (.tup [.str (S [a]), .int ((j + 1 : Nat) : Int)]) = ko.isSome := by rw [← hka]; rfl
      have ef : nkF ks (.tup [.str (S [a]), .int ((j + 1 : Nat) : Int)]) = .str (S (32 :: a :: TL.numL (ko.getD 0))) := by rw [← hka]; rfl
      rw [ep] at h1 h2
      rw [ef] at h1
      have e1 := eat j ko hk
      unfold ndD
      walk_at "dn"
      rw [e1, asSome_some]
      refine ⟨rfl, ?_⟩
      cases ko with
      | none => exact h2 rfl
      | some k =>
        have hk3 : k < 1000 := hlt k (List.mem_of_getElem? hk)
        have hn3 : (TL.numL k).length ≤ 3 := TL.numL_len (k := 3) (by decide) hk3
        have sp : (" " : Str) = S [32] := S_str (by decide +kernel)
        have em : Str.empty = S [] := rfl
        show wJs _ Str.empty _ n _
        unfold wJs wJs wJs wJs
        walk_at "dn"
        rw [sp, em]
        refine ⟨_, rfl, by rw [S_cat, S_len]; show 1 ≤ _; omega, ?_⟩
        refine ⟨_, rfl, by rw [S_cat, S_cat, S_len]; show 2 ≤ _; omega, ?_⟩
        rw [e1, asSome_some]
        refine ⟨k, rfl, by omega, numS k, rfl, ?_, ?_⟩
        · unfold numS
          rw [S_cat, S_cat, S_cat, S_len]
          show (32 :: a :: TL.numL k).length ≤ _
          rw [List.length_cons, List.length_cons]
          omega
        · unfold numS
          rw [S_cat, S_cat, S_cat]
          exact h1 rfl
    unfold ndD
    have a0 : atI (D.str c :: ks.map kD) 0 = some (.str c) := atI_nat (j := 0) rfl
    have hcl : c.length ≤ 1 := by rcases hc with rfl | rfl | rfl | rfl <;> decide +kernel
    walk_at "dn"
    rw [a0, asSome_some]
    walk_at "dn"
    obtain ⟨ps, ep, eflat, hpl, hpn⟩ := pcs_of hl4 hlt
    rw [ep]
    have hprt : (prt 97 ks).length ≤ 20 := by
      rw [← eflat, List.length_flatten]
      have h5 : (ps.map List.length).sum ≤ ps.length * 5 := sum_len hpn
      omega
    have ejoin : ∀ R : D → Prop, R (.str (S (prt 97 ks))) → rJoinD (.str "") (.lst (ps.map fun p => .str (S p))) R := fun R hR => by
      refine ⟨"", _, ps.map S, rfl, rfl, ?_, ?_, ?_⟩
      · rw [show (ps.map fun p => D.str (S p)) = (ps.map S).map D.str by rw [List.map_map]; rfl]
        exact strsOf_map _
      · rw [show ("" : Str).length = 0 from rfl, Nat.mul_zero, Nat.add_zero, lens]
        have := sum_len hpn
        omega
      · rw [show ("" : Str) = S [] from rfl, join_S, joinL_nil, eflat]
        exact hR
    by_cases hc0 : c = ""
    · rw [if_neg (by rw [hc0]; decide +kernel)]
      refine ejoin _ ?_
      walk_at "dn"
      have en : nodeT (c, ks) = [45] ++ prt 97 ks := by unfold nodeT colL; rw [if_pos hc0]
      rw [en] at q
      have e45 : ("-" : Str) = S [45] := S_str (by decide +kernel)
      rw [e45, S_cat]
      exact ⟨by rw [S_len, S_len]; show 1 + _ ≤ _; omega, q⟩
    · rw [if_pos (by rcases hc with rfl | rfl | rfl | rfl <;> first | exact absurd rfl hc0 | decide +kernel)]
      refine ejoin _ ?_
      walk_at "dn"
      have en : nodeT (c, ks) = c.cps.toList ++ prt 97 ks := by unfold nodeT colL; rw [if_neg hc0]
      rw [en] at q
      have ecs : c ++ S (prt 97 ks) = S (c.cps.toList ++ prt 97 ks) := by
        rw [← S_cat, S_tl]
      rw [ecs]
      have : (S (prt 97 ks)).length = (prt 97 ks).length := S_len _
      exact ⟨by omega, q⟩
end
end K4

set_option Elab.async false
set_option linter.all false
set_option maxRecDepth 100000
set_option maxHeartbeats 4000000
/-! k04: the reading of books, on signs -/
namespace M4
open PySem SX K4 Dv
inductive Rb where
  | bad (k : Nat) (why : Str)
  | ok (xs : List Nd)
def scanL : List (List Nat) → Nat → (Nat × Str) ⊕ List Nd
  | [], _ => .inr []
  | r :: rs, k => match nodeOf r with
    | none => .inl (k, "form")
    | some x => if k = 200 then .inl (k, "many") else match scanL rs (k + 1) with
      | .inl e => .inl e
      | .inr xs => .inr (x :: xs)
def fitK (m : Nat) : Option Nat → Bool
  | none => true
  | some k => decide (k < m)
def fitN (m : Nat) (x : Nd) : Bool := x.2.all (fitK m)
def endB (last : Option (List Nat)) (xs : List Nd) : Rb :=
  if last ≠ some [] then .bad xs.length "form" else if xs = [] then .bad 0 "missing" else if xs.all (fitN xs.length) = true then .ok xs else .bad xs.length "node"
def readB (l : List Nat) : Rb := match scanL (cutAt 10 l).dropLast 0 with
  | .inl e => .bad e.1 e.2
  | .inr xs => endB (cutAt 10 l).getLast? xs
def bookT (xs : List Nd) : List Nat := (xs.map fun x => nodeT x ++ [10]).flatten
/-- nodes as a book has them -/
structure NdB (m : Nat) (x : Nd) : Prop where
  col : ColOk x.1
  len : x.2.length = 4
  lt : ∀ k, some k ∈ x.2 → k < m
theorem scan_ok : ∀ {rs : List (List Nat)} {k : Nat} {xs : List Nd}, k ≤ 200 → scanL rs k = .inr xs → rs = xs.map nodeT ∧ k + xs.length ≤ 200 ∧ ∀ x ∈ xs, NdW x
  | [], k, xs, hk, h => by
    cases h
    exact ⟨rfl, hk, fun x hx => nomatch hx⟩
  | r :: rs, k, xs, hk, h => by
    have h' : (match nodeOf r with
      | none => .inl (k, "form")
      | some x => if k = 200 then .inl (k, "many") else match scanL rs (k + 1) with
        | .inl e => .inl e
        | .inr xs => .inr (x :: xs) : (Nat × Str) ⊕ List Nd) = .inr xs := h
    cases en : nodeOf r with
    | none => rw [en] at h'; cases h'
    | some x =>
      rw [en] at h'
      have h2 : (if k = 200 then .inl (k, "many") else match scanL rs (k + 1) with
        | .inl e => .inl e
        | .inr xs => .inr (x :: xs) : (Nat × Str) ⊕ List Nd) = .inr xs := h'
      by_cases h200 : k = 200
      · rw [if_pos h200] at h2; cases h2
      · rw [if_neg h200] at h2
        cases es : scanL rs (k + 1) with
        | inl e => rw [es] at h2; cases h2
        | inr ys =>
          rw [es] at h2
          cases h2
          obtain ⟨g1, g2, g3⟩ := scan_ok (by omega) es
          obtain ⟨n1, n2, n3, n4⟩ := node_print en
          refine ⟨by rw [List.map_cons, n1, g1], by rw [List.length_cons]; omega, fun y hy => ?_⟩
          rcases List.mem_cons.1 hy with rfl | hy
          · exact ⟨n2, n3, n4⟩
          · exact g3 y hy
theorem flat_join : ∀ (rows : List (List Nat)), rows ≠ [] → ∃ h ps, rows = h :: ps ∧ h ++ (ps.map fun p => 10 :: p).flatten = (rows.dropLast.map fun p => p ++ [10]).flatten ++ (rows.getLast?).getD []
  | [], h => absurd rfl h
  | [p], _ => ⟨p, [], rfl, by simp⟩
  | p :: q :: r, _ => by
    obtain ⟨h, ps, e1, e2⟩ := flat_join (q :: r) (by simp)
    refine ⟨p, q :: r, rfl, ?_⟩
    cases e1
    rw [show (p :: q :: r).dropLast = p :: (q :: r).dropLast from rfl, show (p :: q :: r).getLast? = (q :: r).getLast? from List.getLast?_cons_cons, List.map_cons (f := fun p => p ++ [10]), List.flatten_cons, List.append_assoc, ← e2]
    simp
theorem read_print {l : List Nat} {xs : List Nd} (h : readB l = .ok xs) : bookT xs = l ∧ xs.length ≤ 200 ∧ xs ≠ [] ∧ (∀ x ∈ xs, NdW x) ∧ ∀ x ∈ xs, NdB xs.length x := by
  unfold readB at h
  cases es : scanL (cutAt 10 l).dropLast 0 with
  | inl e => rw [es] at h; cases h
  | inr ys =>
    rw [es] at h
    have h2 : endB (cutAt 10 l).getLast? ys = .ok xs := h
    unfold endB at h2
    by_cases h1 : (cutAt 10 l).getLast? ≠ some []
    · rw [if_pos h1] at h2; cases h2
    · rw [if_neg h1] at h2
      by_cases h0 : ys = []
      · rw [if_pos h0] at h2; cases h2
      · rw [if_neg h0] at h2
        by_cases hf : ys.all (fitN ys.length) = true
        · rw [if_pos hf] at h2
          cases h2
          obtain ⟨g1, g2, g3⟩ := scan_ok (by omega) es
          obtain ⟨hd, ps, e1, e2⟩ := cut_join 10 l
          obtain ⟨hd', ps', e1', e2'⟩ := flat_join (cutAt 10 l) (cutAt_ne 10 l)
          rw [e1'] at e1
          cases e1
          have hl : (cutAt 10 l).getLast? = some [] := Classical.not_not.1 h1
          refine ⟨?_, by omega, h0, g3, fun x hx => ?_⟩
          · rw [hl, g1] at e2'
            rw [e2, e2']
            unfold bookT
            rw [List.map_map]
            simp [Function.comp_def]
          · have hx2 := List.all_eq_true.1 hf x hx
            unfold fitN at hx2
            exact ⟨(g3 x hx).col, (g3 x hx).len, fun k hk => by
              have := List.all_eq_true.1 hx2 _ hk
              exact of_decide_eq_true this⟩
        · rw [if_neg hf] at h2; cases h2
theorem cut_book : ∀ {xs : List Nd}, (∀ x ∈ xs, NdW x) → cutAt 10 (bookT xs) = xs.map nodeT ++ [[]]
  | [], _ => rfl
  | x :: xs, h => by
    have hx := (node_read (h x List.mem_cons_self)).2
    have e : bookT (x :: xs) = nodeT x ++ 10 :: bookT xs := by
      unfold bookT
      rw [List.map_cons, List.flatten_cons]
      simp
    rw [e, cut_app _ hx, cut_book fun y hy => h y (List.mem_cons_of_mem _ hy)]
    rfl
theorem scan_nodes : ∀ {xs : List Nd} {k : Nat}, (∀ x ∈ xs, NdW x) → k + xs.length ≤ 200 → scanL (xs.map nodeT) k = .inr xs
  | [], _, _, _ => rfl
  | x :: xs, k, h, hk => by
    have hx := (node_read (h x List.mem_cons_self)).1
    rw [List.length_cons] at hk
    show (match nodeOf (nodeT x) with
      | none => .inl (k, "form")
      | some x => if k = 200 then .inl (k, "many") else match scanL (xs.map nodeT) (k + 1) with
        | .inl e => .inl e
        | .inr xs => .inr (x :: xs) : (Nat × Str) ⊕ List Nd) = _
    rw [hx]
    show (if k = 200 then .inl (k, "many") else match scanL (xs.map nodeT) (k + 1) with
        | .inl e => .inl e
        | .inr xs => .inr (x :: xs) : (Nat × Str) ⊕ List Nd) = _
    rw [if_neg (by omega), scan_nodes (fun y hy => h y (List.mem_cons_of_mem _ hy)) (by omega)]
theorem print_read {xs : List Nd} (h0 : xs ≠ []) (hl : xs.length ≤ 200) (h : ∀ x ∈ xs, NdB xs.length x) : readB (bookT xs) = .ok xs := by
  have hw : ∀ x ∈ xs, NdW x := fun x hx => ⟨(h x hx).col, (h x hx).len, fun k hk => by have := (h x hx).lt k hk; omega⟩
  unfold readB
  rw [cut_book hw, List.dropLast_concat, scan_nodes hw (by omega)]
  show endB (xs.map nodeT ++ [[]]).getLast? xs = _
  rw [List.getLast?_concat]
  unfold endB
  rw [if_neg (by simp), if_neg h0, if_pos]
  rw [List.all_eq_true]
  intro x hx
  unfold fitN
  rw [List.all_eq_true]
  intro o ho
  cases o with
  | none => rfl
  | some k => exact decide_eq_true ((h x hx).lt k ho)
end M4

set_option Elab.async false
set_option linter.all false
set_option maxRecDepth 100000
set_option maxHeartbeats 4000000
/-! k04: Book.text, Book.read -/
namespace K4
open PySem PySem.Spec PyProof.Rows L2 Dv Ke SX M4
local macro_rules | `(tactic| walk_at "dv") => `(tactic| simp only [s_var, s_varb, s_test, s_tru, s_andv, s_orv, s_notv, s_chain, s_part, s_list, s_len, s_tuple, s_is, s_ixl, s_ixt, s_ixs, s_seqi, s_gcons, s_gnil, s_gtup, s_append, s_insert, s_enum, s_par, s_listRg, s_rng3, s_raise1, asIns_i, s_putF, s_fld, asFld_i, s_startI4, asLT_l, asLT_t, cx_K, s_reverse, s_retof, s_reto,
  asBl_bl, asInt_int, asTup_tup, asSome_some, asLst_lst, atVal_0, atVal_s, atGet_0, atGet_o, atGet_s, atOb_o, atOb_s, s_start0, s_startU, s_startV, s_add, s_addS, s_addL, s_addT, s_i2, s_ordI, s_ordS, s_isN, s_mulI, s_mulS, s_mulL, s_strip, s_inS, s_neg, s_abs, s_intI, s_intB, s_slL, s_slT, s_slS, isStr_str, s_ifand, s_ifor, s_eqS, s_eqI, s_eqB, Dv.ite_tt, Dv.ite_ff,
  wC, wOp, wMt1, Dv.wNot, Dv.wAnd, Dv.wOr, wIfE, wNil, wCons, wTup, wLst, wOb, Ob.d, wCall, wNoPart, wSl, wNx, Dv.wSeq, wDrop, wSortedSet, wSortedLen, wSortedPair, s_all, s_lc, s_for, s_zip, s_zipS, s_rng1, s_rng2, asZip_lst, asZip_tup, asStr_str, wRet, wRetN, wRetF, wSet, wOwn, wSetOb, wIf, wBk, wCt, wFn, wFnB, wFnF, wFnK, wFnFK, dEnds, dEndsF, gNm, wYes,
  wipeE, List.map_cons, List.map_nil, List.set_cons_zero, List.set_cons_succ, D.tru, D.len, D.items, D.seq, D.flat, D.isNon, true_and, and_true, if_true, if_false, Bool.false_eq_true, Bool.not_true, Bool.not_false])
local macro_rules | `(tactic| walk_at "dn") => `(tactic| simp only [↓s_var, ↓s_varb, ↓s_test, ↓s_tru, ↓s_andv, ↓s_orv, ↓s_notv, ↓s_chain, ↓s_part, ↓s_list, ↓s_rInt2, ↓s_len, ↓s_tuple, ↓s_is, ↓s_ixl, ↓s_ixt, ↓s_ixs, ↓s_seqi, ↓s_gcons, ↓s_gnil, ↓s_gtup, ↓s_append, ↓s_insert, ↓s_enum, ↓s_par, ↓s_listRg, ↓s_rng3, ↓s_raise1, ↓asIns_i, ↓s_putF, ↓s_fld, ↓asFld_i, ↓s_startI4, ↓asLT_l, ↓asLT_t, ↓cx_K, ↓s_reverse, ↓s_retof, ↓s_reto, ↓asBl_bl, ↓asInt_int, ↓asTup_tup, ↓asSome_some, ↓asLst_lst, ↓atVal_0, ↓atVal_s, ↓atGet_0, ↓atGet_o, ↓atGet_s, ↓atOb_o, ↓atOb_s, ↓s_start0, ↓s_startU, ↓s_startV, ↓s_add, ↓s_addS, ↓s_addL, ↓s_addT, ↓s_i2, ↓s_ordI, ↓s_ordS, ↓s_isN, ↓s_mulI, ↓s_mulS, ↓s_mulL, ↓s_strip, ↓s_inS, ↓s_neg, ↓s_abs, ↓s_intI, ↓s_intB, ↓s_slL, ↓s_slT, ↓s_slS, ↓isStr_str, ↓s_ifand, ↓s_ifor, ↓s_eqS, ↓s_eqI, ↓s_eqB, ↓Dv.ite_tt, ↓Dv.ite_ff, wC, wOp, wMt1, Dv.wNot, Dv.wAnd, Dv.wOr, wIfE, wNil, wCons, wTup, wLst, wOb, Ob.d, wCall, wNoPart, wOrT, wAndT, wHead, wGetK, rIxK, wSl, wNx, Dv.wSeq, wDrop, wSortedSet, wSortedLen, wSortedPair, ↓s_all, ↓s_lc, ↓s_for, ↓s_zip, ↓s_zipS, ↓s_rng1, ↓s_rng2, ↓asZip_lst, ↓asZip_tup, ↓asStr_str, wRet, wRetN, wRetF, wSet, wOwn, wSetOb, wIf, wBk, wCt, wFn, wFnB, wFnF, wFnK, wFnFK, dEnds, dEndsF, gNm, wYes, wipeE, List.map_cons, List.map_nil, List.set_cons_zero, List.set_cons_succ, D.tru, D.len, D.items, D.seq, D.flat, D.isNon, ↓true_and, ↓and_true, ↓if_true, ↓if_false, Bool.false_eq_true, Bool.not_true, Bool.not_false])

section
variable {P : Program} {w : World} {K : PySem.W.Frag} {mg : Str → Option Value} {base : Heap}
abbrev sIniT : Stmt := inClass (topS 3) 0
theorem scIniT : FnScope ["self", "line", "why"] ["self", "line", "why"] (defScope sIniT) := ⟨rfl, rfl, rfl, by decide +kernel, rfl, by decide +kernel, by decide +kernel⟩
theorem ok_iniT {f C : Addr} {fd : FuncData} (F : Fun K "__init__" "InvalidText.__init__" sIniT f fd) (xc : XCl K C) (att : ∀ f ∈ (["line", "why"] : List Str), PySem.W.findIn K (.ref C) f = some none) : FnOk P w K mg base CX0 1 f fd ["self", "line", "why"] (spCtor K C ["line", "why"]) := by
  refine F.ok scIniT (fun vs H Q E h => ?_) (fun cdv A outer s' H vs Q E hr h => ?_)
  · obtain ⟨a, xs, rfl, hl, _⟩ := h
    rw [List.length_cons, hl]
    rfl
  · obtain ⟨a, xs, rfl, hl, ha, _, q⟩ := h
    match xs, hl with
    | [x0, x1], _ =>
      refine ⟨_, pss_cons (ps_att (pv 0) (pv 1)) (pss_one (ps_att (pv 0) (pv 2))), ?_⟩
      refine ⟨x0, rfl, .ref a, rfl, a, C, rfl, xc, att _ (by decide), .inl ⟨ha, fun dx nd ne => ?_⟩⟩
      refine ⟨x1, rfl, .ref a, rfl, a, C, rfl, xc, att _ (by decide), .inr ⟨dx, _, upd_same, (by rw [upd_ne ne]; exact upd_same), by show 1 ≤ 900; decide, ?_⟩⟩
      refine q (by decide) _ dx nd ne (fun b ba bd => ?_) ?_ upd_same
      · rw [upd_ne bd, upd_ne ba, upd_ne bd]
      · rw [upd_ne ne.symm]; exact upd_same
end
theorem s_raise2 {C : Addr} {f g : Str} {we wf : WE} {De : DEnds} {env : En} {n : Nat} : wRaise C [f, g] (wCons we (wCons wf wNil)) De env n = we env n fun d n1 => wf env n1 fun e n2 => De.ex env n2 ⟨C, some [(g, e), (f, d)]⟩ := by
  show (we env n fun d n1 => wf env n1 fun e n2 => ([d, e] : List D).length = 2 ∧ De.ex env n2 ⟨C, if ([(f, d), (g, e)] : List (Str × D)).reverse = [] then none else some ([(f, d), (g, e)] : List (Str × D)).reverse⟩) = _
  congr 1
  funext d n1
  congr 1
  funext e n2
  exact propext ⟨fun h => by have := h.2; rwa [if_neg (by simp)] at this, fun h => ⟨rfl, by rw [if_neg (by simp)]; exact h⟩⟩
section
variable {g : WG} {we : WE} {vs : List Nat} {env : En} {n : Nat}
theorem lc_mapG {α : Type} {xs : List α} {Q : List D → Nat → Prop} (r f : α → D) (hl : xs.length ≤ sizeLine) (hQ : Q (xs.map f) n)
    (h : ∀ (i : Nat) (x : α), xs[i]? = some x → ∀ R : D → Nat → Prop, R (f x) n → g (r x) (wipeE env vs) fun env2 => we env2 n R) :
    LcR g wYes we vs env (xs.map r) n Q := by
  refine ⟨fun i ds n' => ds = (xs.take i).map f ∧ n' = n, ⟨rfl, rfl⟩, ?_, ?_⟩
  · rintro ds n' ⟨rfl, rfl⟩
    rw [List.length_map, List.take_length]
    exact hQ
  · rintro i y ds n' hy ⟨rfl, rfl⟩
    rw [List.getElem?_map] at hy
    obtain ⟨x, hx, rfl⟩ := Option.map_eq_some_iff.1 hy
    have hi : i < xs.length := (List.getElem?_eq_some_iff.1 hx).1
    refine h i x hx _ ⟨?_, ?_, rfl⟩
    · rw [List.length_map, List.length_take]
      omega
    · rw [List.take_add_one, hx, List.map_append]
      rfl
end
def lineT (x : Nd) : List Nat := nodeT x ++ [10]
theorem nodeT_len {x : Nd} (h : NdW x) : (nodeT x).length ≤ 50 := by
  obtain ⟨c, ks⟩ := x
  obtain ⟨hc, hl4, hlt⟩ := h
  obtain ⟨ps, ep, eflat, hpl, hpn⟩ := pcs_of hl4 hlt
  have hprt : (prt 97 ks).length ≤ 20 := by
    rw [← eflat, List.length_flatten]
    have h5 : (ps.map List.length).sum ≤ ps.length * 5 := sum_len hpn
    omega
  show (colL c ++ prt 97 ks).length ≤ 50
  rw [List.length_append]
  have : (colL c).length ≤ 1 := by
    rcases hc with h | h | h | h <;> (have h' : c = _ := h; rw [h']; decide +kernel)
  omega
theorem bookT_len {xs : List Nd} (h : ∀ x ∈ xs, NdW x) (hl : xs.length ≤ 201) : (bookT xs).length ≤ 11000 := by
  unfold bookT
  rw [List.length_flatten]
  have h5 : ((xs.map lineT).map List.length).sum ≤ (xs.map lineT).length * 51 := sum_len fun p hp => by
    obtain ⟨x, hx, rfl⟩ := List.mem_map.1 hp
    unfold lineT
    rw [List.length_append]
    have := nodeT_len (h x hx)
    show _ + 1 ≤ 51
    omega
  rw [List.length_map] at h5
  have : ((xs.map lineT).map List.length).sum = ((xs.map fun x => nodeT x ++ [10]).map List.length).sum := rfl
  omega
theorem nl_S : ("\n" : Str) = S [10] := S_str (by decide +kernel)
theorem nodeD_nd {m : Nat} {x : Nd} (h : NdW x) : nodeD (m : Int) (ndD x) = fitN m x := by
  obtain ⟨c, ks⟩ := x
  obtain ⟨hc, hl4, _⟩ := h
  show (decide ((ks.map kD).length = 4) && ((emptyD (.str c) || colorD (.str c)) && (ks.map kD).all (kidD m))) = ks.all (fitK m)
  have e1 : (emptyD (.str c) || colorD (.str c)) = true := by rcases hc with h | h | h | h <;> (have h' : c = _ := h; rw [h']; decide +kernel)
  rw [e1, List.length_map, decide_eq_true hl4, Bool.true_and, Bool.true_and, List.all_map]
  congr 1
  funext o
  cases o with
  | none => rfl
  | some k =>
    show (decide ((0 : Int) ≤ (k : Nat)) && decide (((k : Nat) : Int) ≤ (m : Nat) - 1)) = decide (k < m)
    rw [decide_eq_true (by omega), Bool.true_and]
    exact decide_eq_decide.2 (by omega)
theorem first_none {m : Int} : ∀ {xs : List D} {i : Nat}, (∀ x ∈ xs, nodeD m x = true) → firstBad m xs i = none
  | [], _, _ => rfl
  | x :: xs, i, h => by
    unfold firstBad
    rw [if_pos (h x List.mem_cons_self)]
    exact first_none fun y hy => h y (List.mem_cons_of_mem _ hy)
theorem ndDom {K : PySem.W.Frag} (x : Nd) : NodeDom K (ndD x) := by
  refine ⟨.inl rfl, fun xs e _ => ?_⟩
  obtain ⟨c, ks⟩ := x
  cases e
  refine ⟨_, _, rfl, .inl rfl, rfl, by show 0 ≤ 64; decide, fun y hy => ?_⟩
  obtain ⟨o, _, rfl⟩ := List.mem_map.1 hy
  cases o <;> exact .inl rfl
def sp_Book_text (C : Addr) : DSp := fun ds n Q _ => ∃ fs xs, ds = [.ins C fs] ∧ fs.lookup ("_nodes" : Str) = some (D.lst (xs.map ndD)) ∧ xs.length ≤ 200 ∧ (∀ x ∈ xs, NdW x) ∧ Q (.str (S (bookT xs))) n
section
variable {P : Program} {w : World} {K : PySem.W.Frag} {mg : Str → Option Value} {base : Heap}
abbrev s_Book_text : Stmt := inClass (topS 31) 7
theorem sc_Book_text : FnScope ["self", "node"] ["self"] (defScope s_Book_text) := ⟨rfl, rfl, rfl, by decide +kernel, rfl, by decide +kernel, by decide +kernel⟩
theorem ok_Book_text {C : Addr} {k : Nat} {f : Addr} {fd : FuncData} (hk : 2 ≤ k) (M : Mg mg) (F : Fun K "text" "Book.text" s_Book_text f fd)  (T : Cls K C) (N__nodes : NoAttr K C "_nodes") (C_node_text : Cal P w K mg base CX0 k "node_text" ["node"] sp_node_text) : FnOk P w K mg base CX0 (k + 1) f fd ["self"] (lSp K (sp_Book_text C)) := by
  refine dok F sc_Book_text (fun ds n Q E h => ?_) (fun cdv A outer s H E hr => ⟨_, (dss_one (ds_ret (de_join (DE.b de_str) (DE.b (DF.toE (df_lc (own := [("node", 1)]) sc_Book_text.nd (di_seq (de_fld T N__nodes (dvb 0))) (blkOk_by (N := ["self", "node"]) (sc := defScope s_Book_text) (by decide +kernel)) (fun _ _ _ _ _ => (dg_name (i := 1) sc_Book_text.nd rfl (by first | exact Or.inl rfl | exact Or.inr rfl))) (fun _ _ _ _ _ => dts_nil) (fun _ _ _ _ _ => (de_op od_add (DE.b (de_call C_node_text hr (da_cons (dv 1) da_nil))) (DE.b de_str))))))))), fun ds n Q E h => ?_⟩)
  · obtain ⟨fs, xs, rfl, _⟩ := h
    rfl
  · obtain ⟨fs, xs, rfl, hf, hl, hx, q⟩ := h
    walk_at "dn"
    rw [hf]
    walk_at "dn"
    have hz := sizeLine_eq
    refine ⟨rfl, lc_mapG ndD (fun x => .str (S (lineT x))) (by omega) ?_ fun i x hx2 R hR => ?_⟩
    · refine ⟨"", _, (xs.map lineT).map S, rfl, rfl, ?_, ?_, ?_⟩
      · rw [show (xs.map fun x => D.str (S (lineT x))) = ((xs.map lineT).map S).map D.str by rw [List.map_map, List.map_map]; rfl]
        exact strsOf_map _
      · have := bookT_len hx (by omega)
        unfold bookT at this
        rw [List.length_flatten] at this
        rw [show ("" : Str).length = 0 from rfl, Nat.mul_zero, Nat.add_zero, lens]
        show ((xs.map fun x => nodeT x ++ [10]).map List.length).sum ≤ _
        omega
      · rw [show ("" : Str) = S [] from rfl, join_S, joinL_nil]
        exact q
    · have hx3 := hx x (List.mem_of_getElem? hx2)
      walk_at "dn"
      refine ⟨x, rfl, hx3, ?_⟩
      have := nodeT_len hx3
      rw [nl_S]
      show rAddD (.str _) (.str _) _
      rw [s_addS, S_cat]
      refine ⟨?_, hR⟩
      rw [S_len, S_len]
      show _ + 1 ≤ _
      omega
def consX (xs : List Nd) : (Nat × Str) ⊕ List Nd → (Nat × Str) ⊕ List Nd
  | .inl e => .inl e
  | .inr ys => .inr (xs ++ ys)
def readD : D → Rb
  | .str s => readB s.cps.toList
  | _ => .bad 0 "form"
def ReadDom (K : PySem.W.Frag) (d : D) : Prop := d.kind K ∧ ∀ s, d = .str s → s.length ≤ 100000
def sp_Book_read (C CT : Addr) (K : PySem.W.Frag) : DSp := fun ds n Q E => ∃ d : D, ds = [d] ∧ ReadDom K d ∧ match readD d with
  | .bad k why => E ⟨CT, some [("why", .str why), ("line", .int k)]⟩ n
  | .ok xs => ∀ ls : List D, ls.length = xs.length → (∀ x ∈ ls, LenOk x) → Q (.ins C [("_nodes", .lst (xs.map ndD)), ("_lengths", .lst ls)]) n
theorem ini_len {CN CM : Addr} : ∀ (ds : List D) (n : Nat) (Q : List (Str × D) → Nat → Prop) (E : EX → Nat → Prop), sp_Book___init__ CN CM K ds n Q E → ds.length = 1 := fun ds n Q E ⟨d, e, _⟩ => by rw [e]; rfl
abbrev s_Book_read : Stmt := inClass (topS 31) 8
theorem sc_Book_read : FnScope ["text", "lines", "behind", "nodes", "at", "line", "node"] ["text"] (defScope s_Book_read) := ⟨rfl, rfl, rfl, by decide +kernel, rfl, by decide +kernel, by decide +kernel⟩
theorem ok_Book_read {C CInvalidText : Addr} {CN CM fi : Addr} {gi : FuncData} {kI : Nat} (hB : mg "Book" = some (.ref C)) (MK : Mk K C fi) (FI : FnOk P w K mg base (L2.CX P w) kI fi gi ["self", "nodes"] (lSpI K C (sp_Book___init__ CN CM K))) (bi : Binds K gi ["self", "nodes"] []) {k : Nat} {f : Addr} {fd : FuncData} (hk : 2 ≤ k) (hkI : kI < k) (M : Mg mg) (F : Fun K "read" "Book.read" s_Book_read f fd)  (T : Cls K C) (O_InvalidText : CtorOk P w K mg base "InvalidText" CInvalidText ["line", "why"]) (C_read_node : Cal P w K mg base CX0 k "read_node" ["line"] sp_read_node) (C_is_node : Cal P w K mg base CX0 k "is_node" ["value", "many"] (sp_is_node K)) : FnOk P w K mg base (L2.CX P w) (k + 1) f fd ["text"] (lSp K (sp_Book_read C CInvalidText K)) := by
  refine dokX F sc_Book_read (fun ds n Q E h => ?_) (fun cdv A outer s H E hr => ⟨_, (dss_cons (ds_if (dt_not (dt_tru (DE.b (de_bi (cd_isCK (K := K) rfl) M.b_isinstance (dab_cons (dvb 0) (dab_cons (DE.b (de_ty (T := "str") M.b_str)) dab_nil)))))) (dss_one (ds_raise O_InvalidText takesX (hr.mono (by omega)) (da_cons de_int (da_cons de_str da_nil)))) dss_nil)
      (dss_cons (ds_own (i := 1) sc_Book_read.nd rfl (by first | exact Or.inl rfl | exact Or.inr rfl) (df_split (dvb 0) (DE.b de_str)))
      (dss_cons (ds_popSet 1 (j := 2) sc_Book_read.nd rfl rfl (by first | exact Or.inl rfl | exact Or.inr rfl))
      (dss_cons (ds_own (i := 3) sc_Book_read.nd rfl (by first | exact Or.inl rfl | exact Or.inr rfl) (df_lst da_nil))
      (dss_cons (ds_frz 1 (ds_for (vs := [4, 5]) (Et.di_enum M.b_enumerate (da_cons (dv 1) da_nil)) (dg_tup (k := 2) (dgs_name (i := 4) sc_Book_read.nd rfl (by first | exact Or.inl rfl | exact Or.inr rfl) (dgs_name (i := 5) sc_Book_read.nd rfl (by first | exact Or.inl rfl | exact Or.inr rfl) dgs_nil))) (dss_cons (ds_set (i := 6) sc_Book_read.nd rfl (by first | exact Or.inl rfl | exact Or.inr rfl) (de_call C_read_node hr (da_cons (dv 5) da_nil)))
      (dss_cons (ds_if (dt_cmp od_isN (dvb 6) (DE.b de_non)) (dss_one (ds_raise O_InvalidText takesX (hr.mono (by omega)) (da_cons (dv 4) (da_cons de_str da_nil)))) dss_nil)
      (dss_cons (ds_if (dt_cmp (od_eq (hu64 hr)) (dvb 4) (DE.b (de_gint M.c_MOST_NODES))) (dss_one (ds_raise O_InvalidText takesX (hr.mono (by omega)) (da_cons (dv 4) (da_cons de_str da_nil)))) dss_nil)
      (dss_one (ds_append 3 (dv 6)))))) (hp := passes_of rfl)))
      (dss_cons (ds_frz 3 (ds_if (dt_cmp (od_ne (hu64 hr)) (dvb 2) (DE.b de_str)) (dss_one (ds_raise O_InvalidText takesX (hr.mono (by omega)) (da_cons (de_bi cd_len M.b_len (dab_cons (dvb 1) dab_nil)) (da_cons de_str da_nil)))) dss_nil))
      (dss_cons (ds_if (dt_not (dt_tru (dvb 3))) (dss_one (ds_raise O_InvalidText takesX (hr.mono (by omega)) (da_cons de_int (da_cons de_str da_nil)))) dss_nil)
      (dss_cons (ds_if (dt_not (dt_tru (DE.b (de_bi (cd_all rfl) M.b_all (dab_cons (DE.b (DF.toE (df_lc (own := [("node", 6)]) sc_Book_read.nd (di_seq (dv 3)) (blkOk_by (N := ["text", "lines", "behind", "nodes", "at", "line", "node"]) (sc := defScope s_Book_read) (by decide +kernel)) (fun _ _ _ _ _ => (dg_name (i := 6) sc_Book_read.nd rfl (by first | exact Or.inl rfl | exact Or.inr rfl))) (fun _ _ _ _ _ => dts_nil) (fun _ _ _ _ _ => (de_call C_is_node hr (da_cons (dv 6) (da_cons (de_bi cd_len M.b_len (dab_cons (dvb 3) dab_nil)) da_nil))))))) dab_nil))))) (dss_one (ds_raise O_InvalidText takesX (hr.mono (by omega)) (da_cons (de_bi cd_len M.b_len (dab_cons (dvb 3) dab_nil)) (da_cons de_str da_nil)))) dss_nil)
      (dss_one (ds_ret (de_mk MK FI hB bi (hr.mono (by omega)) (da_cons (dv 3) da_nil) (hl := ini_len)))))))))))), fun ds n Q E h => ?_⟩)
  · obtain ⟨d, rfl, _⟩ := h
    rfl
  · obtain ⟨d, rfl, ⟨hd, hs⟩, q⟩ := h
    walk_at "dn"
    have hz := sizeLine_eq
    have e0 : ∀ r : Rb, readD d = r → (match r with
      | .bad k why => E ⟨CInvalidText, some [("why", .str why), ("line", .int k)]⟩ n
      | .ok xs => ∀ ls : List D, ls.length = xs.length → (∀ x ∈ ls, LenOk x) → Q (.ins C [("_nodes", .lst (xs.map ndD)), ("_lengths", .lst ls)]) n) := fun r er => by
      rw [er] at q
      exact q
    rw [s_isC_str hd]
    cases d with
    | str s =>
      obtain ⟨l, rfl⟩ : ∃ l, s = S l := ⟨_, (S_tl s).symm⟩
      have hl := hs _ rfl
      rw [S_len] at hl
      have eq : ∀ r : Rb, readB l = r → readD (.str (S l)) = r := fun r h => by rw [← h]; rfl
      simp only [D.isStr, asSome_some, Bool.not_true, Bool.false_eq_true, if_false]
      rw [nl_S]
      unfold wSplit
      walk_at "dn"
      refine ⟨l, 10, rfl, rfl, by decide, by omega, ?_⟩
      obtain ⟨rs, b, er⟩ : ∃ rs b, cutAt 10 l = rs ++ [b] := ⟨_, _, (List.dropLast_concat_getLast (cutAt_ne 10 l)).symm⟩
      have erd : readB l = match scanL rs 0 with
        | .inl e => .bad e.1 e.2
        | .inr xs => endB (some b) xs := by
        unfold readB
        rw [er, List.dropLast_concat, List.getLast?_concat]
        all_goals rfl
      have rl : ∀ p ∈ rs, p.length ≤ 100000 := fun p hp => Nat.le_trans (cutAt_len (c := 10) (l := l) (by rw [er]; exact List.mem_append_left _ hp)) hl
      refine ⟨rs.map fun p => .str (S p), .str (S b), by rw [er, List.map_append]; rfl, by decide, ?_⟩
      walk_at "dn"
      refine ⟨Nat.zero_le _, ?_⟩
      have ef1 : frzE 1 [SD.val (D.str (S l)), SD.own (Ob.lst (List.map (fun p => D.str (S p)) rs)), SD.val (D.str (S b)), SD.own (Ob.lst []), SD.un, SD.un, SD.un]
        = [SD.val (D.str (S l)), SD.val (D.lst (List.map (fun p => D.str (S p)) rs)), SD.val (D.str (S b)), SD.own (Ob.lst []), SD.un, SD.un, SD.un] := rfl
      rw [ef1]
      walk_at "dn"
      refine ⟨fun i env m => m = n ∧ ∃ (xs : List Nd) (e4 e5 e6 : SD), env = [SD.val (D.str (S l)), SD.val (D.lst (List.map (fun p => D.str (S p)) rs)), SD.val (D.str (S b)), SD.own (Ob.lst (xs.map ndD)), e4, e5, e6] ∧ (∀ o, e6 ≠ .own o) ∧ xs.length = i ∧ i ≤ 200 ∧ (∀ x ∈ xs, NdW x) ∧ scanL rs 0 = consX xs (scanL (rs.drop i) i), ⟨rfl, [], _, _, _, rfl, (fun o z => nomatch z), rfl, by omega, (fun x hx => nomatch hx), ?_⟩, ?_, ?_⟩
      · show scanL rs 0 = consX [] (scanL rs 0)
        cases scanL rs 0 <;> rfl
      · rintro env m ⟨em, xs, e4, e5, e6, rfl, e6o, exl, hi, hx, es⟩
        subst em
        have elen : (Et.enumD (List.map (fun p => D.str (S p)) rs)).length = rs.length := by rw [Et.enumD_len, List.length_map]
        rw [elen] at hi es exl
        rw [List.drop_length] at es
        have es' : scanL rs 0 = .inr xs := es.trans (congrArg Sum.inr (List.append_nil xs))
        rw [es'] at erd
        have erd' : readB l = endB (some b) xs := erd
        have ef3 : frzE 3 [SD.val (D.str (S l)), SD.val (D.lst (List.map (fun p => D.str (S p)) rs)), SD.val (D.str (S b)), SD.own (Ob.lst (xs.map ndD)), e4, e5, e6]
          = [SD.val (D.str (S l)), SD.val (D.lst (List.map (fun p => D.str (S p)) rs)), SD.val (D.str (S b)), SD.val (D.lst (xs.map ndD)), e4, e5, e6] := rfl
        unfold endB at erd'
        walk_at "dn"
        rw [ef3]
        walk_at "dn"
        simp only [s_raise2]
        walk_at "dn"
        have be : ∀ (k : Nat) (why : Str), readB l = .bad k why → E ⟨CInvalidText, some [("why", .str why), ("line", .int k)]⟩ m := fun k why h => e0 _ (eq _ h)
        rw [List.length_map, List.length_map, ← exl]
        by_cases hb : b = []
        · subst hb
          rw [if_neg (by rw [show ("" : Str) = S [] from rfl, decide_eq_true rfl]; exact Bool.false_ne_true)]
          rw [if_neg (by simp)] at erd'
          by_cases h0 : xs = []
          · subst h0
            rw [if_pos rfl] at erd'
            rw [if_pos (by rfl)]
            exact be 0 "missing" erd'
          · rw [if_neg h0] at erd'
            rw [if_neg (by cases xs with | nil => exact absurd rfl h0 | cons a r => exact Bool.false_ne_true)]
            refine ⟨by cases e6 with | own o => exact absurd rfl (e6o o) | _ => rfl, lc_mapG ndD (fun x => .bl (fitN xs.length x)) (by omega) ?_ fun i x hx2 R hR => ?_⟩
            · rw [show (xs.map fun x => D.bl (fitN xs.length x)) = (xs.map (fitN xs.length)).map D.bl by rw [List.map_map]; rfl, s_all]
              simp only [asSome_some]
              have eall : (xs.map (fitN xs.length)).all id = xs.all (fitN xs.length) := by rw [List.all_map]; rfl
              rw [eall]
              by_cases hf : xs.all (fitN xs.length) = true
              · rw [if_pos hf] at erd'
                rw [hf, if_neg (by decide)]
                have q2 := e0 _ (eq _ erd')
                unfold wMk
                walk_at "dn"
                refine ⟨.lst (xs.map ndD), rfl, ⟨.inl rfl, by show (xs.map ndD).length ≤ _; rw [List.length_map]; omega, fun y hy => ?_⟩, ?_⟩
                · obtain ⟨x, _, rfl⟩ := List.mem_map.1 hy
                  exact ndDom x
                · have er2 : resD (.lst (xs.map ndD)) = .made (xs.map ndD) := by
                    unfold resD
                    have hl0 : ¬ xs.length = 0 := fun z => h0 (List.length_eq_zero_iff.1 z)
                    have ei : itsD (.lst (xs.map ndD)) = xs.map ndD := rfl
                    rw [ei, if_neg (by rw [List.length_map]; simp [D.isLst, hl0, h0]), List.length_map, if_neg (by omega), first_none]
                    intro y hy
                    obtain ⟨x, hx2, rfl⟩ := List.mem_map.1 hy
                    rw [nodeD_nd (hx x hx2)]
                    exact List.all_eq_true.1 hf x hx2
                  rw [er2]
                  intro ls h1 h2
                  rw [List.length_map] at h1
                  exact q2 ls h1 h2
              · rw [if_neg hf] at erd'
                rw [Bool.eq_false_iff.2 hf, if_pos (by decide)]
                exact be _ "node" erd'
            · walk_at "dn"
              refine ⟨ndD x, xs.length, by rw [List.length_map], ndDom x, ?_⟩
              rw [nodeD_nd (hx x (List.mem_of_getElem? hx2))]
              exact hR
        · rw [if_pos (by rw [show ("" : Str) = S [] from rfl, decide_eq_false fun e => hb (S_inj e)]; rfl)]
          rw [if_pos (by simpa using hb)] at erd'
          exact be _ "form" erd'
      · rintro i y env m hy ⟨em, xs, e4, e5, e6, rfl, e6o, exl, hi, hx, es⟩
        subst em
        have hi2 : i < rs.length := by
          have := (List.getElem?_eq_some_iff.1 hy).1
          rw [Et.enumD_len, List.length_map] at this
          exact this
        have hp : rs[i]? = some rs[i] := List.getElem?_eq_getElem hi2
        have hx0 : (List.map (fun p => D.str (S p)) rs)[i]? = some (.str (S rs[i])) := by rw [List.getElem?_map, hp]; rfl
        rw [Et.enumD_get hx0] at hy
        cases hy
        have edr : rs.drop i = rs[i] :: rs.drop (i + 1) := List.drop_eq_getElem_cons hi2
        have hrl := rl _ (List.getElem_mem hi2)
        generalize rs[i] = r at hp edr hrl
        walk_at "dn"
        refine ⟨rfl, r, rfl, hrl, ?_⟩
        have be : ∀ (k : Nat) (why : Str), readB l = .bad k why → E ⟨CInvalidText, some [("why", .str why), ("line", .int k)]⟩ m := fun k why h => e0 _ (eq _ h)
        have es2 : scanL (rs.drop i) i = (match nodeOf r with
            | none => .inl (i, "form")
            | some x => if i = 200 then .inl (i, "many") else match scanL (rs.drop (i + 1)) (i + 1) with
              | .inl e => .inl e
              | .inr xs => .inr (x :: xs)) := by rw [edr]; rfl
        unfold nodeR
        cases en : nodeOf r with
        | none =>
          rw [en] at es2
          rw [es2] at es
          rw [es] at erd
          show if true = true then _ else _
          rw [if_pos rfl, s_raise2]
          walk_at "dn"
          exact be _ _ erd
        | some x =>
          rw [en] at es2
          obtain ⟨n1, n2, n3, n4⟩ := node_print en
          show if false = true then _ else _
          rw [if_neg Bool.false_ne_true]
          walk_at "dn"
          by_cases h2 : i = 200
          · have es3 : scanL (rs.drop i) i = .inl (i, "many") := es2.trans (if_pos h2)
            rw [es3] at es
            rw [es] at erd
            rw [if_pos (decide_eq_true (by omega)), s_raise2]
            walk_at "dn"
            exact be _ _ erd
          · have es3 := es2.trans (if_neg h2)
            rw [if_neg (by rw [decide_eq_true_eq]; omega)]
            have hl2 : (xs ++ [x]).length = i + 1 := by rw [List.length_append, exl, List.length_singleton]
            refine ⟨by rw [List.length_map]; omega, xs ++ [x], _, _, _, by rw [List.map_append]; rfl, ?_, hl2, by omega, fun y hy => ?_, ?_⟩
            · intro o z; cases z
            · rcases List.mem_append.1 hy with hy | hy
              · exact hx y hy
              · rw [List.mem_singleton.1 hy]
                exact ⟨n2, n3, n4⟩
            · rw [es, es3]
              show consX xs (match scanL (rs.drop (i + 1)) (i + 1) with | .inl e => .inl e | .inr xs => .inr (x :: xs)) = _
              cases scanL (rs.drop (i + 1)) (i + 1) with
              | inl e => rfl
              | inr zs =>
                show Sum.inr (xs ++ x :: zs) = Sum.inr (xs ++ [x] ++ zs)
                rw [List.append_assoc]
                rfl
    | _ =>
      simp only [D.isStr, asSome_some, Bool.not_false, if_true, s_raise2]
      walk_at "dn"
      exact e0 _ rfl
end
end K4

set_option Elab.async false
set_option linter.all false
set_option maxRecDepth 100000
set_option maxHeartbeats 4000000
/-! DvAA: two names at once through a tuple (a name seen by an inner block), the second a new object -/
namespace Dv
open PySem PySem.Spec PyProof.Rows L2 Ke
section
variable {X : Cx} {Y : XI} {x y : Str} {px py pt pos : Pos} {a b : Expr} {we : WE} {wo : WO} {kt k2 i j : Nat} {pt2 : Pos}
theorem ds_parVFc (hN : X.N.Nodup) (hi : X.N[i]? = some x) (hj : X.N[j]? = some y) (hx : Loc X.env.scope x) (hy : Loc X.env.scope y) (hfx : X.fn x = true ∨ X.env.scope.names.lookup x = some .local) (hfy : X.fn y = true ∨ X.env.scope.names.lookup y = some .local) (ha : DE X a we) (hb : DF X b wo)
    (hs1 : starEach [a, b] X.env = (false, eval a X.env) :: starEach [b] X.env := by rfl) (hs2 : starEach [b] X.env = (false, eval b X.env) :: starEach [] X.env := by rfl)
    (hc : X.calm = true := by rfl) (hs : swapsWithSole [.Tuple [.Name x px, .Name y py] kt pt] (.Tuple [a, b] k2 pt2) pos.line X.env = pure false := by rfl)
    (hw : swappedStores [.Tuple [.Name x px, .Name y py] kt pt] (.Tuple [a, b] k2 pt2) X.env = pure none := by rfl)
    (h1 : (assignEach [.Tuple [.Name x px, .Name y py] kt pt] X.env).map (·.2) = [assign (.Tuple [.Name x px, .Name y py] kt pt) X.env] := by rfl) :
    DS X Y (.Assign [.Tuple [.Name x px, .Name y py] kt pt] (.Tuple [a, b] k2 pt2) pos) (wParVF i j we wo) :=
  .of (ps_asg (pe_tup (pa_cons ha.pe (pa_cons hb.pe pa_nil hs2) hs1)) (pg_tup hc (pgs_cons (pg_name hN hi hx hfx) (pgs_cons (pg_name hN hj hy hfy) pgs_nil))) hs hw h1) fun E σ H ⟨c, ad, n, env, D0, R, q0, S⟩ => ⟨c, ad, n, env, _, R, q0, fun d n1 q1 v H1 e1 r1 => ⟨c, ad, n1, env, _, R.step e1, q1, fun o n2 q2 p u H2 hp e2 hu ro => by
    have R1 := (R.step e1).set (i := i) r1
    refine ⟨by show 2 ≤ sizeLine; decide, fun p2 hp2 => ⟨p2, [v, .ref p], rfl, .inl (.inl upd_same), rfl, v, [.ref p], rfl, .ref p, [], rfl, rfl, ?_⟩⟩
    have ne : p ≠ p2 := fun z => by rw [z, hp2] at hu; cases hu
    have e3 : EStp c H2 (upd H2 p2 (.tup [v, .ref p])) n2 := .new e2.bag hp2
    have sm : Same H2 (upd H2 p2 (.tup [v, .ref p])) := fun b o g => by
      have : b ≠ p2 := fun z => by rw [z, hp2] at g; cases g
      rw [upd_ne this]
      exact g
    exact S.nx _ _ q2 _ _ _ (R1.setOwn (i := j) hp (e2.trans e3) (by rw [upd_ne ne]; exact hu) (ro.same (cut_mono fun a o h1 h2 => ⟨fun z => h1 (z.imp (oa_less (fun o z => by cases z)) id), sm a o h2⟩)))⟩⟩
end
end Dv

set_option Elab.async false
set_option linter.all false
set_option maxRecDepth 100000
set_option maxHeartbeats 4000000
/-! DvAB: slices of lists by natural numbers; find of one sign -/
namespace Dv
open PySem PySem.Spec PyProof.Rows L2
theorem cutL_take {α : Type} (xs : List α) (k : Nat) : cutL xs none (some (k : Int)) = xs.take k := by
  unfold cutL
  rw [HT.sIx_none, HT.sIx_nat, List.drop_zero, Nat.sub_zero]
  by_cases h : k ≤ xs.length
  · rw [Nat.min_eq_left h]
  · rw [Nat.min_eq_right (by omega), List.take_length, List.take_of_length_le (by omega)]
theorem cutL_drop {α : Type} (xs : List α) (k : Nat) : cutL xs (some (k : Int)) none = xs.drop k := by
  unfold cutL
  rw [HT.sIx_none, HT.sIx_nat]
  by_cases h : k ≤ xs.length
  · rw [Nat.min_eq_left h, List.take_of_length_le (by rw [List.length_drop]; omega)]
  · rw [Nat.min_eq_right (by omega), List.drop_length, List.drop_of_length_le (by omega)]
    simp
end Dv

set_option Elab.async false
set_option linter.all false
set_option maxRecDepth 100000
set_option maxHeartbeats 4000000
/-! k04: the law's own reading -/
namespace K4
open PySem PySem.Spec PyProof.Rows L2 Dv Ke SX M4
local macro_rules | `(tactic| walk_at "dv") => `(tactic| simp only [s_var, s_varb, s_test, s_tru, s_andv, s_orv, s_notv, s_chain, s_part, s_list, s_len, s_tuple, s_is, s_ixl, s_ixt, s_ixs, s_seqi, s_gcons, s_gnil, s_gtup, s_append, s_insert, s_enum, s_par, s_listRg, s_rng3, s_raise1, asIns_i, s_putF, s_fld, asFld_i, s_startI4, asLT_l, asLT_t, cx_K, s_reverse, s_retof, s_reto,
  asBl_bl, asInt_int, asTup_tup, asSome_some, asLst_lst, atVal_0, atVal_s, atGet_0, atGet_o, atGet_s, atOb_o, atOb_s, s_start0, s_startU, s_startV, s_add, s_addS, s_addL, s_addT, s_i2, s_ordI, s_ordS, s_isN, s_mulI, s_mulS, s_mulL, s_strip, s_inS, s_neg, s_abs, s_intI, s_intB, s_slL, s_slT, s_slS, isStr_str, s_ifand, s_ifor, s_eqS, s_eqI, s_eqB, Dv.ite_tt, Dv.ite_ff,
  wC, wOp, wMt1, Dv.wNot, Dv.wAnd, Dv.wOr, wIfE, wNil, wCons, wTup, wLst, wOb, Ob.d, wCall, wNoPart, wSl, wNx, Dv.wSeq, wDrop, wSortedSet, wSortedLen, wSortedPair, s_all, s_lc, s_for, s_zip, s_zipS, s_rng1, s_rng2, asZip_lst, asZip_tup, asStr_str, wRet, wRetN, wRetF, wSet, wOwn, wSetOb, wIf, wBk, wCt, wFn, wFnB, wFnF, wFnK, wFnFK, dEnds, dEndsF, gNm, wYes,
  wipeE, List.map_cons, List.map_nil, List.set_cons_zero, List.set_cons_succ, D.tru, D.len, D.items, D.seq, D.flat, D.isNon, true_and, and_true, if_true, if_false, Bool.false_eq_true, Bool.not_true, Bool.not_false])
local macro_rules | `(tactic| walk_at "dn") => `(tactic| simp only [↓s_var, ↓s_varb, ↓s_test, ↓s_tru, ↓s_andv, ↓s_orv, ↓s_notv, ↓s_chain, ↓s_part, ↓s_list, ↓s_rInt2, ↓s_len, ↓s_tuple, ↓s_is, ↓s_ixl, ↓s_ixt, ↓s_ixs, ↓s_seqi, ↓s_gcons, ↓s_gnil, ↓s_gtup, ↓s_append, ↓s_insert, ↓s_enum, ↓s_par, ↓s_listRg, ↓s_rng3, ↓s_raise1, ↓asIns_i, ↓s_putF, ↓s_fld, ↓asFld_i, ↓s_startI4, ↓asLT_l, ↓asLT_t, ↓cx_K, ↓s_reverse, ↓s_retof, ↓s_reto, ↓asBl_bl, ↓asInt_int, ↓asTup_tup, ↓asSome_some, ↓asLst_lst, ↓atVal_0, ↓atVal_s, ↓atGet_0, ↓atGet_o, ↓atGet_s, ↓atOb_o, ↓atOb_s, ↓s_start0, ↓s_startU, ↓s_startV, ↓s_add, ↓s_addS, ↓s_addL, ↓s_addT, ↓s_i2, ↓s_ordI, ↓s_ordS, ↓s_isN, ↓s_mulI, ↓s_mulS, ↓s_mulL, ↓s_strip, ↓s_inS, ↓s_neg, ↓s_abs, ↓s_intI, ↓s_intB, ↓s_slL, ↓s_slT, ↓s_slS, ↓isStr_str, ↓s_ifand, ↓s_ifor, ↓s_eqS, ↓s_eqI, ↓s_eqB, ↓Dv.ite_tt, ↓Dv.ite_ff, wC, wOp, wMt1, Dv.wNot, Dv.wAnd, Dv.wOr, wIfE, wNil, wCons, wTup, wLst, wOb, Ob.d, wCall, wNoPart, wOrT, wAndT, wHead, wGetK, rIxK, wSl, wNx, Dv.wSeq, wDrop, wSortedSet, wSortedLen, wSortedPair, ↓s_all, ↓s_lc, ↓s_for, ↓s_zip, ↓s_zipS, ↓s_rng1, ↓s_rng2, ↓asZip_lst, ↓asZip_tup, ↓asStr_str, wRet, wRetN, wRetF, wSet, wOwn, wSetOb, wIf, wBk, wCt, wFn, wFnB, wFnF, wFnK, wFnFK, dEnds, dEndsF, gNm, wYes, wipeE, List.map_cons, List.map_nil, List.set_cons_zero, List.set_cons_succ, D.tru, D.len, D.items, D.seq, D.flat, D.isNon, ↓true_and, ↓and_true, ↓if_true, ↓if_false, Bool.false_eq_true, Bool.not_true, Bool.not_false])

theorem prt_app : ∀ (c : Nat) (a b : Kids), prt c (a ++ b) = prt c a ++ prt (c + a.length) b
  | _, [], _ => rfl
  | c, none :: a, b => by
    show prt (c + 1) (a ++ b) = prt (c + 1) a ++ _
    rw [prt_app (c + 1) a b, List.length_cons, show c + 1 + a.length = c + (a.length + 1) by omega]
  | c, some k :: a, b => by
    show 32 :: c :: (TL.numL k ++ prt (c + 1) (a ++ b)) = 32 :: c :: (TL.numL k ++ prt (c + 1) a) ++ _
    rw [prt_app (c + 1) a b, List.length_cons, show c + 1 + a.length = c + (a.length + 1) by omega]
    simp
theorem ndData (x : Nd) : (ndD x).data = true := by
  show D.datas (.str x.1 :: x.2.map kD) = true
  exact datas_all.2 fun d hd => by
    rcases List.mem_cons.1 hd with rfl | hd
    · rfl
    · obtain ⟨o, _, rfl⟩ := List.mem_map.1 hd
      cases o <;> rfl
theorem ndDep (x : Nd) : (ndD x).dep ≤ 1 := by
  show D.deps (.str x.1 :: x.2.map kD) + 1 ≤ 1
  have : D.deps (.str x.1 :: x.2.map kD) ≤ 0 := deps_le.2 fun d hd => by
    rcases List.mem_cons.1 hd with rfl | hd
    · exact Nat.le_refl _
    · obtain ⟨o, _, rfl⟩ := List.mem_map.1 hd
      cases o <;> exact Nat.le_refl _
  omega
theorem find_abcd (c : Nat) : Txt.find "abcd" (S [c]) = ((M4.placeOf c : Nat) : Int) - 1 := by
  by_cases h : 97 ≤ c ∧ c ≤ 100
  · obtain ⟨h1, h2⟩ := h
    have : c = 97 ∨ c = 98 ∨ c = 99 ∨ c = 100 := by omega
    rcases this with rfl | rfl | rfl | rfl <;> decide +kernel
  · have e0 : M4.placeOf c = 0 := by
      unfold M4.placeOf
      rw [if_neg (by omega)]
    rw [e0]
    rcases find_spec "abcd" (S [c]) with e | ⟨i, e, hi, hs⟩
    · rw [e]; rfl
    · exfalso
      have hi4 : i + 1 ≤ 4 := hi
      rw [S_len] at hs
      have : ∀ k : Nat, k < 4 → PySem.Builtin.Str.strSub "abcd" k (k + 1) = S [97 + k] := by decide +kernel
      have h2 : S [97 + i] = S [c] := (this i (by omega)).symm.trans hs
      have := (List.cons.inj (S_inj h2)).1
      omega
def sp__law_text : DSp := fun ds n Q _ => ∃ xs : List Nd, ds = [.lst (xs.map ndD)] ∧ xs.length ≤ 201 ∧ (∀ x ∈ xs, NdW x) ∧ Q (.str (S (bookT xs))) n
def sp__law_index : DSp := fun ds n Q _ => ∃ l : List Nat, ds = [.str (S l)] ∧ l.length ≤ 100000 ∧ Q (if idxB l = true then .int (valL l : Nat) else .non) n
def sp__law_node_of : DSp := fun ds n Q _ => ∃ l : List Nat, ds = [.str (S l)] ∧ l.length ≤ 100000 ∧ Q (nodeR l) n
def dueT (d : D) : Rb → D
  | .bad k why => .tup [.str "bad", .int (k : Nat), .str why]
  | .ok xs => .tup [.str "read", .lst (xs.map ndD), d]
def sp__law_due (K : PySem.W.Frag) : DSp := fun ds n Q _ => ∃ d : D, ds = [d] ∧ ReadDom K d ∧ Q (dueT d (readD d)) n
section
variable {g : WG} {we : WE} {wt : WT} {vs : List Nat} {env : En} {n : Nat}
theorem lc_filterG {α : Type} {xs : List α} {Q : List D → Nat → Prop} (r f : α → D) (p : α → Bool) (hl : xs.length ≤ sizeLine) (hQ : Q ((xs.filter p).map f) n)
    (h : ∀ (i : Nat) (x : α), xs[i]? = some x → ∀ (R : D → Nat → Prop) (S : Nat → Prop), (p x = true → R (f x) n) → (p x = false → S n) → g (r x) (wipeE env vs) fun env2 => wt env2 n fun k n2 => if k = true then we env2 n2 R else S n2) :
    LcR g wt we vs env (xs.map r) n Q := by
  refine ⟨fun i ds n' => ds = ((xs.take i).filter p).map f ∧ n' = n, ⟨rfl, rfl⟩, ?_, ?_⟩
  · rintro ds n' ⟨rfl, rfl⟩
    rw [List.length_map, List.take_length]
    exact hQ
  · rintro i y ds n' hy ⟨rfl, rfl⟩
    rw [List.getElem?_map] at hy
    obtain ⟨x, hx, rfl⟩ := Option.map_eq_some_iff.1 hy
    have hi : i < xs.length := (List.getElem?_eq_some_iff.1 hx).1
    have et : (xs.take (i + 1)).filter p = (xs.take i).filter p ++ [x].filter p := by
      rw [List.take_add_one, hx, List.filter_append]
      rfl
    refine h i x hx _ _ (fun hp => ⟨?_, ?_, rfl⟩) (fun hp => ⟨?_, rfl⟩)
    · rw [List.length_map]
      have := List.length_filter_le p (xs.take i)
      rw [List.length_take] at this
      omega
    · rw [et, List.map_append, List.filter_cons_of_pos hp]
      rfl
    · rw [et, List.filter_cons_of_neg (by rw [hp]; exact Bool.false_ne_true)]
      simp
end
theorem eq_nil {ds : List D} {neg : Bool} {Q : D → Prop} (h1 : D.datas ds = true) (h2 : D.deps ds ≤ 63) (q : Q (.bl (if neg then !ds.isEmpty else ds.isEmpty))) : Dv.rEqD neg (.lst ds) (.lst []) Q := by
  refine ⟨⟨h1, rfl, by show D.deps ds + 1 ≤ 64; omega, by decide⟩, ?_⟩
  have : (D.lst ds).eqv (.lst []) = ds.isEmpty := by cases ds <;> rfl
  rw [this]
  exact q
theorem datas_map {α : Type} {f : α → D} (h : ∀ a, (f a).data = true) (xs : List α) : D.datas (xs.map f) = true := datas_all.2 fun d hd => by
  obtain ⟨a, _, rfl⟩ := List.mem_map.1 hd
  exact h a
theorem deps_map {α : Type} {f : α → D} {k : Nat} (h : ∀ a, (f a).dep ≤ k) (xs : List α) : D.deps (xs.map f) ≤ k := deps_le.2 fun d hd => by
  obtain ⟨a, _, rfl⟩ := List.mem_map.1 hd
  exact h a
section
variable {P : Program} {w : World} {K : PySem.W.Frag} {mg : Str → Option Value} {base : Heap}
abbrev s__law_text : Stmt := topS 43
theorem sc__law_text : FnScope ["net", "found", "item", "n"] ["net"] (defScope s__law_text) := ⟨rfl, rfl, rfl, by decide +kernel, rfl, by decide +kernel, by decide +kernel⟩
theorem ok__law_text  {k : Nat} {f : Addr} {fd : FuncData} (M : Mg mg) (F : Fun K "_law_text" "_law_text" s__law_text f fd)  : FnOk P w K mg base CX0 (k + 1) f fd ["net"] (lSp K sp__law_text) := by
  refine dok F sc__law_text (fun ds n Q E h => ?_) (fun cdv A outer s H E hr => ⟨_, (dss_cons (ds_set (i := 1) sc__law_text.nd rfl (by first | exact Or.inl rfl | exact Or.inr rfl) de_str)
      (dss_cons (ds_for (vs := [2]) (di_seq (dv 0)) (dg_name (i := 2) sc__law_text.nd rfl (by first | exact Or.inl rfl | exact Or.inr rfl)) (dss_cons (ds_set (i := 1) sc__law_text.nd rfl (by first | exact Or.inl rfl | exact Or.inr rfl) (de_op od_add (dvb 1) (DE.b (de_if (dt_cmp (od_eq (hu64 hr)) (DE.b (de_ix (dvb 2) (DE.b de_int))) (DE.b de_str)) de_str (de_ix (dvb 2) (DE.b de_int))))))
      (dss_cons (ds_for (vs := [3]) (di_rng1 M.b_range (da_cons de_int da_nil)) (dg_name (i := 3) sc__law_text.nd rfl (by first | exact Or.inl rfl | exact Or.inr rfl)) (dss_one (ds_if (dt_cmp od_notN (DE.b (de_ix (dvb 2) (DE.b (de_op od_add (dvb 3) (DE.b de_int))))) (DE.b de_non)) (dss_one (ds_set (i := 1) sc__law_text.nd rfl (by first | exact Or.inl rfl | exact Or.inr rfl) (de_op od_add (DE.b (de_op od_add (DE.b (de_op od_add (dvb 1) (DE.b de_str))) (DE.b (de_ix (DE.b de_str) (dvb 3))))) (DE.b (de_tyc cd_str M.b_str (dab_cons (DE.b (de_ix (dvb 2) (DE.b (de_op od_add (dvb 3) (DE.b de_int))))) dab_nil)))))) dss_nil)))
      (dss_one (ds_set (i := 1) sc__law_text.nd rfl (by first | exact Or.inl rfl | exact Or.inr rfl) (de_op od_add (dvb 1) (DE.b de_str)))))))
      (dss_one (ds_ret (dv 1))))), fun ds n Q E h => ?_⟩)
  · obtain ⟨xs, rfl, _⟩ := h
    rfl
  · obtain ⟨xs, rfl, hl, hx, q⟩ := h
    walk_at "dn"
    have hz := sizeLine_eq
    refine ⟨fun i env m => m = n ∧ ∃ e2 e3 : SD, env = [SD.val (D.lst (List.map ndD xs)), SD.val (D.str (S (bookT (xs.take i)))), e2, e3], ⟨rfl, _, _, rfl⟩, ?_, ?_⟩
    · rintro env m ⟨em, e2, e3, rfl⟩
      subst em
      rw [List.length_map, List.take_length]
      walk_at "dn"
      exact q
    · rintro i y env m hy ⟨em, e2, e3, rfl⟩
      subst em
      rw [List.getElem?_map] at hy
      obtain ⟨x, hx2, rfl⟩ := Option.map_eq_some_iff.1 hy
      have hxw := hx x (List.mem_of_getElem? hx2)
      have hi : i < xs.length := (List.getElem?_eq_some_iff.1 hx2).1
      have etk : bookT (xs.take (i + 1)) = bookT (xs.take i) ++ lineT x := by
        rw [List.take_add_one, hx2]
        unfold bookT
        rw [List.map_append, List.flatten_append]
        unfold lineT
        simp
      have htl : (bookT (xs.take i)).length ≤ 11000 := bookT_len (fun z hz => hx z (List.mem_of_mem_take hz)) (by rw [List.length_take]; omega)
      generalize bookT (xs.take i) = acc at etk htl
      have hnl := nodeT_len hxw
      obtain ⟨c, ks⟩ := x
      obtain ⟨hc, hl4, hlt⟩ := hxw
      have a0 : atI (D.str c :: ks.map kD) 0 = some (.str c) := atI_nat (j := 0) rfl
      have e45 : ("-" : Str) = S [45] := S_str (by decide +kernel)
      have e32 : (" " : Str) = S [32] := S_str (by decide +kernel)
      have ecol : (if decide (c = "") = true then ("-" : Str) else c) = S (colL c) := by
        unfold colL
        by_cases hc0 : c = ""
        · rw [if_pos (decide_eq_true hc0), if_pos hc0, e45]
        · rw [if_neg (by rw [decide_eq_true_eq]; exact hc0), if_neg hc0, S_tl]
      have en : nodeT (c, ks) = colL c ++ prt 97 ks := rfl
      have hcl : (colL c).length ≤ 1 := by
        rcases hc with h | h | h | h <;> (have h' : c = _ := h; rw [h']; decide +kernel)
      rw [en, List.length_append] at hnl
      rw [show ndD (c, ks) = .tup (.str c :: ks.map kD) from rfl]
      walk_at "dn"
      rw [a0]
      simp only [asSome_some, s_eqS, Bool.false_eq_true, if_false, asBl_bl]
      have la : (S acc).length = acc.length := S_len _
      have lc1 : c.length ≤ 1 := by rcases hc with h | h | h | h <;> (have h' : c = _ := h; rw [h']; decide +kernel)
      have fin : ∀ (i : Nat) (T : Str), T = S (acc ++ colL c ++ prt 97 (ks.take i)) → T.length ≤ 12000 := fun i T e => by
        rw [e, S_len, List.length_append, List.length_append]
        have := congrArg List.length (prt_app 97 (ks.take i) (ks.drop i))
        rw [List.take_append_drop, List.length_append] at this
        omega
      by_cases hc0 : c = ""
      case' pos =>
        rw [if_pos (decide_eq_true hc0)]
        have eT : S acc ++ ("-" : Str) = S (acc ++ colL c ++ prt 97 (ks.take 0)) := by
          rw [e45, S_cat]
          unfold colL
          rw [if_pos hc0]
          show _ = S (acc ++ [45] ++ [])
          rw [List.append_nil]
        refine ⟨by show _ + 1 ≤ _; omega, by decide, ?_⟩
      case' neg =>
        rw [if_neg (by rw [decide_eq_true_eq]; exact hc0)]
        have eT : S acc ++ c = S (acc ++ colL c ++ prt 97 (ks.take 0)) := by
          have : S (colL c) = c := by unfold colL; rw [if_neg hc0, S_tl]
          show _ = S (acc ++ colL c ++ [])
          rw [List.append_nil, ← S_cat, this]
        refine ⟨by omega, by decide, ?_⟩
      all_goals
        rw [eT]
        refine ⟨fun i env m' => m' = m ∧ ∃ e3 : SD, env = [SD.val (D.lst (List.map ndD xs)), SD.val (D.str (S (acc ++ colL c ++ prt 97 (ks.take i)))), SD.val (D.tup (D.str c :: ks.map kD)), e3], ⟨rfl, _, rfl⟩, ?_, ?_⟩
        · rintro env m' ⟨em, e3, rfl⟩
          subst em
          have ef := fin 4 _ rfl
          have h4 : (rngD 0 (Int.toNat 4)).length = 4 := by rfl
          rw [h4]
          rw [show ks.take 4 = ks from List.take_of_length_le (by rw [show ks.length = 4 from hl4]; exact Nat.le_refl _)] at ef ⊢
          walk_at "dn"
          rw [nl_S, S_cat]
          refine ⟨by rw [show (S [10]).length = 1 from rfl]; omega, SD.val (.tup (.str c :: ks.map kD)), e3, ?_⟩
          rw [etk]
          have : acc ++ lineT (c, ks) = acc ++ colL c ++ prt 97 ks ++ [10] := by
            unfold lineT
            rw [en]
            simp
          rw [this]
        · rintro i y env m' hy ⟨em, e3, rfl⟩
          subst em
          obtain ⟨hi4, rfl⟩ := rngD_get hy
          have hi4 : i < 4 := hi4
          have ef := fin i _ rfl
          have hik : i < ks.length := by rw [show ks.length = 4 from hl4]; exact hi4
          obtain ⟨ko, hko⟩ : ∃ ko, ks[i]? = some ko := ⟨_, List.getElem?_eq_getElem hik⟩
          have etk2 : prt 97 (ks.take (i + 1)) = prt 97 (ks.take i) ++ prt (97 + i) [ko] := by
            rw [List.take_add_one, hko]
            show prt 97 (ks.take i ++ [ko]) = _
            rw [prt_app, List.length_take, Nat.min_eq_left (by omega)]
          have e1 : atI (D.str c :: ks.map kD) ((0 : Int) + (i : Nat) + 1) = some (kD ko) := by
            rw [show (0 : Int) + (i : Nat) + 1 = ((i + 1 : Nat) : Int) by omega]
            exact atI_nat (by rw [List.getElem?_cons_succ, List.getElem?_map, hko]; rfl)
          have e2 : atI ("abcd" : Str).cps.toList ((0 : Int) + (i : Nat)) = some (97 + i) := by
            rw [show (0 : Int) + (i : Nat) = ((i : Nat) : Int) by omega]
            match i, hi4 with
            | 0, _ => decide +kernel
            | 1, _ => decide +kernel
            | 2, _ => decide +kernel
            | 3, _ => decide +kernel
          walk_at "dn"
          rw [e1]
          cases ko with
          | none =>
            simp only [asSome_some, kD, Bool.not_true, Bool.false_eq_true, if_false]
            exact ⟨SD.val (D.int (0 + (i : Nat))), by rw [etk2, show prt (97 + i) [none] = [] from rfl, List.append_nil]⟩
          | some kk =>
            have hk3 : kk < 1000 := hlt kk (List.mem_of_getElem? hko)
            have hn3 : (TL.numL kk).length ≤ 3 := TL.numL_len (k := 3) (by decide) hk3
            simp only [asSome_some, kD, Bool.not_false, if_true]
            rw [e32, S_cat, e2]
            simp only [asSome_some]
            rw [S_len] at ef
            rw [S_len, show ({ cps := #[97 + i] } : Str) = S [97 + i] from rfl, S_cat, S_len]
            refine ⟨by show _ + 1 ≤ _; omega, by rw [S_len, S_len, List.length_append]; show _ + 1 + 1 ≤ _; omega, kk, rfl, by omega, ?_⟩
            unfold numS
            show rAddD (.str _) (.str _) _
            rw [s_addS, S_cat, S_len, S_len]
            refine ⟨by rw [List.length_append, List.length_append]; show _ + 1 + 1 + _ ≤ _; omega, SD.val (D.int (0 + (i : Nat))), ?_⟩
            rw [etk2]
            show _ = [_, SD.val (D.str (S (acc ++ colL c ++ (prt 97 (ks.take i) ++ (32 :: (97 + i) :: (TL.numL kk ++ []))))) ), _, _]
            rw [List.append_nil]
            simp
abbrev s__law_index : Stmt := topS 45
theorem sc__law_index : FnScope ["part", "c"] ["part"] (defScope s__law_index) := ⟨rfl, rfl, rfl, by decide +kernel, rfl, by decide +kernel, by decide +kernel⟩
theorem ok__law_index  {k : Nat} {f : Addr} {fd : FuncData} (M : Mg mg) (F : Fun K "_law_index" "_law_index" s__law_index f fd)  : FnOk P w K mg base CX0 (k + 1) f fd ["part"] (lSp K sp__law_index) := by
  refine dok F sc__law_index (fun ds n Q E h => ?_) (fun cdv A outer s H E hr => ⟨_, (dss_cons (ds_if (DW.t (dw_or (dt_cmp (od_eq (hu64 hr)) (dvb 0) (DE.b de_str)) (dw_or (dt_cmp od_gt (DE.b (de_bi cd_len M.b_len (dab_cons (dvb 0) dab_nil))) (DE.b de_int)) (dw_or (dt_cmp (od_ne (hu64 hr)) (DE.b (DF.toE (df_lc (own := [("c", 1)]) sc__law_index.nd (di_seq (dv 0)) (blkOk_by (N := ["part", "c"]) (sc := defScope s__law_index) (by decide +kernel)) (fun _ _ _ _ _ => (dg_name (i := 1) sc__law_index.nd rfl (by first | exact Or.inl rfl | exact Or.inr rfl))) (fun _ _ _ _ _ => (dts_one (dt_cmp (od_notIn (hu65 hr)) (dvb 1) (DE.b de_str)))) (fun _ _ _ _ _ => (dv 1))))) (DE.b (DF.toE (df_lst da_nil)))) (dw_or1 (DW.t (dw_and (dt_cmp (od_eq (hu64 hr)) (DE.b (de_ix (dvb 0) (DE.b de_int))) (DE.b de_str)) (dw_and1 (dt_cmp (od_ne (hu64 hr)) (dvb 0) (DE.b de_str)))))))))) (dss_one (ds_ret de_non)) dss_nil)
      (dss_one (ds_ret (de_tyc cd_intA M.b_int (dab_cons (dvb 0) dab_nil))))), fun ds n Q E h => ?_⟩)
  · obtain ⟨l, rfl, _⟩ := h
    rfl
  · obtain ⟨l, rfl, hl, q⟩ := h
    have hz := sizeLine_eq
    walk_at "dn"
    have bad : idxB l = false → Q .non n := fun e => by
      rw [e] at q
      exact q
    rw [show ("" : Str) = S [] from rfl, z_S, S_len]
    by_cases h0 : l = []
    · rw [if_pos (decide_eq_true (by rw [h0]))]
      exact bad (by rw [h0]; rfl)
    · rw [if_neg (by rw [decide_eq_true_eq]; exact fun e => h0 (S_inj e))]
      by_cases h3 : 3 < l.length
      · rw [if_pos (decide_eq_true (by omega))]
        refine bad ?_
        rw [idx_split, decide_eq_false (show ¬ l.length ≤ 3 by omega)]
        simp
      · rw [if_neg (by rw [decide_eq_true_eq]; omega)]
        have es : signsD (S l) = l.map fun c => .str (S [c]) := by
          unfold signsD
          rw [show (S l).cps.toList = l from rfl]
        rw [es]
        refine ⟨rfl, lc_filterG (fun c => .str (S [c])) (fun c => .str (S [c])) (fun c => !(decide (48 ≤ c) && decide (c ≤ 57))) (by omega) ?_ fun i c hc R T h1 h2 => ?_⟩
        · refine ⟨Nat.zero_le _, eq_nil (datas_map (fun _ => rfl) _) (deps_map (fun _ => Nat.zero_le _) _) ?_⟩
          simp only [asBl_bl, if_true]
          have ea : (!(List.map (fun c => D.str (S [c])) (l.filter fun c => !(decide (48 ≤ c) && decide (c ≤ 57)))).isEmpty) = !(l.all fun c => decide (48 ≤ c) && decide (c ≤ 57)) := by
            congr 1
            rw [Bool.eq_iff_iff, List.isEmpty_iff, List.map_eq_nil_iff, List.filter_eq_nil_iff, List.all_eq_true]
            exact ⟨fun h c hc => by have := h c hc; simpa using this, fun h c hc => by have := h c hc; simpa using this⟩
          rw [ea]
          cases hd : l.all fun c => decide (48 ≤ c) && decide (c ≤ 57) with
          | false =>
            rw [if_pos (by rfl)]
            refine bad ?_
            rw [idx_split, hd, Bool.false_and, Bool.false_and]
          | true =>
            rw [if_neg (by decide)]
            have hn : 1 ≤ l.length := Nat.pos_of_ne_zero fun z => h0 (List.length_eq_zero_iff.1 z)
            have ei : idxB l = (decide (l = [48]) || decide (l.head? ≠ some 48)) := by
              rw [idx_split, hd, decide_eq_true hn, decide_eq_true (show l.length ≤ 3 by omega)]
              rfl
            have good : idxB l = true → rIntA [D.str (S l)] fun d => Q d n := fun e => by
              rw [e, if_pos rfl] at q
              exact ⟨_, int_S hd h0 (by omega), by rw [S_len]; omega, q⟩
            match l, hn, bad, ei, good with
            | c :: r, _, bad, ei, good =>
              rw [show atI (c :: r) 0 = some c from atI_nat (j := 0) rfl]
              simp only [asSome_some]
              by_cases hc : c = 48
              · subst hc
                rw [if_pos (decide_eq_true rfl)]
                by_cases h48 : (48 :: r : List Nat) = [48]
                · rw [if_neg (by rw [decide_eq_true (by rw [h48])]; decide)]
                  exact good (by rw [ei, decide_eq_true h48, Bool.true_or])
                · rw [if_pos (by rw [decide_eq_false fun e => h48 (S_inj e)]; rfl)]
                  refine bad ?_
                  rw [ei, decide_eq_false h48]
                  simp
              · rw [if_neg (by rw [decide_eq_true_eq]; exact fun e => hc (List.cons.inj (S_inj (a := [c]) (b := [48]) e)).1)]
                refine good ?_
                rw [ei]
                simp [hc]
        · walk_at "dn"
          have ein : inS (S [c]) "0123456789" = (decide (48 ≤ c) && decide (c ≤ 57)) := by
            rw [show inS (S [c]) "0123456789" = decide (c ∈ ("0123456789" : Str).cps.toList) from PySem.StrLaws.found_one "0123456789" c, show ("0123456789" : Str).cps.toList = [48, 49, 50, 51, 52, 53, 54, 55, 56, 57] by decide +kernel]
            rw [Bool.eq_iff_iff, decide_eq_true_eq, Bool.and_eq_true, decide_eq_true_eq, decide_eq_true_eq]
            simp
            omega
          rw [ein]
          by_cases hp : (!(decide (48 ≤ c) && decide (c ≤ 57))) = true
          · rw [if_pos hp]; exact h1 hp
          · rw [if_neg hp]; exact h2 (Bool.eq_false_iff.2 hp)
abbrev s__law_node_of : Stmt := topS 46
theorem sc__law_node_of : FnScope ["row", "parts", "part", "found", "last", "spot"] ["row"] (defScope s__law_node_of) := ⟨rfl, rfl, rfl, by decide +kernel, rfl, by decide +kernel, by decide +kernel⟩
theorem ok__law_node_of  {k : Nat} {f : Addr} {fd : FuncData} (M : Mg mg) (F : Fun K "_law_node_of" "_law_node_of" s__law_node_of f fd)  (C__law_index : Cal P w K mg base CX0 k "_law_index" ["part"] sp__law_index) : FnOk P w K mg base CX0 (k + 1) f fd ["row"] (lSp K sp__law_node_of) := by
  refine dok F sc__law_node_of (fun ds n Q E h => ?_) (fun cdv A outer s H E hr => ⟨_, (dss_cons (ds_set (i := 1) sc__law_node_of.nd rfl (by first | exact Or.inl rfl | exact Or.inr rfl) (de_split (dvb 0) (DE.b de_str)))
      (dss_cons (ds_if (dt_cmp (od_notIn (hu65 hr)) (DE.b (de_ix (dvb 1) (DE.b de_int))) (DE.b (DF.toE (df_lst (da_cons de_str (da_cons de_str (da_cons de_str (da_cons de_str da_nil)))))))) (dss_one (ds_ret de_non)) dss_nil)
      (dss_cut (ds_parFV (i := 3) (j := 4) sc__law_node_of.nd rfl rfl (by decide) rfl rfl (df_lst (da_cons (de_if (dt_cmp (od_eq (hu64 hr)) (DE.b (de_ix (dvb 1) (DE.b de_int))) (DE.b de_str)) de_str (de_ix (dvb 1) (DE.b de_int))) (da_cons de_non (da_cons de_non (da_cons de_non (da_cons de_non da_nil)))))) (de_neg (DE.b de_int)))
      (dss_cons (ds_for (vs := [2]) (di_seq (de_slice (dvb 1) (do_some de_int) do_none)) (dg_name (i := 2) sc__law_node_of.nd rfl (by first | exact Or.inl rfl | exact Or.inr rfl)) (dss_cons (ds_set (i := 5) sc__law_node_of.nd rfl (by first | exact Or.inl rfl | exact Or.inr rfl) (de_find (DE.b de_str) (DE.b (de_slice (dvb 2) do_none (do_some de_int)))))
      (dss_cons (ds_if (DW.t (dw_or (dt_cmp (od_eq (hu64 hr)) (dvb 2) (DE.b de_str)) (dw_or (dt_cmp od_le (dvb 5) (dvb 4)) (dw_or1 (dt_cmp od_isN (DE.b (de_call C__law_index hr (da_cons (de_slice (dvb 2) (do_some de_int) do_none) da_nil))) (DE.b de_non)))))) (dss_one (ds_ret de_non)) dss_nil)
      (dss_cons (ds_putI 3 (de_op od_add (dvb 5) (DE.b de_int)) (de_call C__law_index hr (da_cons (de_slice (dvb 2) (do_some de_int) do_none) da_nil)))
      (dss_one (ds_set (i := 4) sc__law_node_of.nd rfl (by first | exact Or.inl rfl | exact Or.inr rfl) (dv 5)))))))
      (dss_one (ds_ret (de_tyc cd_tuple M.b_tuple (dab_cons (dvb 3) dab_nil)))))))), fun ds n Q E h => ?_⟩)
  · obtain ⟨l, rfl, _⟩ := h
    rfl
  · obtain ⟨l, rfl, hl, q⟩ := h
    have hz := sizeLine_eq
    have e32 : (" " : Str) = S [32] := S_str (by decide +kernel)
    have e45 : ("-" : Str) = S [45] := S_str (by decide +kernel)
    have ex : ("x" : Str) = S [120] := S_str (by decide +kernel)
    have ey : ("y" : Str) = S [121] := S_str (by decide +kernel)
    have ez : ("z" : Str) = S [122] := S_str (by decide +kernel)
    walk_at "dn"
    rw [e32]
    refine ⟨l, 32, rfl, rfl, by decide, by omega, ?_⟩
    obtain ⟨hd, ps, ec, _⟩ := cut_join 32 l
    have enode : nodeOf l = (colOf hd).bind fun c => (goP ps (0, k0)).map fun s => (c, s.2) := by
      unfold nodeOf
      rw [ec]
    have pl : ∀ p ∈ ps, p.length ≤ 100000 := fun p hp => Nat.le_trans (cutAt_len (c := 32) (l := l) (by rw [ec]; exact List.mem_cons_of_mem _ hp)) hl
    have pn : ps.length ≤ 100001 := by
      have := cutAt_many (c := 32) l
      rw [ec, List.length_cons] at this
      omega
    rw [ec, List.map_cons]
    walk_at "dn"
    rw [show atI (D.str (S hd) :: List.map (fun p => D.str (S p)) ps) 0 = some (.str (S hd)) from atI_nat (j := 0) rfl]
    simp only [asSome_some]
    refine ⟨by show 4 ≤ _; omega, ⟨rfl, rfl, Nat.zero_le _, by decide⟩, ?_⟩
    have eany : ([D.str "-", D.str "x", D.str "y", D.str "z"].any fun z => z.eqv (.str (S hd))) = (colOf hd).isSome := by
      simp only [List.any_cons, List.any_nil, eqv_str, e45, ex, ey, ez]
      unfold colOf
      by_cases h1 : hd = [45]
      · subst h1; decide +kernel
      · by_cases h2 : hd = [120]
        · subst h2; decide +kernel
        · by_cases h3 : hd = [121]
          · subst h3; decide +kernel
          · by_cases h4 : hd = [122]
            · subst h4; decide +kernel
            · have ne : ∀ k : Nat, hd ≠ [k] → decide (S [k] = S hd) = false := fun k h => decide_eq_false fun e => h (S_inj e).symm
              rw [ne _ h1, ne _ h2, ne _ h3, ne _ h4, if_neg h1, if_neg h2, if_neg h3, if_neg h4]
              rfl
    rw [eany]
    simp only [asBl_bl, if_true]
    cases ecol : colOf hd with
    | none =>
      rw [if_pos (by rfl)]
      have : nodeR l = .non := by
        unfold nodeR
        rw [enode, ecol]
        rfl
      rw [this] at q
      exact q
    | some c =>
      rw [if_neg (by show ¬ (false = true); decide)]
      refine ⟨fun env m => m = n ∧ env = [.val (.str (S l)), .val (.lst (.str (S hd) :: ps.map fun p => .str (S p))), .un, .own (.lst (.str c :: kidsD k0)), .val (.int (-1)), .un], ?_, ?_⟩
      · unfold wParFV
        walk_at "dn"
        rw [show atI (D.str (S hd) :: List.map (fun p => D.str (S p)) ps) 0 = some (.str (S hd)) from atI_nat (j := 0) rfl]
        simp only [asSome_some, s_eqS, asBl_bl, Bool.false_eq_true, if_false]
        rw [e45]
        have z5 : ∀ d : D, [d, .non, .non, .non, .non].length ≤ sizeLine := fun d => by show 5 ≤ _; omega
        by_cases h45 : hd = [45]
        · rw [if_pos (decide_eq_true (by rw [h45]))]
          have : c = "" := by
            rw [h45] at ecol
            exact (Option.some.inj ((show colOf [45] = some "" by decide +kernel).symm.trans ecol)).symm
          rw [this]
          exact ⟨z5 _, rfl⟩
        · rw [if_neg (by rw [decide_eq_true_eq]; exact fun e => h45 (S_inj e))]
          have : c = S hd := by
            have := (col_back ecol).1
            unfold colL at this
            by_cases hc : c = ""
            · rw [if_pos hc] at this
              exact absurd this.symm h45
            · rw [if_neg hc] at this
              exact S_str this
          rw [this]
          exact ⟨z5 _, rfl⟩
      · rintro env m ⟨em, rfl⟩
        subst em
        walk_at "dn"
        rw [show cutL (D.str (S hd) :: List.map (fun p => D.str (S p)) ps) (some 1) none = List.map (fun p => D.str (S p)) ps from cutL_drop _ 1]
        refine ⟨fun i env n2 => n2 = m ∧ ∃ (st : StP) (e2 e5 : SD), env = [.val (.str (S l)), .val (.lst (.str (S hd) :: ps.map fun p => .str (S p))), e2, .own (.lst (.str c :: kidsD st.2)), .val (.int ((st.1 : Nat) - 1)), e5] ∧ st.2.length = 4 ∧ st.1 ≤ 4 ∧ goP ps (0, k0) = goP (ps.drop i) st, ⟨rfl, (0, k0), _, _, rfl, rfl, by decide, rfl⟩, ?_, ?_⟩
        · rintro env n2 ⟨en, st, e2, e5, rfl, sl, s4, eg⟩
          subst en
          rw [List.length_map, List.drop_length] at eg
          have eg' : goP ps (0, k0) = some st := eg
          walk_at "dn"
          have : nodeR l = .tup (.str c :: kidsD st.2) := by
            unfold nodeR
            rw [enode, ecol]
            show (match (goP ps (0, k0)).map (fun s => (c, s.2)) with | none => D.non | some x => ndD x) = _
            rw [eg']
            rfl
          rw [this] at q
          exact q
        · rintro i y env n2 hy ⟨en, st, e2, e5, rfl, sl, s4, eg⟩
          subst en
          rw [List.getElem?_map] at hy
          obtain ⟨p, hp, rfl⟩ := Option.map_eq_some_iff.1 hy
          obtain ⟨hi, hpv⟩ := List.getElem?_eq_some_iff.1 hp
          have edr : ps.drop i = p :: ps.drop (i + 1) := by rw [List.drop_eq_getElem_cons hi, hpv]
          have eg2 : goP ps (0, k0) = (stepP st p).bind (goP (ps.drop (i + 1))) := by rw [eg, edr]; rfl
          have pl' := pl p (List.mem_of_getElem? hp)
          have bad : stepP st p = none → Q .non n2 := fun z => by
            have : nodeR l = .non := by
              unfold nodeR
              rw [enode, ecol]
              show (match (goP ps (0, k0)).map (fun s => (c, s.2)) with | none => D.non | some x => ndD x) = _
              rw [eg2, z]
              rfl
            rw [← this]
            exact q
          walk_at "dn"
          rw [cutS_to (by decide), cutS_from (by decide), show (1 : Int).toNat = 1 from rfl]
          refine ⟨_, _, rfl, rfl, ?_⟩
          walk_at "dn"
          rw [show ("" : Str) = S [] from rfl]
          match p, bad, pl', eg2 with
          | [], bad, _, _ =>
            rw [if_pos (decide_eq_true rfl)]
            exact bad rfl
          | d :: r, bad, pl', eg2 =>
            rw [if_neg (by rw [decide_eq_true_eq]; exact fun e => by cases S_inj e)]
            rw [show List.take 1 (d :: r) = [d] from rfl, find_abcd]
            have est : stepP st (d :: r) = if M4.placeOf d ≤ st.1 ∨ idxB r = false then none else some (M4.placeOf d, st.2.set (M4.placeOf d - 1) (some (valL r))) := rfl
            by_cases hp : M4.placeOf d ≤ st.1
            · rw [if_pos (decide_eq_true (by omega))]
              exact bad (by rw [est, if_pos (.inl hp)])
            · rw [if_neg (by rw [decide_eq_true_eq]; omega)]
              refine ⟨r, rfl, by rw [List.length_cons] at pl'; omega, ?_⟩
              cases hb : idxB r with
              | false =>
                simp only [Bool.false_eq_true, if_false, if_true]
                exact bad (by rw [est, if_pos (.inr hb)])
              | true =>
                simp only [if_true, Bool.false_eq_true, if_false]
                rw [est, if_neg (by rw [hb]; simp; omega)] at eg2
                have h4 : M4.placeOf d ≤ 4 := by
                  unfold M4.placeOf
                  split <;> omega
                obtain ⟨j, hj⟩ : ∃ j, M4.placeOf d = j + 1 := ⟨M4.placeOf d - 1, by omega⟩
                refine ⟨_, rfl, ?_⟩
                walk_at "dn"
                rw [cutS_from (by decide), show (1 : Int).toNat = 1 from rfl]
                refine ⟨r, rfl, by rw [List.length_cons] at pl'; omega, ?_⟩
                rw [hb, if_pos rfl]
                walk_at "dn"
                refine ⟨_, j + 1, rfl, ?_, (M4.placeOf d, st.2.set (M4.placeOf d - 1) (some (valL r))), .val (.str (S (d :: r))), .val (.int ((M4.placeOf d : Nat) - 1)), ?_, by rw [List.length_set]; exact sl, h4, eg2⟩
                · rw [show ((M4.placeOf d : Nat) : Int) - 1 + 1 = ((j + 1 : Nat) : Int) by omega]
                  exact ixN_nat (by rw [List.length_cons, kidsD, List.length_map, sl]; omega)
                · have e2 : (D.str c :: kidsD st.2).set (j + 1) (.int ((valL r : Nat) : Int)) = D.str c :: kidsD (st.2.set (M4.placeOf d - 1) (some (valL r))) := by
                    rw [List.set_cons_succ, hj, Nat.add_sub_cancel]
                    unfold kidsD
                    rw [List.map_set]
                    rfl
                  rw [e2]
abbrev s__law_due : Stmt := topS 47
theorem sc__law_due : FnScope ["v", "k", "item", "rows", "net", "kid"] ["v"] (defScope s__law_due) := ⟨rfl, rfl, rfl, by decide +kernel, rfl, by decide +kernel, by decide +kernel⟩
theorem ok__law_due  {k : Nat} {f : Addr} {fd : FuncData} (M : Mg mg) (F : Fun K "_law_due" "_law_due" s__law_due f fd)  (C__law_node_of : Cal P w K mg base CX0 k "_law_node_of" ["row"] sp__law_node_of) : FnOk P w K mg base CX0 (k + 1) f fd ["v"] (lSp K (sp__law_due K)) := by
  refine dok F sc__law_due (fun ds n Q E h => ?_) (fun cdv A outer s H E hr => ⟨_, (dss_cons (ds_if (dt_not (dt_tru (DE.b (de_bi (cd_isCK (K := K) rfl) M.b_isinstance (dab_cons (dvb 0) (dab_cons (DE.b (de_ty (T := "str") M.b_str)) dab_nil)))))) (dss_one (ds_ret (de_tup (da_cons de_str (da_cons de_int (da_cons de_str da_nil)))))) dss_nil)
      (dss_cons (ds_parVFc (i := 3) (j := 4) sc__law_due.nd rfl rfl (by first | exact Or.inl rfl | exact Or.inr rfl) (by first | exact Or.inl rfl | exact Or.inr rfl) (by first | exact .inl rfl | exact .inr rfl) (by first | exact .inl rfl | exact .inr rfl) (de_split (dvb 0) (DE.b de_str)) (df_lst da_nil))
      (dss_cons (ds_for (vs := [1]) (di_rng1 M.b_range (da_cons (de_op od_sub (DE.b (de_bi cd_len M.b_len (dab_cons (dvb 3) dab_nil))) (DE.b de_int)) da_nil)) (dg_name (i := 1) sc__law_due.nd rfl (by first | exact Or.inl rfl | exact Or.inr rfl)) (dss_cons (ds_set (i := 2) sc__law_due.nd rfl (by first | exact Or.inl rfl | exact Or.inr rfl) (de_call C__law_node_of hr (da_cons (de_ix (dvb 3) (dvb 1)) da_nil)))
      (dss_cons (ds_if (dt_cmp od_isN (dvb 2) (DE.b de_non)) (dss_one (ds_ret (de_tup (da_cons de_str (da_cons (dv 1) (da_cons de_str da_nil)))))) dss_nil)
      (dss_cons (ds_if (dt_cmp (od_eq (hu64 hr)) (dvb 1) (DE.b de_int)) (dss_one (ds_ret (de_tup (da_cons de_str (da_cons (dv 1) (da_cons de_str da_nil)))))) dss_nil)
      (dss_one (ds_append 4 (dv 2)))))))
      (dss_cons (ds_if (dt_cmp (od_ne (hu64 hr)) (DE.b (de_ix (dvb 3) (DE.b (de_neg (DE.b de_int))))) (DE.b de_str)) (dss_one (ds_ret (de_tup (da_cons de_str (da_cons (de_bi cd_len M.b_len (dab_cons (dvb 4) dab_nil)) (da_cons de_str da_nil)))))) dss_nil)
      (dss_cons (ds_if (dt_cmp ((od_eq (hu64 hr)).or (od_eqLen (hu64 hr))) (dvb 4) (DE.b (DF.toE (df_lst da_nil)))) (dss_one (ds_ret (de_tup (da_cons de_str (da_cons de_int (da_cons de_str da_nil)))))) dss_nil)
      (dss_cons (ds_frz 4 (ds_for (vs := [2]) (di_seq (dv 4)) (dg_name (i := 2) sc__law_due.nd rfl (by first | exact Or.inl rfl | exact Or.inr rfl)) (dss_one (ds_if (dt_cmp (od_ne (hu64 hr)) (DE.b (DF.toE (df_lc (own := [("kid", 5)]) sc__law_due.nd (di_seq (de_slice (dvb 2) (do_some de_int) do_none)) (blkOk_by (N := ["v", "k", "item", "rows", "net", "kid"]) (sc := defScope s__law_due) (by decide +kernel)) (fun _ _ _ _ _ => (dg_name (i := 5) sc__law_due.nd rfl (by first | exact Or.inl rfl | exact Or.inr rfl))) (fun _ _ _ _ _ => (dts_one (DW.t (dw_and (dt_cmp od_notN (dvb 5) (DE.b de_non)) (dw_and1 (dt_cmp od_ge (dvb 5) (DE.b (de_bi cd_len M.b_len (dab_cons (dvb 4) dab_nil))))))))) (fun _ _ _ _ _ => (dv 5))))) (DE.b (DF.toE (df_lst da_nil)))) (dss_one (ds_ret (de_tup (da_cons de_str (da_cons (de_bi cd_len M.b_len (dab_cons (dvb 4) dab_nil)) (da_cons de_str da_nil)))))) dss_nil))))
      (dss_one (ds_ret (de_tup (da_cons de_str (da_cons (dv 4) (da_cons (dv 0) da_nil)))))))))))), fun ds n Q E h => ?_⟩)
  · obtain ⟨d, rfl, _⟩ := h
    rfl
  · obtain ⟨d, rfl, ⟨hd, hs⟩, q⟩ := h
    have hz := sizeLine_eq
    walk_at "dn"
    rw [s_isC_str hd]
    have e0 : ∀ r : Rb, readD d = r → Q (dueT d r) n := fun r er => by
      rw [er] at q
      exact q
    cases d with
    | str s =>
      obtain ⟨l, rfl⟩ : ∃ l, s = S l := ⟨_, (S_tl s).symm⟩
      have hl := hs _ rfl
      rw [S_len] at hl
      have eq : ∀ r : Rb, readB l = r → readD (.str (S l)) = r := fun r h => by rw [← h]; rfl
      simp only [D.isStr, asSome_some, Bool.not_true, Bool.false_eq_true, if_false]
      rw [nl_S]
      unfold wParVF
      walk_at "dn"
      refine ⟨l, 10, rfl, rfl, by decide, by omega, ?_⟩
      obtain ⟨rs, b, er⟩ : ∃ rs b, cutAt 10 l = rs ++ [b] := ⟨_, _, (List.dropLast_concat_getLast (cutAt_ne 10 l)).symm⟩
      have erd : readB l = match scanL rs 0 with
        | .inl e => .bad e.1 e.2
        | .inr xs => endB (some b) xs := by
        unfold readB
        rw [er, List.dropLast_concat, List.getLast?_concat]
        all_goals rfl
      have rl : ∀ p ∈ rs, p.length ≤ 100000 := fun p hp => Nat.le_trans (cutAt_len (c := 10) (l := l) (by rw [er]; exact List.mem_append_left _ hp)) hl
      have rn : rs.length ≤ 100001 := by
        have := cutAt_many (c := 10) l
        rw [er, List.length_append] at this
        omega
      rw [er]
      simp only [asSome_some, List.length_map, List.length_append, List.length_singleton]
      rw [show (((rs.length + 1 : Nat) : Int) - 1).toNat = rs.length by omega]
      refine ⟨Nat.zero_le _, by omega, ?_⟩
      refine ⟨fun i env m => m = n ∧ ∃ (xs : List Nd) (e1 e2 e5 : SD), env = [SD.val (D.str (S l)), e1, e2, SD.val (D.lst (List.map (fun p => D.str (S p)) (rs ++ [b]))), SD.own (Ob.lst (xs.map ndD)), e5] ∧ (∀ o, e5 ≠ .own o) ∧ xs.length = i ∧ i ≤ 200 ∧ (∀ x ∈ xs, NdW x) ∧ scanL rs 0 = consX xs (scanL (rs.drop i) i), ⟨rfl, [], _, _, _, rfl, (fun o z => nomatch z), rfl, by omega, (fun x hx => nomatch hx), ?_⟩, ?_, ?_⟩
      · show scanL rs 0 = consX [] (scanL rs 0)
        cases scanL rs 0 <;> rfl
      · rintro env m ⟨em, xs, e1, e2, e5, rfl, e5o, exl, hi, hx, es⟩
        subst em
        rw [rngD_len] at hi es exl
        rw [List.drop_length] at es
        have es' : scanL rs 0 = .inr xs := es.trans (congrArg Sum.inr (List.append_nil xs))
        rw [es'] at erd
        have erd' : readB l = endB (some b) xs := erd
        unfold endB at erd'
        have be : ∀ (k : Nat) (why : Str), readB l = .bad k why → Q (.tup [.str "bad", .int (k : Nat), .str why]) m := fun k why h => e0 _ (eq _ h)
        have am1 : atI (List.map (fun p => D.str (S p)) (rs ++ [b])) (-1) = some (.str (S b)) := by
          unfold atI
          rw [show ixN (List.map (fun p => D.str (S p)) (rs ++ [b])).length (-1) = some rs.length by
            rw [List.length_map, List.length_append, List.length_singleton]
            unfold ixN
            simp
            omega]
          rw [List.map_append]
          simp
        walk_at "dn"
        rw [am1]
        simp only [asSome_some, s_eqS, asBl_bl, if_true]
        have ex0 : (xs.map ndD).length = rs.length := by rw [List.length_map, exl]
        by_cases hb : b = []
        · subst hb
          rw [if_neg (by rw [show ("" : Str) = S [] from rfl, decide_eq_true rfl]; exact Bool.false_ne_true)]
          rw [if_neg (by simp)] at erd'
          refine ⟨Nat.zero_le _, .inl (eq_nil (datas_map (fun x => ndData x) _) (deps_map (fun x => Nat.le_trans (ndDep x) (by decide)) _) ?_)⟩
          simp only [asBl_bl, Bool.false_eq_true, if_false]
          by_cases h0 : xs = []
          · subst h0
            rw [if_pos rfl] at erd'
            rw [if_pos (by rfl)]
            exact ⟨by show 3 ≤ _; omega, be 0 "missing" erd'⟩
          · rw [if_neg h0] at erd'
            rw [if_neg (by cases xs with | nil => exact absurd rfl h0 | cons a r => exact Bool.false_ne_true)]
            have ef4 : frzE 4 [SD.val (D.str (S l)), e1, e2, SD.val (D.lst (List.map (fun p => D.str (S p)) (rs ++ [[]]))), SD.own (Ob.lst (List.map ndD xs)), e5]
              = [SD.val (D.str (S l)), e1, e2, SD.val (D.lst (List.map (fun p => D.str (S p)) (rs ++ [[]]))), SD.val (D.lst (List.map ndD xs)), e5] := rfl
            rw [ef4]
            walk_at "dn"
            refine ⟨fun i env m' => m' = m ∧ ∃ (e1 e2 e5 : SD), env = [SD.val (D.str (S l)), e1, e2, SD.val (D.lst (List.map (fun p => D.str (S p)) (rs ++ [[]]))), SD.val (D.lst (List.map ndD xs)), e5] ∧ (∀ o, e5 ≠ .own o) ∧ (xs.take i).all (fitN xs.length) = true, ⟨rfl, _, _, _, rfl, e5o, rfl⟩, ?_, ?_⟩
            · rintro env m' ⟨em, e1, e2, e5, rfl, e5o, hall⟩
              subst em
              rw [List.length_map, List.take_length] at hall
              rw [if_pos hall] at erd'
              walk_at "dn"
              exact ⟨by show 3 ≤ _; omega, e0 _ (eq _ erd')⟩
            · rintro i y env m' hy ⟨em, e1, e2, e5, rfl, e5o, hall⟩
              subst em
              rw [List.getElem?_map] at hy
              obtain ⟨x, hx2, rfl⟩ := Option.map_eq_some_iff.1 hy
              have hxw := hx x (List.mem_of_getElem? hx2)
              have etk : (xs.take (i + 1)).all (fitN xs.length) = fitN xs.length x := by
                rw [List.take_add_one, hx2, List.all_append, hall]
                simp
              have hfx : fitN xs.length x = false → readB l = .bad xs.length "node" := fun z => by
                rw [erd', if_neg]
                intro hf
                rw [List.all_eq_true.1 hf x (List.mem_of_getElem? hx2)] at z
                cases z
              obtain ⟨c, ks⟩ := x
              have efit : fitN xs.length (c, ks) = ks.all (fitK xs.length) := rfl
              rw [efit] at etk hfx
              rw [show ndD (c, ks) = .tup (.str c :: ks.map kD) from rfl]
              walk_at "dn"
              rw [show cutL (D.str c :: ks.map kD) (some 1) none = ks.map kD from cutL_drop _ 1]
              have hl4 : ks.length = 4 := hxw.len
              refine ⟨by cases e5 with | own o => exact absurd rfl (e5o o) | _ => rfl, lc_filterG kD kD (fun o => !fitK xs.length o) (by rw [hl4]; omega) ?_ fun j o ho R T h1 h2 => ?_⟩
              · have ea : (!(List.map kD (ks.filter fun o => !fitK xs.length o)).isEmpty) = !(ks.all (fitK xs.length)) := by
                  congr 1
                  rw [Bool.eq_iff_iff, List.isEmpty_iff, List.map_eq_nil_iff, List.filter_eq_nil_iff, List.all_eq_true]
                  exact ⟨fun h c hc => by have := h c hc; simpa using this, fun h c hc => by have := h c hc; simpa using this⟩
                refine ⟨Nat.zero_le _, eq_nil (datas_map (fun o => by cases o <;> rfl) _) (deps_map (fun o => by cases o <;> exact Nat.zero_le _) _) ?_⟩
                simp only [asBl_bl, if_true]
                rw [ea]
                cases hf : ks.all (fitK xs.length) with
                | false =>
                  rw [if_pos (by rfl), ex0, ← exl]
                  exact ⟨by show 3 ≤ _; omega, be _ "node" (hfx hf)⟩
                | true =>
                  rw [if_neg (by decide)]
                  exact ⟨trivial, _, _, _, rfl, e5o, by rw [etk, hf]⟩
              · walk_at "dn"
                cases o with
                | none => exact h2 rfl
                | some kk =>
                  have hk3 : kk < 1000 := hxw.lt kk (List.mem_of_getElem? ho)
                  simp only [kD, Bool.not_false, if_true, s_ordI, asBl_bl, List.length_map]
                  by_cases hkk : kk < xs.length
                  · rw [if_neg (by rw [decide_eq_true_eq]; omega)]
                    exact h2 (by show (!decide (kk < xs.length)) = false; rw [decide_eq_true hkk]; rfl)
                  · rw [if_pos (decide_eq_true (by omega))]
                    exact h1 (by show (!decide (kk < xs.length)) = true; rw [decide_eq_false hkk]; rfl)
        · rw [if_pos (by rw [show ("" : Str) = S [] from rfl, decide_eq_false fun e => hb (S_inj e)]; rfl)]
          rw [if_pos (by simpa using hb)] at erd'
          rw [ex0, ← exl]
          exact ⟨by show 3 ≤ _; omega, be _ "form" erd'⟩
      · rintro i y env m hy ⟨em, xs, e1, e2, e5, rfl, e5o, exl, hi, hx, es⟩
        subst em
        obtain ⟨hi2, rfl⟩ := rngD_get hy
        rw [Int.zero_add]
        have hp : rs[i]? = some rs[i] := List.getElem?_eq_getElem hi2
        have hx0 : atI (List.map (fun p => D.str (S p)) (rs ++ [b])) ((i : Nat) : Int) = some (.str (S rs[i])) := atI_nat (by rw [List.getElem?_map, List.getElem?_append_left hi2, hp]; rfl)
        have edr : rs.drop i = rs[i] :: rs.drop (i + 1) := List.drop_eq_getElem_cons hi2
        have hrl := rl _ (List.getElem_mem hi2)
        generalize rs[i] = r at hp edr hrl hx0
        have be : ∀ (k : Nat) (why : Str), readB l = .bad k why → Q (.tup [.str "bad", .int (k : Nat), .str why]) m := fun k why h => e0 _ (eq _ h)
        have es2 : scanL (rs.drop i) i = (match nodeOf r with
            | none => .inl (i, "form")
            | some x => if i = 200 then .inl (i, "many") else match scanL (rs.drop (i + 1)) (i + 1) with
              | .inl e => .inl e
              | .inr xs => .inr (x :: xs)) := by rw [edr]; rfl
        walk_at "dn"
        rw [hx0]
        simp only [asSome_some]
        refine ⟨r, rfl, hrl, ?_⟩
        unfold nodeR
        cases en : nodeOf r with
        | none =>
          rw [en] at es2
          rw [es2] at es
          rw [es] at erd
          show if true = true then _ else _
          rw [if_pos rfl]
          exact ⟨by show 3 ≤ _; omega, be _ _ erd⟩
        | some x =>
          rw [en] at es2
          obtain ⟨n1, n2, n3, n4⟩ := node_print en
          show if false = true then _ else _
          rw [if_neg Bool.false_ne_true]
          walk_at "dn"
          by_cases h2 : i = 200
          · have es3 : scanL (rs.drop i) i = .inl (i, "many") := es2.trans (if_pos h2)
            rw [es3] at es
            rw [es] at erd
            rw [if_pos (decide_eq_true (by omega))]
            exact ⟨by show 3 ≤ _; omega, be _ _ erd⟩
          · have es3 := es2.trans (if_neg h2)
            rw [if_neg (by rw [decide_eq_true_eq]; omega)]
            have hl2 : (xs ++ [x]).length = i + 1 := by rw [List.length_append, exl, List.length_singleton]
            refine ⟨by rw [List.length_map]; omega, xs ++ [x], _, _, _, by rw [show (xs ++ [x]).map ndD = xs.map ndD ++ [ndD x] by rw [List.map_append]; rfl], e5o, hl2, by omega, fun y hy => ?_, ?_⟩
            · rcases List.mem_append.1 hy with hy | hy
              · exact hx y hy
              · rw [List.mem_singleton.1 hy]
                exact ⟨n2, n3, n4⟩
            · rw [es, es3]
              show consX xs (match scanL (rs.drop (i + 1)) (i + 1) with | .inl e => .inl e | .inr xs => .inr (x :: xs)) = _
              cases scanL (rs.drop (i + 1)) (i + 1) with
              | inl e => rfl
              | inr zs =>
                show Sum.inr (xs ++ x :: zs) = Sum.inr (xs ++ [x] ++ zs)
                rw [List.append_assoc]
                rfl
    | _ =>
      simp only [D.isStr, asSome_some, Bool.not_false, if_true]
      exact ⟨by show 3 ≤ _; omega, e0 _ rfl⟩
end
end K4

set_option Elab.async false
set_option linter.all false
set_option maxRecDepth 100000
set_option maxHeartbeats 4000000
/-! DvAC: a static method called with keywords -/
namespace Dv
open PySem PySem.Spec PyProof.Rows L2 Ke
section
variable {X : Cx} {Y : XI} {C p fi : Addr} {gd : FuncData} {k : Nat} {nm x : Str} {wa : WA} {pos px ap : Pos} {kws : List Keyword} {ps ks : List Str} {sp : DSp}
theorem de_smKX {pl : Sem Bool} (hm : X.mg x = some (.ref C)) (M : SMet X.K C nm p fi) (F : FnOk X.prog X.w X.K X.mg X.base (L2.CX X.prog X.w) k fi gd ps (lSp X.K sp)) (hb : KBn X.K gd ps 0 ks (fun _ ws => ws) (fun _ zs => zs)) (tk : Takes X Y.W) (hr : Room k X.A) (ha : DK X kws wa)
    (hl : ∀ ds n Q E, sp ds n Q E → ds.length = ks.length) (hg : Gl X x := by rfl) (hall : (backToKw pos (keywordEach kws X.env)).all (·.1.isSome) = true := by rfl) (hks : (backToKw pos (keywordEach kws X.env)).filterMap (·.1) = ks := by rfl)
    (hdb : (x == ("__debug__" : Str)) = false := by decide) (hpl : ((backTo pos (starEach [] X.env)).any (·.1) || (backToKw pos (keywordEach kws X.env)).any (·.1.isNone)) = false := by rfl)
    (ht : eval (.Call (.Attribute (.Name x px) nm ap) [] kws pos) X.env = (do
      let rv ← eval (.Name x px) X.env
      standAt ap.atName
      let (fv, hd) ← holding [rv] (getMethod rv nm pl)
      callWith pos fv hd (backTo pos (starEach [] X.env)) (backToKw pos (keywordEach kws X.env))) := by rfl) : DEX X Y (.Call (.Attribute (.Name x px) nm ap) [] kws pos) (wFnX sp wa) :=
  .of (pe_smK hm M F hr hb (fun σ => passAt tk σ) ha.pk (fun zs H Q E ⟨c, ds, n, Q0, E0, h1, h2, h3, _⟩ => by rw [h2.len, hl _ _ _ _ h3]) hg hdb hall hks hpl ht) fun σ H Q h => fnX_read h
end
end Dv

set_option Elab.async false
set_option linter.all false
set_option maxRecDepth 100000
set_option maxHeartbeats 4000000
/-! k04: what is read -/
namespace K4
open PySem PySem.Spec PyProof.Rows L2 Dv Ke SX M4
local macro_rules | `(tactic| walk_at "dv") => `(tactic| simp only [s_var, s_varb, s_test, s_tru, s_andv, s_orv, s_notv, s_chain, s_part, s_list, s_len, s_tuple, s_is, s_ixl, s_ixt, s_ixs, s_seqi, s_gcons, s_gnil, s_gtup, s_append, s_insert, s_enum, s_par, s_listRg, s_rng3, s_raise1, asIns_i, s_putF, s_fld, asFld_i, s_startI4, asLT_l, asLT_t, cx_K, s_reverse, s_retof, s_reto,
  asBl_bl, asInt_int, asTup_tup, asSome_some, asLst_lst, atVal_0, atVal_s, atGet_0, atGet_o, atGet_s, atOb_o, atOb_s, s_start0, s_startU, s_startV, s_add, s_addS, s_addL, s_addT, s_i2, s_ordI, s_ordS, s_isN, s_mulI, s_mulS, s_mulL, s_strip, s_inS, s_neg, s_abs, s_intI, s_intB, s_slL, s_slT, s_slS, isStr_str, s_ifand, s_ifor, s_eqS, s_eqI, s_eqB, Dv.ite_tt, Dv.ite_ff,
  wC, wOp, wMt1, Dv.wNot, Dv.wAnd, Dv.wOr, wIfE, wNil, wCons, wTup, wLst, wOb, Ob.d, wCall, wNoPart, wSl, wNx, Dv.wSeq, wDrop, wSortedSet, wSortedLen, wSortedPair, s_all, s_lc, s_for, s_zip, s_zipS, s_rng1, s_rng2, asZip_lst, asZip_tup, asStr_str, wRet, wRetN, wRetF, wSet, wOwn, wSetOb, wIf, wBk, wCt, wFn, wFnB, wFnF, wFnK, wFnFK, dEnds, dEndsF, gNm, wYes,
  wipeE, List.map_cons, List.map_nil, List.set_cons_zero, List.set_cons_succ, D.tru, D.len, D.items, D.seq, D.flat, D.isNon, true_and, and_true, if_true, if_false, Bool.false_eq_true, Bool.not_true, Bool.not_false])
local macro_rules | `(tactic| walk_at "dn") => `(tactic| simp only [↓s_var, ↓s_varb, ↓s_test, ↓s_tru, ↓s_andv, ↓s_orv, ↓s_notv, ↓s_chain, ↓s_part, ↓s_list, ↓s_rInt2, ↓s_len, ↓s_tuple, ↓s_is, ↓s_ixl, ↓s_ixt, ↓s_ixs, ↓s_seqi, ↓s_gcons, ↓s_gnil, ↓s_gtup, ↓s_append, ↓s_insert, ↓s_enum, ↓s_par, ↓s_listRg, ↓s_rng3, ↓s_raise1, ↓asIns_i, ↓s_putF, ↓s_fld, ↓asFld_i, ↓s_startI4, ↓asLT_l, ↓asLT_t, ↓cx_K, ↓s_reverse, ↓s_retof, ↓s_reto, ↓asBl_bl, ↓asInt_int, ↓asTup_tup, ↓asSome_some, ↓asLst_lst, ↓atVal_0, ↓atVal_s, ↓atGet_0, ↓atGet_o, ↓atGet_s, ↓atOb_o, ↓atOb_s, ↓s_start0, ↓s_startU, ↓s_startV, ↓s_add, ↓s_addS, ↓s_addL, ↓s_addT, ↓s_i2, ↓s_ordI, ↓s_ordS, ↓s_isN, ↓s_mulI, ↓s_mulS, ↓s_mulL, ↓s_strip, ↓s_inS, ↓s_neg, ↓s_abs, ↓s_intI, ↓s_intB, ↓s_slL, ↓s_slT, ↓s_slS, ↓isStr_str, ↓s_ifand, ↓s_ifor, ↓s_eqS, ↓s_eqI, ↓s_eqB, ↓Dv.ite_tt, ↓Dv.ite_ff, wC, wOp, wMt1, Dv.wNot, Dv.wAnd, Dv.wOr, wIfE, wNil, wCons, wTup, wLst, wOb, Ob.d, wCall, wNoPart, wOrT, wAndT, wHead, wGetK, rIxK, wSl, wNx, Dv.wSeq, wDrop, wSortedSet, wSortedLen, wSortedPair, ↓s_all, ↓s_lc, ↓s_for, ↓s_zip, ↓s_zipS, ↓s_rng1, ↓s_rng2, ↓asZip_lst, ↓asZip_tup, ↓asStr_str, wRet, wRetN, wRetF, wSet, wOwn, wSetOb, wIf, wBk, wCt, wFn, wFnB, wFnF, wFnK, wFnFK, dEnds, dEndsF, gNm, wYes, wipeE, List.map_cons, List.map_nil, List.set_cons_zero, List.set_cons_succ, D.tru, D.len, D.items, D.seq, D.flat, D.isNon, ↓true_and, ↓and_true, ↓if_true, ↓if_false, Bool.false_eq_true, Bool.not_true, Bool.not_false])

def wIfX (wt : WT) (wa wb : WEX) : WEX := fun E env n Q => wt env n fun k n1 => if k = true then wa E env n1 Q else wb E env n1 Q
theorem de_ifX {X : Cx} {Y : XI} {t a b : Expr} {wt : WT} {wa wb : WEX} {pos : Pos} (h : DT X t wt) (ha : DEX X Y a wa) (hb : DEX X Y b wb) : DEX X Y (.IfExp t a b pos) (wIfX wt wa wb) :=
  .of (pe_ifExp h.pt ha.pe hb.pe) fun σ H Q ⟨c, ad, n, env, Q0, E0, R, q0, q, qe⟩ => ⟨c, ad, n, env, _, R, q0, fun k n1 q1 H' e => by
    cases k with
    | true => rw [if_pos rfl] at q1 ⊢; exact ⟨c, ad, n1, env, Q0, E0, R.step e, q1, fun d2 n2 q2 v2 H2 e2 r2 => q _ _ q2 _ _ (e.trans e2) r2, fun x n2 hx od H2 e2 r2 => qe _ _ hx _ _ (e.trans e2) r2⟩
    | false => rw [if_neg Bool.false_ne_true] at q1 ⊢; exact ⟨c, ad, n1, env, Q0, E0, R.step e, q1, fun d2 n2 q2 v2 H2 e2 r2 => q _ _ q2 _ _ (e.trans e2) r2, fun x n2 hx od H2 e2 r2 => qe _ _ hx _ _ (e.trans e2) r2⟩⟩
theorem takes0 {X : Cx} {H : Hp} : Takes X (y0 H).W := fun u s' ⟨a, B, sI, pins, σ, H, cls, d, e, I, nb, up, sky, na, os, ag, w⟩ => w.elim
section
variable {P : Program} {w : World} {K : PySem.W.Frag} {mg : Str → Option Value} {base : Heap}
abbrev s_lread : Stmt := topS 44
theorem sc_lread : FnScope ["v", "named", "lex", "e"] ["v", "named"] (defScope s_lread) := ⟨rfl, rfl, rfl, by decide +kernel, rfl, by decide +kernel, by decide +kernel⟩
def sp__law_read (K : PySem.W.Frag) : DSp := fun ds n Q _ => ∃ (d : D) (b : Bool), ds = [d, .bl b] ∧ ReadDom K d ∧ Q (dueT d (readD d)) n
theorem read_len {C CT : Addr} : ∀ (ds : List D) (n : Nat) (Q : D → Nat → Prop) (E : EX → Nat → Prop), sp_Book_read C CT K ds n Q E → ds.length = (["text"] : List Str).length := fun ds n Q E ⟨d, e, _⟩ => by rw [e]; rfl
theorem look_line (a b : D) : List.lookup ("line" : Str) [(("why" : Str), a), ("line", b)] = some b := by
  rw [List.lookup_cons, show (("line" : Str) == "why") = false by decide]
  exact List.lookup_cons_self
theorem look_two {x : Str} (h1 : (x == ("_nodes" : Str)) = false) (h2 : (x == ("_lengths" : Str)) = false) (a b : D) : List.lookup x [(("_nodes" : Str), a), ("_lengths", b)] = none := by
  rw [List.lookup_cons, h1, List.lookup_cons, h2]
  rfl
theorem read_facts {d : D} {xs : List Nd} (h : readD d = .ok xs) : xs.length ≤ 200 ∧ (∀ x ∈ xs, NdW x) ∧ D.str (S (bookT xs)) = d := by
  cases d with
  | str s =>
    obtain ⟨h1, h2, h3, h4, h5⟩ := read_print (show readB s.cps.toList = .ok xs from h)
    exact ⟨h2, h4, by rw [h1, S_tl]⟩
  | _ => cases h
theorem ok__law_read {C CT p fr fm ft : Addr} {gr gm gt : FuncData} {k : Nat} {f : Addr} {fd : FuncData} (F : Fun K "_law_read" "_law_read" s_lread f fd) (hB : mg "Book" = some (.ref C)) (hT : mg "InvalidText" = some (.ref CT))
    (SM : SMet K C "read" p fr) (FR : FnOk P w K mg base (L2.CX P w) k fr gr ["text"] (lSp K (sp_Book_read C CT K))) (br : Binds K gr ["text"] []) (kr : KBn K gr ["text"] 0 ["text"] (fun _ ws => ws) (fun _ zs => zs))
    (T : Cls K C) (MN : Meth K C "nodes" fm) (FN : FnOk P w K mg base CX0 k fm gm ["self"] (lSp K (sp_Book_nodes C))) (bn : Binds K gm ["self"] [])
    (MT : Meth K C "text" ft) (FT : FnOk P w K mg base CX0 k ft gt ["self"] (lSp K (sp_Book_text C))) (bt : Binds K gt ["self"] [])
    (xT : XfC K CT) (aL : PySem.W.findIn K (.ref CT) "line" = some none) (aW : PySem.W.findIn K (.ref CT) "why" = some none)
    (eTT : PySem.W.exmOne K (.ref CT) (.ref CT) = some true) : FnOk P w K mg base CX0 (k + 1) f fd ["v", "named"] (lSp K (sp__law_read K)) := by
  refine dok F sc_lread (fun ds n Q E h => ?_) (fun cdv A outer s H E hr => ⟨_, dss_one (ds_try sc_lread.nd takes0
    (.named (i := 3) rfl rfl ⟨rfl, by decide, .inl hT⟩ (fun a oe cls d pn hz hf => dss_one (ds_ret (de_tup (da_cons de_str (da_cons (de_xf 3 xT aL hz hf) (da_cons (de_xf 3 xT aW hz hf) da_nil)))))) .done)
    (fun W pn xe tk po => dss_cons (ds_setX (i := 2) sc_lread.nd rfl (by first | exact Or.inl rfl | exact Or.inr rfl) (de_ifX (dt_tru (dvb 1)) (de_smKX hB SM FR kr tk hr (dk_cons (dv 0) dk_nil) read_len) (de_smX hB SM FR br tk hr (da_cons (dv 0) da_nil))))
      (dss_one (ds_retX (de_tupX (dax_cons (DE.toX de_str) (dax_cons (de_mt0 T MN FN bn hr (DE.toX (dv 2))) (dax_cons (de_mt0 T MT FT bt hr (DE.toX (dv 2))) dax_nil)))))))), fun ds n Q E h => ?_⟩)
  · obtain ⟨d, b, rfl, _⟩ := h
    rfl
  · obtain ⟨d, b, rfl, hd, q⟩ := h
    walk_at "dv"
    simp only [wTry, Dv.wSeq, wSetX, wIfX, wFnX, wRetX, wConsX, wNilX, wMtX]
    walk_at "dv"
    cases b with
    | true =>
      rw [if_pos rfl]
      refine ⟨d, rfl, hd, ?_⟩
      cases er : readD d with
      | bad kk why =>
        rw [er] at q
        refine ⟨true, eTT, fun _ => ⟨fun h => (nomatch h), fun fs h a dd => ?_⟩, fun h => (nomatch h)⟩
        cases h
        exact ⟨dd, _, .int kk, rfl, rfl, rfl, look_line _ _, dd, _, .str why, rfl, rfl, rfl, by rw [List.lookup_cons_self], by show 3 ≤ _; decide, q⟩
      | ok xs =>
        rw [er] at q
        intro ls h1 h2
        simp only [wConsX, wNilX, wMtX]
        walk_at "dv"
        obtain ⟨rl, rx, rw_⟩ := read_facts er
        refine ⟨_, rfl, look_two (by decide) (by decide) _ _, _, _, rfl, List.lookup_cons_self, _, rfl, look_two (by decide) (by decide) _ _, _, xs, rfl, List.lookup_cons_self, rl, rx, by show 3 ≤ _; decide, ?_⟩
        rw [rw_]
        exact q
    | false =>
      rw [if_neg Bool.false_ne_true]
      refine ⟨d, rfl, hd, ?_⟩
      cases er : readD d with
      | bad kk why =>
        rw [er] at q
        refine ⟨true, eTT, fun _ => ⟨fun h => (nomatch h), fun fs h a dd => ?_⟩, fun h => (nomatch h)⟩
        cases h
        exact ⟨dd, _, .int kk, rfl, rfl, rfl, look_line _ _, dd, _, .str why, rfl, rfl, rfl, by rw [List.lookup_cons_self], by show 3 ≤ _; decide, q⟩
      | ok xs =>
        rw [er] at q
        intro ls h1 h2
        simp only [wConsX, wNilX, wMtX]
        walk_at "dv"
        obtain ⟨rl, rx, rw_⟩ := read_facts er
        refine ⟨_, rfl, look_two (by decide) (by decide) _ _, _, _, rfl, List.lookup_cons_self, _, rfl, look_two (by decide) (by decide) _ _, _, xs, rfl, List.lookup_cons_self, rl, rx, by show 3 ≤ _; decide, ?_⟩
        rw [rw_]
        exact q
end
end K4

set_option Elab.async false
set_option linter.all false
set_option maxRecDepth 100000
set_option maxHeartbeats 4000000
/-! k04: a text bent -/
namespace K4
open PySem PySem.Spec PyProof.Rows L2 Dv Ke SX M4
local macro_rules | `(tactic| walk_at "dv") => `(tactic| simp only [s_var, s_varb, s_test, s_tru, s_andv, s_orv, s_notv, s_chain, s_part, s_list, s_len, s_tuple, s_is, s_ixl, s_ixt, s_ixs, s_seqi, s_gcons, s_gnil, s_gtup, s_append, s_insert, s_enum, s_par, s_listRg, s_rng3, s_raise1, asIns_i, s_putF, s_fld, asFld_i, s_startI4, asLT_l, asLT_t, cx_K, s_reverse, s_retof, s_reto,
  asBl_bl, asInt_int, asTup_tup, asSome_some, asLst_lst, atVal_0, atVal_s, atGet_0, atGet_o, atGet_s, atOb_o, atOb_s, s_start0, s_startU, s_startV, s_add, s_addS, s_addL, s_addT, s_i2, s_ordI, s_ordS, s_isN, s_mulI, s_mulS, s_mulL, s_strip, s_inS, s_neg, s_abs, s_intI, s_intB, s_slL, s_slT, s_slS, isStr_str, s_ifand, s_ifor, s_eqS, s_eqI, s_eqB, Dv.ite_tt, Dv.ite_ff,
  wC, wOp, wMt1, Dv.wNot, Dv.wAnd, Dv.wOr, wIfE, wNil, wCons, wTup, wLst, wOb, Ob.d, wCall, wNoPart, wSl, wNx, Dv.wSeq, wDrop, wSortedSet, wSortedLen, wSortedPair, s_all, s_lc, s_for, s_zip, s_zipS, s_rng1, s_rng2, asZip_lst, asZip_tup, asStr_str, wRet, wRetN, wRetF, wSet, wOwn, wSetOb, wIf, wBk, wCt, wFn, wFnB, wFnF, wFnK, wFnFK, dEnds, dEndsF, gNm, wYes,
  wipeE, List.map_cons, List.map_nil, List.set_cons_zero, List.set_cons_succ, D.tru, D.len, D.items, D.seq, D.flat, D.isNon, true_and, and_true, if_true, if_false, Bool.false_eq_true, Bool.not_true, Bool.not_false])
local macro_rules | `(tactic| walk_at "dn") => `(tactic| simp only [↓s_var, ↓s_varb, ↓s_test, ↓s_tru, ↓s_andv, ↓s_orv, ↓s_notv, ↓s_chain, ↓s_part, ↓s_list, ↓s_rInt2, ↓s_len, ↓s_tuple, ↓s_is, ↓s_ixl, ↓s_ixt, ↓s_ixs, ↓s_seqi, ↓s_gcons, ↓s_gnil, ↓s_gtup, ↓s_append, ↓s_insert, ↓s_enum, ↓s_par, ↓s_listRg, ↓s_rng3, ↓s_raise1, ↓asIns_i, ↓s_putF, ↓s_fld, ↓asFld_i, ↓s_startI4, ↓asLT_l, ↓asLT_t, ↓cx_K, ↓s_reverse, ↓s_retof, ↓s_reto, ↓asBl_bl, ↓asInt_int, ↓asTup_tup, ↓asSome_some, ↓asLst_lst, ↓atVal_0, ↓atVal_s, ↓atGet_0, ↓atGet_o, ↓atGet_s, ↓atOb_o, ↓atOb_s, ↓s_start0, ↓s_startU, ↓s_startV, ↓s_add, ↓s_addS, ↓s_addL, ↓s_addT, ↓s_i2, ↓s_ordI, ↓s_ordS, ↓s_isN, ↓s_mulI, ↓s_mulS, ↓s_mulL, ↓s_strip, ↓s_inS, ↓s_neg, ↓s_abs, ↓s_intI, ↓s_intB, ↓s_slL, ↓s_slT, ↓s_slS, ↓isStr_str, ↓s_ifand, ↓s_ifor, ↓s_eqS, ↓s_eqI, ↓s_eqB, ↓Dv.ite_tt, ↓Dv.ite_ff, wC, wOp, wMt1, Dv.wNot, Dv.wAnd, Dv.wOr, wIfE, wNil, wCons, wTup, wLst, wOb, Ob.d, wCall, wNoPart, wOrT, wAndT, wHead, wGetK, rIxK, wSl, wNx, Dv.wSeq, wDrop, wSortedSet, wSortedLen, wSortedPair, ↓s_all, ↓s_lc, ↓s_for, ↓s_zip, ↓s_zipS, ↓s_rng1, ↓s_rng2, ↓asZip_lst, ↓asZip_tup, ↓asStr_str, wRet, wRetN, wRetF, wSet, wOwn, wSetOb, wIf, wBk, wCt, wFn, wFnB, wFnF, wFnK, wFnFK, dEnds, dEndsF, gNm, wYes, wipeE, List.map_cons, List.map_nil, List.set_cons_zero, List.set_cons_succ, D.tru, D.len, D.items, D.seq, D.flat, D.isNon, ↓true_and, ↓and_true, ↓if_true, ↓if_false, Bool.false_eq_true, Bool.not_true, Bool.not_false])

def W (ps : List (List Nat)) : Nat := (ps.map fun p => p.length + 1).sum
theorem W_app (a b : List (List Nat)) : W (a ++ b) = W a + W b := by unfold W; rw [List.map_append, List.sum_append]
theorem join_len : ∀ ps : List (List Nat), (TL.joinL [10] ps).length ≤ W ps
  | [] => Nat.zero_le _
  | [p] => by show p.length ≤ (p.length + 1) + 0; omega
  | p :: q :: r => by
    have := join_len (q :: r)
    show (p ++ ([10] ++ TL.joinL [10] (q :: r))).length ≤ (p.length + 1) + W (q :: r)
    rw [List.length_append, List.length_append, List.length_singleton]
    omega
theorem W_cut (l : List Nat) : W (cutAt 10 l) = l.length + 1 := by
  obtain ⟨hd, ps, e1, e2⟩ := cut_join 10 l
  rw [e1]
  have h : ∀ ps : List (List Nat), (ps.map fun p => 10 :: p).flatten.length = W ps := fun ps => by
    unfold W
    rw [List.length_flatten, List.map_map]
    rfl
  have h2 := congrArg List.length e2
  rw [List.length_append, h] at h2
  show (hd.length + 1) + W ps = _
  omega
theorem W_ge (ps : List (List Nat)) : ps.length ≤ W ps ∧ (ps.map (·.length)).sum + ps.length = W ps := by
  induction ps with
  | nil => exact ⟨Nat.le_refl _, rfl⟩
  | cons p ps ih =>
    have : W (p :: ps) = (p.length + 1) + W ps := rfl
    rw [List.length_cons, List.map_cons, List.sum_cons]
    omega
def txD (ps : List (List Nat)) : List D := ps.map fun p => .str (S p)
theorem join_txD {ps : List (List Nat)} {R : D → Prop} (hl : W ps ≤ 100000) (h : R (.str (S (TL.joinL [10] ps)))) : rJoinD (.str "\n") (.lst (txD ps)) R := by
  have hz := sizeLine_eq
  refine ⟨"\n", _, ps.map S, rfl, rfl, ?_, ?_, ?_⟩
  · rw [show txD ps = (ps.map S).map D.str by unfold txD; rw [List.map_map]; rfl]
    exact strsOf_map _
  · rw [lens, List.length_map, show ("\n" : Str).length = 1 from rfl, Nat.mul_one]
    have := (W_ge ps).2
    show (ps.map (·.length)).sum + ps.length ≤ _
    omega
  · rw [nl_S, join_S]
    exact h
theorem txD_app (a b : List (List Nat)) : txD a ++ txD b = txD (a ++ b) := by unfold txD; rw [List.map_append]
theorem cut_to (rows : List (List Nat)) (k : Nat) : cutL (txD rows) none (some (k : Int)) = txD (rows.take k) := by rw [cutL_take]; unfold txD; rw [List.map_take]
theorem cut_from (rows : List (List Nat)) (k : Nat) : cutL (txD rows) (some (k : Int)) none = txD (rows.drop k) := by rw [cutL_drop]; unfold txD; rw [List.map_drop]
def bentD : List D := [.str " ", .str "\n", .str "a", .str "b", .str "d", .str "x", .str "z", .str "-", .str "0", .str "1", .str "9", .str "00", .str " a0", .str "e", .str "X", .str " c1", .str "~"]
def shortB : D → Bool
  | .str z => decide (z.length ≤ 3)
  | _ => false
def sp__law_bent : DSp := fun ds n Q _ => ∃ l : List Nat, ds = [.bag, .str (S l)] ∧ l.length ≤ 50000 ∧ n + 20 < 2 ^ 40 ∧ ∀ l' : List Nat, ∀ n', l'.length ≤ l.length + 3 → n ≤ n' → n' ≤ n + 5 → Q (.str (S l')) n'
section
variable {P : Program} {w : World} {K : PySem.W.Frag} {mg : Str → Option Value} {base : Heap}
abbrev s__law_bent : Stmt := topS 48
theorem sc__law_bent : FnScope ["bag", "v", "c", "way", "spot", "rows", "k", "kept", "n"] ["bag", "v"] (defScope s__law_bent) := ⟨rfl, rfl, rfl, by decide +kernel, rfl, by decide +kernel, by decide +kernel⟩
theorem ok__law_bent  {k : Nat} {f : Addr} {fd : FuncData} (M : Mg mg) (F : Fun K "_law_bent" "_law_bent" s__law_bent f fd)  (C__law_draw : Cal P w K mg base CX0 k "_law_draw" ["bag", "top"] sp__law_draw) (C__law_of : Cal P w K mg base CX0 k "_law_of" ["bag", "some"] sp__law_of) : FnOk P w K mg base CX0 (k + 1) f fd ["bag", "v"] (lSp K sp__law_bent) := by
  refine dok F sc__law_bent (fun ds n Q E h => ?_) (fun cdv A outer s H E hr => ⟨_, (dss_cons (ds_par (i := 3) (j := 4) sc__law_bent.nd rfl rfl (by decide) rfl rfl (da_cons (de_call C__law_draw hr (da_cons (dv 0) (da_cons de_int da_nil))) (da_cons (de_call C__law_draw hr (da_cons (dv 0) (da_cons (de_op od_add (DE.b (de_bi cd_len M.b_len (dab_cons (dvb 1) dab_nil))) (DE.b de_int)) da_nil))) da_nil)))
      (dss_cons (ds_if (dt_cmp od_gt (dvb 3) (DE.b de_int)) (dss_cons (ds_set (i := 5) sc__law_bent.nd rfl (by first | exact Or.inl rfl | exact Or.inr rfl) (de_split (dvb 1) (DE.b de_str)))
      (dss_cons (ds_set (i := 6) sc__law_bent.nd rfl (by first | exact Or.inl rfl | exact Or.inr rfl) (de_call C__law_draw hr (da_cons (dv 0) (da_cons (de_bi cd_len M.b_len (dab_cons (dvb 5) dab_nil)) da_nil))))
      (dss_cons (ds_set (i := 7) sc__law_bent.nd rfl (by first | exact Or.inl rfl | exact Or.inr rfl) (de_op od_add (DE.b (de_slice (dvb 5) do_none (do_some (dv 6)))) (DE.b (de_slice (dvb 5) (do_some (de_op od_add (dvb 6) (DE.b de_int))) do_none))))
      (dss_cons (ds_set (i := 8) sc__law_bent.nd rfl (by first | exact Or.inl rfl | exact Or.inr rfl) (de_call C__law_draw hr (da_cons (dv 0) (da_cons (de_op od_add (DE.b (de_bi cd_len M.b_len (dab_cons (dvb 7) dab_nil))) (DE.b de_int)) da_nil))))
      (dss_one (ds_ret (de_join (DE.b de_str) (DE.b (de_if (dt_cmp (od_eq (hu64 hr)) (dvb 3) (DE.b de_int)) (dv 7) (de_op od_add (DE.b (de_op od_add (DE.b (de_slice (dvb 7) do_none (do_some (dv 8)))) (DE.b (DF.toE (df_lst (da_cons (de_ix (dvb 5) (dvb 6)) da_nil)))))) (DE.b (de_slice (dvb 7) (do_some (dv 8)) do_none)))))))))))) dss_nil)
      (dss_cons (ds_set (i := 2) sc__law_bent.nd rfl (by first | exact Or.inl rfl | exact Or.inr rfl) (de_call C__law_of hr (da_cons (dv 0) (da_cons (DF.toE (df_lst (da_cons de_str (da_cons de_str (da_cons de_str (da_cons de_str (da_cons de_str (da_cons de_str (da_cons de_str (da_cons de_str (da_cons de_str (da_cons de_str (da_cons de_str (da_cons de_str (da_cons de_str (da_cons de_str (da_cons de_str (da_cons de_str (da_cons de_str da_nil))))))))))))))))))) da_nil))))
      (dss_one (ds_ret (de_op od_add (DE.b (de_op od_add (DE.b (de_slice (dvb 1) do_none (do_some (dv 4)))) (DE.b (de_if (dt_cmp (od_eq (hu64 hr)) (dvb 3) (DE.b de_int)) de_str (dv 2))))) (DE.b (de_slice (dvb 1) (do_some (de_op od_add (dvb 4) (DE.b (de_if (dt_cmp (od_eq (hu64 hr)) (dvb 3) (DE.b de_int)) de_int de_int)))) do_none)))))))), fun ds n Q E h => ?_⟩)
  · obtain ⟨l, rfl, _⟩ := h
    rfl
  · obtain ⟨l, rfl, hl, hn, q⟩ := h
    have hz := sizeLine_eq
    walk_at "dn"
    refine ⟨_, rfl, by omega, by decide, by decide +kernel, fun way w0 w1 => ?_⟩
    show sp__law_draw _ _ _ _
    rw [S_len]
    refine ⟨_, rfl, by omega, by omega, tops_int (by omega) (by omega), fun spot s0 s1 => ?_⟩
    simp only [s_ordI, asBl_bl]
    by_cases hw : 3 < way
    · rw [if_pos (decide_eq_true hw), nl_S]
      refine ⟨l, 10, rfl, rfl, by decide, by omega, ?_⟩
      have hW := W_cut l
      have hn0 : cutAt 10 l ≠ [] := cutAt_ne 10 l
      have hk0 : 0 < (cutAt 10 l).length := List.length_pos_iff.2 hn0
      show asSome (some (txD (cutAt 10 l)).length) _
      generalize cutAt 10 l = rows at hW hn0 hk0
      have hWl := (W_ge rows).1
      have sl : ∀ ps : List (List Nat), (txD ps).length = ps.length := fun ps => List.length_map _
      rw [asSome_some, sl]
      refine ⟨_, rfl, by omega, by omega, tops_int (by omega) (by omega), fun k k0 k1 => ?_⟩
      obtain ⟨k, rfl⟩ : ∃ j : Nat, k = (j : Int) := ⟨k.toNat, by omega⟩
      obtain ⟨r, hr⟩ : ∃ r, rows[k]? = some r := ⟨_, List.getElem?_eq_getElem (by omega)⟩
      have hWs : W rows = W (rows.take k) + ((r.length + 1) + W (rows.drop (k + 1))) := by
        obtain ⟨h1, h2⟩ := List.getElem?_eq_some_iff.1 hr
        have : rows = rows.take k ++ r :: rows.drop (k + 1) := by
          rw [← h2, ← List.drop_eq_getElem_cons h1, List.take_append_drop]
        have h3 := congrArg W this
        rw [W_app] at h3
        exact h3
      have aK : atI (txD rows) ((k : Nat) : Int) = some (.str (S r)) := atI_nat (by unfold txD; rw [List.getElem?_map, hr]; rfl)
      simp only [asInt_int, s_slL, s_add, s_addL, true_and]
      rw [show (List.map (fun p => D.str (S p)) rows) = txD rows from rfl, cut_to, show ((k : Nat) : Int) + 1 = ((k + 1 : Nat) : Int) by omega, cut_from, txD_app, sl, sl, sl]
      have hlt : (rows.take k).length ≤ rows.length := by rw [List.length_take]; omega
      have hld : (rows.drop (k + 1)).length ≤ rows.length := by rw [List.length_drop]; omega
      have hWk : W (rows.take k ++ rows.drop (k + 1)) + (r.length + 1) = W rows := by rw [W_app]; omega
      generalize rows.take k ++ rows.drop (k + 1) = kept at hWk
      have hkl := (W_ge kept).1
      rw [asSome_some]
      refine ⟨by omega, _, rfl, by omega, by omega, tops_int (by omega) (by omega), fun m m0 m1 => ?_⟩
      obtain ⟨m, rfl⟩ : ∃ j : Nat, m = (j : Int) := ⟨m.toNat, by omega⟩
      simp only [s_eqI, asBl_bl, asInt_int]
      rw [← nl_S]
      have fin : ∀ ps : List (List Nat), W ps ≤ W rows → rJoinD (.str "\n") (.lst (txD ps)) fun d => Q d (n + 1 + 1 + 1 + 1) := fun ps hp => join_txD (by omega) (q _ _ (by have := join_len ps; omega) (by omega) (by omega))
      by_cases h4 : way = 4
      · rw [if_pos (by rw [if_neg Bool.false_ne_true, decide_eq_true h4])]
        exact fin kept (by omega)
      · rw [if_neg (by rw [if_neg Bool.false_ne_true, decide_eq_true_eq]; exact h4), s_ixl, aK, asSome_some, cut_to, cut_from]
        rw [show [D.str (S r)] = txD [r] from rfl, txD_app, txD_app, sl, sl, sl, sl]
        have hkt : (kept.take m).length ≤ kept.length := by rw [List.length_take]; omega
        have hkd : (kept.drop m).length ≤ kept.length := by rw [List.length_drop]; omega
        refine ⟨by show 1 ≤ _; omega, by rw [List.length_singleton]; omega, by rw [List.length_append, List.length_singleton]; omega, fin _ ?_⟩
        have h5 := congrArg W (List.take_append_drop m kept)
        rw [W_app] at h5
        rw [W_app, W_app]
        show W (kept.take m) + ((r.length + 1) + 0) + W (kept.drop m) ≤ _
        omega
    · rw [if_neg (by rw [decide_eq_true_eq]; exact hw)]
      refine ⟨by show 17 ≤ _; omega, _, _, rfl, by omega, rfl, by simp, by simp, fun d hd => ?_⟩
      obtain ⟨z, rfl, hz2⟩ : ∃ z : List Nat, d = .str (S z) ∧ z.length ≤ 3 := by
        have : ∀ d ∈ bentD, shortB d = true := List.all_eq_true.1 (by decide +kernel)
        have h2 := this d hd
        cases d with
        | str z =>
          have h3 : decide (z.length ≤ 3) = true := h2
          exact ⟨z.cps.toList, by rw [S_tl], of_decide_eq_true h3⟩
        | _ => cases h2
      obtain ⟨j, rfl⟩ : ∃ j : Nat, spot = (j : Int) := ⟨spot.toNat, by omega⟩
      simp only [asInt_int, s_eqI, asBl_bl, s_add, s_addS]
      have ct : cutS (S l) none (some (j : Int)) = S (l.take j) := cutS_to (by omega)
      have cf : ∀ i : Int, 0 ≤ i → cutS (S l) (some i) none = S (l.drop i.toNat) := fun i h => cutS_from h
      have htk : (l.take j).length ≤ j := by rw [List.length_take]; omega
      have htk2 : (l.take j).length ≤ l.length := by rw [List.length_take]; omega
      have hdr : ∀ i : Nat, (l.drop i).length = l.length - i := fun i => List.length_drop
      rw [ct, cf _ (by omega), cf _ (by omega), show ("" : Str) = S [] from rfl]
      have fin : ∀ (a : List Nat) (i : Nat), j ≤ i → a.length ≤ 3 → (S (l.take j)).length + (S a).length ≤ sizeLine ∧ ((S (l.take j) ++ S a).length + (S (l.drop i)).length ≤ sizeLine ∧ Q (.str (S (l.take j) ++ S a ++ S (l.drop i))) (n + 1 + 1 + 1)) := fun a i hi ha => by
        have hd1 := hdr i
        have e1 : (l.take j ++ a).length = (l.take j).length + a.length := List.length_append
        have e2 : (l.take j ++ a ++ l.drop i).length = (l.take j ++ a).length + (l.drop i).length := List.length_append
        rw [S_cat, S_cat, S_len, S_len, S_len, S_len]
        exact ⟨by omega, by omega, q _ _ (by omega) (by omega) (by omega)⟩
      rw [show ((j : Int) + 0).toNat = j by omega, show ((j : Int) + 1).toNat = j + 1 by omega]
      have f1 := fin [] j (Nat.le_refl _) (by decide)
      have f2 := fin [] (j + 1) (by omega) (by decide)
      have f3 := fin z j (Nat.le_refl _) hz2
      have f4 := fin z (j + 1) (by omega) hz2
      have inner : ∀ {A B : Prop}, A → B → (if (if false = true then !decide (way = 1) else decide (way = 1)) = true then A else B) := fun a b => by
        by_cases g : (if false = true then !decide (way = 1) else decide (way = 1)) = true
        · rw [if_pos g]; exact a
        · rw [if_neg g]; exact b
      by_cases g0 : (if false = true then !decide (way = 0) else decide (way = 0)) = true
      · rw [if_pos g0]
        exact ⟨f1.1, inner f1.2 f2.2⟩
      · rw [if_neg g0]
        exact ⟨f3.1, inner f3.2 f4.2⟩
end
end K4

set_option Elab.async false
set_option linter.all false
set_option maxRecDepth 100000
set_option maxHeartbeats 4000000
/-! k04: sameness by value -/
namespace K4
open PySem PySem.Spec PyProof.Rows L2 Dv
local macro_rules | `(tactic| walk_at "dv") => `(tactic| simp only [s_var, s_varb, s_test, s_tru, s_andv, s_orv, s_notv, s_chain, s_part, s_list, s_len, s_tuple, s_is, s_ixl, s_ixt, s_ixs, s_seqi, s_gcons, s_gnil, s_gtup, s_append, s_insert, s_enum, s_par, s_listRg, s_rng3, s_raise1, asIns_i, s_putF, s_fld, asFld_i, s_startI4, asLT_l, asLT_t, cx_K, s_reverse, s_retof, s_reto,
  asBl_bl, asInt_int, asTup_tup, asSome_some, asLst_lst, atVal_0, atVal_s, atGet_0, atGet_o, atGet_s, atOb_o, atOb_s, s_start0, s_startU, s_startV, s_add, s_addS, s_addL, s_addT, s_i2, s_ordI, s_ordS, s_isN, s_mulI, s_mulS, s_mulL, s_strip, s_inS, s_neg, s_abs, s_intI, s_intB, s_slL, s_slT, s_slS, isStr_str, s_ifand, s_ifor, s_eqS, s_eqI, s_eqB, Dv.ite_tt, Dv.ite_ff,
  wC, wOp, wMt1, Dv.wNot, Dv.wAnd, Dv.wOr, wIfE, wNil, wCons, wTup, wLst, wOb, Ob.d, wCall, wNoPart, wSl, wNx, Dv.wSeq, wDrop, wSortedSet, wSortedLen, wSortedPair, s_all, s_lc, s_for, s_zip, s_zipS, s_rng1, s_rng2, asZip_lst, asZip_tup, asStr_str, wRet, wRetN, wRetF, wSet, wOwn, wSetOb, wIf, wBk, wCt, wFn, wFnB, wFnF, wFnK, wFnFK, dEnds, dEndsF, gNm, wYes,
  wipeE, List.map_cons, List.map_nil, List.set_cons_zero, List.set_cons_succ, D.tru, D.len, D.items, D.seq, D.flat, D.isNon, true_and, and_true, if_true, if_false, Bool.false_eq_true, Bool.not_true, Bool.not_false])
local macro_rules | `(tactic| walk_at "dn") => `(tactic| simp only [↓s_var, ↓s_varb, ↓s_test, ↓s_tru, ↓s_andv, ↓s_orv, ↓s_notv, ↓s_chain, ↓s_part, ↓s_list, ↓s_rInt2, ↓s_len, ↓s_tuple, ↓s_is, ↓s_ixl, ↓s_ixt, ↓s_ixs, ↓s_seqi, ↓s_gcons, ↓s_gnil, ↓s_gtup, ↓s_append, ↓s_insert, ↓s_enum, ↓s_par, ↓s_listRg, ↓s_rng3, ↓s_raise1, ↓asIns_i, ↓s_putF, ↓s_fld, ↓asFld_i, ↓s_startI4, ↓asLT_l, ↓asLT_t, ↓cx_K, ↓s_reverse, ↓s_retof, ↓s_reto, ↓asBl_bl, ↓asInt_int, ↓asTup_tup, ↓asSome_some, ↓asLst_lst, ↓atVal_0, ↓atVal_s, ↓atGet_0, ↓atGet_o, ↓atGet_s, ↓atOb_o, ↓atOb_s, ↓s_start0, ↓s_startU, ↓s_startV, ↓s_add, ↓s_addS, ↓s_addL, ↓s_addT, ↓s_i2, ↓s_ordI, ↓s_ordS, ↓s_isN, ↓s_mulI, ↓s_mulS, ↓s_mulL, ↓s_strip, ↓s_inS, ↓s_neg, ↓s_abs, ↓s_intI, ↓s_intB, ↓s_slL, ↓s_slT, ↓s_slS, ↓isStr_str, ↓s_ifand, ↓s_ifor, ↓s_eqS, ↓s_eqI, ↓s_eqB, ↓Dv.ite_tt, ↓Dv.ite_ff, wC, wOp, wMt1, Dv.wNot, Dv.wAnd, Dv.wOr, wIfE, wNil, wCons, wTup, wLst, wOb, Ob.d, wCall, wNoPart, wOrT, wAndT, wHead, wGetK, rIxK, wSl, wNx, Dv.wSeq, wDrop, wSortedSet, wSortedLen, wSortedPair, ↓s_all, ↓s_lc, ↓s_for, ↓s_zip, ↓s_zipS, ↓s_rng1, ↓s_rng2, ↓asZip_lst, ↓asZip_tup, ↓asStr_str, wRet, wRetN, wRetF, wSet, wOwn, wSetOb, wIf, wBk, wCt, wFn, wFnB, wFnF, wFnK, wFnFK, dEnds, dEndsF, gNm, wYes, wipeE, List.map_cons, List.map_nil, List.set_cons_zero, List.set_cons_succ, D.tru, D.len, D.items, D.seq, D.flat, D.isNon, ↓true_and, ↓and_true, ↓if_true, ↓if_false, Bool.false_eq_true, Bool.not_true, Bool.not_false])

mutual
def fit : D → Bool
  | .non | .bl _ | .int _ | .str _ => true
  | .lst xs => decide (xs.length ≤ 100000) && fits xs
  | .tup xs => decide (xs.length ≤ 100000) && fits xs
  | _ => false
def fits : List D → Bool
  | [] => true
  | x :: xs => fit x && fits xs
end
theorem fits_all : ∀ {xs : List D}, fits xs = true ↔ ∀ x ∈ xs, fit x = true
  | [] => by simp [fits]
  | x :: xs => by simp [fits, fits_all (xs := xs)]
def sp_same (m : Nat) : DSp := fun ds n Q _ => ∃ x : D, ds = [x, x] ∧ fit x = true ∧ x.dep < m ∧ Q (.bl true) n
theorem zipD_self {xs : List D} {i : Nat} {y : D} (h : (zipD xs xs)[i]? = some y) : ∃ x ∈ xs, y = .tup [x, x] := by
  unfold zipD at h
  rw [List.getElem?_map] at h
  cases e : (xs.zip xs)[i]? with
  | none => rw [e] at h; cases h
  | some p =>
    rw [e] at h
    obtain ⟨h1, h2⟩ := List.getElem?_zip_eq_some.1 e
    rw [h1] at h2
    have e2 : p.1 = p.2 := Option.some.inj h2
    refine ⟨p.1, List.mem_of_getElem? h1, ?_⟩
    have := (Option.some.inj h).symm
    rw [this]
    show D.tup [p.1, p.2] = _
    rw [← e2]
theorem zipD_self_len (xs : List D) : (zipD xs xs).length = xs.length := by rw [zipD_len]; exact Nat.min_self _
section
variable {P : Program} {w : World} {K : PySem.W.Frag} {mg : Str → Option Value} {base : Heap}
abbrev s__law_same : Stmt := topS 36
theorem sc__law_same : FnScope ["found", "due", "p", "q"] ["found", "due"] (defScope s__law_same) := ⟨rfl, rfl, rfl, by decide +kernel, rfl, by decide +kernel, by decide +kernel⟩
theorem ok__law_same {m : Nat} {k : Nat} {f : Addr} {fd : FuncData} (M : Mg mg) (F : Fun K "_law_same" "_law_same" s__law_same f fd)  (C__law_same : Cal P w K mg base CX0 k "_law_same" ["found", "due"] (sp_same m)) : FnOk P w K mg base CX0 (k + 1) f fd ["found", "due"] (lSp K (sp_same (m + 1))) := by
  refine dok F sc__law_same (fun ds n Q E h => ?_) (fun cdv A outer s H E hr => ⟨_, (dss_cons (ds_if (dt_tru (DE.b (de_bi cd_isT M.b_isinstance (dab_cons (dvb 1) (dab_cons (DE.b (de_tup (da_cons (de_ty (T := "list") M.b_list) (da_cons (de_ty (T := "tuple") M.b_tuple) da_nil)))) dab_nil))))) (dss_cons (ds_if (DW.t (dw_or (dt_cmp (od_ne (hu64 hr)) (DE.b (de_bi cd_is M.b_isinstance (dab_cons (dvb 0) (dab_cons (DE.b (de_ty (T := "list") M.b_list)) dab_nil)))) (DE.b (de_bi cd_is M.b_isinstance (dab_cons (dvb 1) (dab_cons (DE.b (de_ty (T := "list") M.b_list)) dab_nil))))) (dw_or1 (dt_cmp (od_ne (hu64 hr)) (DE.b (de_bi cd_is M.b_isinstance (dab_cons (dvb 0) (dab_cons (DE.b (de_ty (T := "tuple") M.b_tuple)) dab_nil)))) (DE.b (de_bi cd_is M.b_isinstance (dab_cons (dvb 1) (dab_cons (DE.b (de_ty (T := "tuple") M.b_tuple)) dab_nil)))))))) (dss_one (ds_ret de_bl)) dss_nil)
      (dss_one (ds_ret (de_and (de_cmp (od_eq (hu64 hr)) (DE.b (de_bi cd_len M.b_len (dab_cons (dvb 0) dab_nil))) (DE.b (de_bi cd_len M.b_len (dab_cons (dvb 1) dab_nil)))) (de_one (de_bi (cd_all rfl) M.b_all (dab_cons (DE.b (DF.toE (df_lc (own := [("p", 2), ("q", 3)]) sc__law_same.nd (di_zip M.b_zip (da_cons (dv 0) (da_cons (dv 1) da_nil))) (blkOk_by (N := ["found", "due", "p", "q"]) (sc := defScope s__law_same) (by decide +kernel)) (fun _ _ _ _ _ => (dg_tup (k := 2) (dgs_name (i := 2) sc__law_same.nd rfl (by first | exact Or.inl rfl | exact Or.inr rfl) (dgs_name (i := 3) sc__law_same.nd rfl (by first | exact Or.inl rfl | exact Or.inr rfl) dgs_nil)))) (fun _ _ _ _ _ => dts_nil) (fun _ _ _ _ _ => (de_call C__law_same hr (da_cons (dv 2) (da_cons (dv 3) da_nil))))))) dab_nil))))))) dss_nil)
      (dss_cons (ds_if (dt_tru (DE.b (de_bi cd_isT M.b_isinstance (dab_cons (dvb 0) (dab_cons (DE.b (de_tup (da_cons (de_ty (T := "list") M.b_list) (da_cons (de_ty (T := "tuple") M.b_tuple) da_nil)))) dab_nil))))) (dss_one (ds_ret de_bl)) dss_nil)
      (dss_cons (ds_if (DW.t (dw_or (dt_cmp od_isN (dvb 1) (DE.b de_non)) (dw_or1 (dt_cmp od_isN (dvb 0) (DE.b de_non))))) (dss_one (ds_ret (de_and (de_cmp od_isN (dvb 1) (DE.b de_non)) (de_one (de_cmp od_isN (dvb 0) (DE.b de_non)))))) dss_nil)
      (dss_cons (ds_if (DW.t (dw_or (dt_tru (DE.b (de_bi cd_is M.b_isinstance (dab_cons (dvb 1) (dab_cons (DE.b (de_ty (T := "bool") M.b_bool)) dab_nil))))) (dw_or1 (dt_tru (DE.b (de_bi cd_is M.b_isinstance (dab_cons (dvb 0) (dab_cons (DE.b (de_ty (T := "bool") M.b_bool)) dab_nil)))))))) (dss_one (ds_ret (de_and (de_bi cd_is M.b_isinstance (dab_cons (dvb 1) (dab_cons (DE.b (de_ty (T := "bool") M.b_bool)) dab_nil))) (de_and (de_bi cd_is M.b_isinstance (dab_cons (dvb 0) (dab_cons (DE.b (de_ty (T := "bool") M.b_bool)) dab_nil))) (de_one (de_cmp (od_eq (hu64 hr)) (dvb 0) (dvb 1))))))) dss_nil)
      (dss_cons (ds_if (DW.t (dw_or (dt_tru (DE.b (de_bi cd_is M.b_isinstance (dab_cons (dvb 1) (dab_cons (DE.b (de_ty (T := "int") M.b_int)) dab_nil))))) (dw_or1 (dt_tru (DE.b (de_bi cd_is M.b_isinstance (dab_cons (dvb 0) (dab_cons (DE.b (de_ty (T := "int") M.b_int)) dab_nil)))))))) (dss_one (ds_ret (de_and (de_bi cd_is M.b_isinstance (dab_cons (dvb 1) (dab_cons (DE.b (de_ty (T := "int") M.b_int)) dab_nil))) (de_and (de_bi cd_is M.b_isinstance (dab_cons (dvb 0) (dab_cons (DE.b (de_ty (T := "int") M.b_int)) dab_nil))) (de_one (de_cmp (od_eq (hu64 hr)) (dvb 0) (dvb 1))))))) dss_nil)
      (dss_cons (ds_if (DW.t (dw_or (dt_tru (DE.b (de_bi cd_is M.b_isinstance (dab_cons (dvb 1) (dab_cons (DE.b (de_ty (T := "str") M.b_str)) dab_nil))))) (dw_or1 (dt_tru (DE.b (de_bi cd_is M.b_isinstance (dab_cons (dvb 0) (dab_cons (DE.b (de_ty (T := "str") M.b_str)) dab_nil)))))))) (dss_one (ds_ret (de_and (de_bi cd_is M.b_isinstance (dab_cons (dvb 1) (dab_cons (DE.b (de_ty (T := "str") M.b_str)) dab_nil))) (de_and (de_bi cd_is M.b_isinstance (dab_cons (dvb 0) (dab_cons (DE.b (de_ty (T := "str") M.b_str)) dab_nil))) (de_one (de_cmp (od_eq (hu64 hr)) (dvb 0) (dvb 1))))))) dss_nil)
      (dss_one (ds_ret (de_cmp (od_eq (hu64 hr)) (dvb 0) (dvb 1)))))))))), fun ds n Q E h => ?_⟩)
  · obtain ⟨x, rfl, _⟩ := h
    rfl
  · obtain ⟨x, rfl, hf, hd, q⟩ := h
    have hty : x.ty? = true := by cases x <;> first | rfl | cases hf
    have l2 : [D.ty "list", D.ty "tuple"].length ≤ sizeLine := by decide
    walk_at "dv"
    simp only [s_isTs hty, isT_list hty, isT_tuple hty, isT_bool hty, isT_int hty, isT_str hty, l2]
    have fin : ∀ (xs : List D) (R : List D → D) (vs : List Nat), vs = [2, 3] → (∀ y ∈ xs, fit y = true ∧ y.dep < m) → xs.length ≤ 100000 →
        LcR (gTp 2 (gsName 2 (gsName 3 gsNil))) wYes (wFn (sp_same m) (wCons (wVar 2) (wCons (wVar 3) wNil))) vs [SD.val (R xs), SD.val (R xs), SD.un, SD.un] (zipD xs xs) n fun ds n => rAllD [.lst ds] fun d => Q d n := by
      rintro xs R vs rfl hx hl
      refine lc_map (fun _ => .bl true) ?_ ?_ fun i y hy R hR => ?_
      · rw [zipD_self_len]; have := sizeLine_eq; omega
      · have e : (zipD xs xs).map (fun _ => D.bl true) = (List.replicate (zipD xs xs).length true).map D.bl := by
          rw [List.map_replicate, List.map_const']
        rw [e, s_all]
        have e2 : (List.replicate (zipD xs xs).length true).all id = true := by simp
        rw [e2]
        exact q
      · obtain ⟨z, hz, rfl⟩ := zipD_self hy
        walk_at "dv"
        exact ⟨rfl, z, rfl, (hx z hz).1, (hx z hz).2, hR⟩
    cases x with
    | lst xs =>
      rw [fit, Bool.and_eq_true, decide_eq_true_eq, fits_all] at hf
      rw [D.dep] at hd
      have hd' := (deps_le (k := m - 1)).1 (show D.deps xs ≤ m - 1 by omega)
      have hx : ∀ y ∈ xs, fit y = true ∧ y.dep < m := fun y hy => ⟨hf.2 y hy, by have := hd' y hy; omega⟩
      simp only [D.isLst, D.isTup, Bool.or_false, decide_true, Dv.ite_tt, Dv.ite_ff, asSome_some, Bool.not_true, Bool.not_false, Bool.false_or, true_and]
      walk_at "dv"
      exact ⟨rfl, fin xs D.lst _ rfl hx hf.1⟩
    | tup xs =>
      rw [fit, Bool.and_eq_true, decide_eq_true_eq, fits_all] at hf
      rw [D.dep] at hd
      have hd' := (deps_le (k := m - 1)).1 (show D.deps xs ≤ m - 1 by omega)
      have hx : ∀ y ∈ xs, fit y = true ∧ y.dep < m := fun y hy => ⟨hf.2 y hy, by have := hd' y hy; omega⟩
      simp only [D.isLst, D.isTup, Bool.or_false, decide_true, Dv.ite_tt, Dv.ite_ff, asSome_some, Bool.not_true, Bool.not_false, Bool.false_or, true_and]
      walk_at "dv"
      exact ⟨rfl, fin xs D.tup _ rfl hx hf.1⟩
    | non => simp only [D.isLst, D.isTup, D.isBool, D.isInt, D.isStr, Bool.or_false, decide_true, Dv.ite_tt, Dv.ite_ff, asSome_some, Bool.not_true, Bool.not_false, Bool.and_true, true_and, s_eqI, s_eqS, s_eqB, Bool.false_eq_true, if_false]; exact q
    | bl b => simp only [D.isLst, D.isTup, D.isBool, D.isInt, D.isStr, Bool.or_false, decide_true, Dv.ite_tt, Dv.ite_ff, asSome_some, Bool.not_true, Bool.not_false, Bool.and_true, true_and, s_eqI, s_eqS, s_eqB, Bool.false_eq_true, if_false]; exact q
    | int i => simp only [D.isLst, D.isTup, D.isBool, D.isInt, D.isStr, Bool.or_false, decide_true, Dv.ite_tt, Dv.ite_ff, asSome_some, Bool.not_true, Bool.not_false, Bool.and_true, true_and, s_eqI, s_eqS, s_eqB, Bool.false_eq_true, if_false]; exact q
    | str s => simp only [D.isLst, D.isTup, D.isBool, D.isInt, D.isStr, Bool.or_false, decide_true, Dv.ite_tt, Dv.ite_ff, asSome_some, Bool.not_true, Bool.not_false, Bool.and_true, true_and, s_eqI, s_eqS, s_eqB, Bool.false_eq_true, if_false]; exact q
    | _ => cases hf
end
theorem same_all {P : Program} {w : World} {K : PySem.W.Frag} {mg : Str → Option Value} {base : Heap} {f : Addr} {fd : FuncData} (M : Mg mg) (F : Fun K "_law_same" "_law_same" s__law_same f fd) (gm : mg "_law_same" = some (.ref f)) (bd : Binds K fd ["found", "due"] []) :
    ∀ m : Nat, FnOk P w K mg base CX0 (m + 1) f fd ["found", "due"] (lSp K (sp_same m))
  | 0 => F.ok sc__law_same (fun vs H Q E ⟨c, ds, n, Q0, E0, h1, h2, ⟨x, _, _, h, _⟩, _⟩ => by omega) (fun cdv A outer s H vs Q E hr ⟨c, ds, n, Q0, E0, h1, h2, ⟨x, _, _, h, _⟩, _⟩ => by omega)
  | m + 1 => ok__law_same M F ⟨⟨f, fd, same_all M F gm bd m, gm, F.kp, bd⟩⟩
end K4

set_option Elab.async false
set_option linter.all false
set_option maxRecDepth 100000
set_option maxHeartbeats 4000000
/-! k04: the law's body -/
namespace K4
open PySem PySem.Spec PyProof.Rows L2 Dv Ke SX M4
local macro_rules | `(tactic| walk_at "dv") => `(tactic| simp only [s_var, s_varb, s_test, s_tru, s_andv, s_orv, s_notv, s_chain, s_part, s_list, s_len, s_tuple, s_is, s_ixl, s_ixt, s_ixs, s_seqi, s_gcons, s_gnil, s_gtup, s_append, s_insert, s_enum, s_par, s_listRg, s_rng3, s_raise1, asIns_i, s_putF, s_fld, asFld_i, s_startI4, asLT_l, asLT_t, cx_K, s_reverse, s_retof, s_reto,
  asBl_bl, asInt_int, asTup_tup, asSome_some, asLst_lst, atVal_0, atVal_s, atGet_0, atGet_o, atGet_s, atOb_o, atOb_s, s_start0, s_startU, s_startV, s_add, s_addS, s_addL, s_addT, s_i2, s_ordI, s_ordS, s_isN, s_mulI, s_mulS, s_mulL, s_strip, s_inS, s_neg, s_abs, s_intI, s_intB, s_slL, s_slT, s_slS, isStr_str, s_ifand, s_ifor, s_eqS, s_eqI, s_eqB, Dv.ite_tt, Dv.ite_ff,
  wC, wOp, wMt1, Dv.wNot, Dv.wAnd, Dv.wOr, wIfE, wNil, wCons, wTup, wLst, wOb, Ob.d, wCall, wNoPart, wSl, wNx, Dv.wSeq, wDrop, wSortedSet, wSortedLen, wSortedPair, s_all, s_lc, s_for, s_zip, s_zipS, s_rng1, s_rng2, asZip_lst, asZip_tup, asStr_str, wRet, wRetN, wRetF, wSet, wOwn, wSetOb, wIf, wBk, wCt, wFn, wFnB, wFnF, wFnK, wFnFK, dEnds, dEndsF, gNm, wYes,
  wipeE, List.map_cons, List.map_nil, List.set_cons_zero, List.set_cons_succ, D.tru, D.len, D.items, D.seq, D.flat, D.isNon, true_and, and_true, if_true, if_false, Bool.false_eq_true, Bool.not_true, Bool.not_false])
local macro_rules | `(tactic| walk_at "dn") => `(tactic| simp only [↓s_var, ↓s_varb, ↓s_test, ↓s_tru, ↓s_andv, ↓s_orv, ↓s_notv, ↓s_chain, ↓s_part, ↓s_list, ↓s_rInt2, ↓s_len, ↓s_tuple, ↓s_is, ↓s_ixl, ↓s_ixt, ↓s_ixs, ↓s_seqi, ↓s_gcons, ↓s_gnil, ↓s_gtup, ↓s_append, ↓s_insert, ↓s_enum, ↓s_par, ↓s_listRg, ↓s_rng3, ↓s_raise1, ↓asIns_i, ↓s_putF, ↓s_fld, ↓asFld_i, ↓s_startI4, ↓asLT_l, ↓asLT_t, ↓cx_K, ↓s_reverse, ↓s_retof, ↓s_reto, ↓asBl_bl, ↓asInt_int, ↓asTup_tup, ↓asSome_some, ↓asLst_lst, ↓atVal_0, ↓atVal_s, ↓atGet_0, ↓atGet_o, ↓atGet_s, ↓atOb_o, ↓atOb_s, ↓s_start0, ↓s_startU, ↓s_startV, ↓s_add, ↓s_addS, ↓s_addL, ↓s_addT, ↓s_i2, ↓s_ordI, ↓s_ordS, ↓s_isN, ↓s_mulI, ↓s_mulS, ↓s_mulL, ↓s_strip, ↓s_inS, ↓s_neg, ↓s_abs, ↓s_intI, ↓s_intB, ↓s_slL, ↓s_slT, ↓s_slS, ↓isStr_str, ↓s_ifand, ↓s_ifor, ↓s_eqS, ↓s_eqI, ↓s_eqB, ↓Dv.ite_tt, ↓Dv.ite_ff, wC, wOp, wMt1, Dv.wNot, Dv.wAnd, Dv.wOr, wIfE, wNil, wCons, wTup, wLst, wOb, Ob.d, wCall, wNoPart, wOrT, wAndT, wHead, wGetK, rIxK, wSl, wNx, Dv.wSeq, wDrop, wSortedSet, wSortedLen, wSortedPair, ↓s_all, ↓s_lc, ↓s_for, ↓s_zip, ↓s_zipS, ↓s_rng1, ↓s_rng2, ↓asZip_lst, ↓asZip_tup, ↓asStr_str, wRet, wRetN, wRetF, wSet, wOwn, wSetOb, wIf, wBk, wCt, wFn, wFnB, wFnF, wFnK, wFnFK, dEnds, dEndsF, gNm, wYes, wipeE, List.map_cons, List.map_nil, List.set_cons_zero, List.set_cons_succ, D.tru, D.len, D.items, D.seq, D.flat, D.isNon, ↓true_and, ↓and_true, ↓if_true, ↓if_false, Bool.false_eq_true, Bool.not_true, Bool.not_false])

theorem kids_of {m : Nat} : ∀ {r : List D}, (∀ x ∈ r, KidOk m x) → ∃ ks : Kids, r = ks.map kD ∧ ∀ k, some k ∈ ks → k < m
  | [], _ => ⟨[], rfl, fun k h => nomatch h⟩
  | d :: r, h => by
    obtain ⟨ks, e, hk⟩ := kids_of (r := r) fun x hx => h x (List.mem_cons_of_mem _ hx)
    rcases h d List.mem_cons_self with hd | ⟨j, hd, hj⟩
    · exact ⟨none :: ks, by rw [hd, e]; rfl, fun k hk2 => by
        rcases List.mem_cons.1 hk2 with z | z
        · cases z
        · exact hk k z⟩
    · exact ⟨some j :: ks, by rw [hd, e]; rfl, fun k hk2 => by
        rcases List.mem_cons.1 hk2 with z | z
        · cases z; exact hj
        · exact hk k z⟩
theorem nodeS_nd {m : Nat} {d : D} (h : NodeS m d) : ∃ x : Nd, d = ndD x ∧ NdB m x := by
  obtain ⟨c, r, rfl, hc, h4, hr⟩ := h
  obtain ⟨ks, e, hk⟩ := kids_of hr
  refine ⟨(c, ks), by rw [e]; rfl, hc, ?_, hk⟩
  rw [e, List.length_map] at h4
  exact h4
theorem nds_of {Q : Nd → Prop} : ∀ {ds : List D}, (∀ d ∈ ds, ∃ x : Nd, d = ndD x ∧ Q x) → ∃ xs : List Nd, ds = xs.map ndD ∧ ∀ x ∈ xs, Q x
  | [], _ => ⟨[], rfl, fun x h => nomatch h⟩
  | d :: ds, h => by
    obtain ⟨x, e, q⟩ := h d List.mem_cons_self
    obtain ⟨xs, e2, q2⟩ := nds_of fun y hy => h y (List.mem_cons_of_mem _ hy)
    refine ⟨x :: xs, by rw [e, e2]; rfl, fun y hy => ?_⟩
    rcases List.mem_cons.1 hy with z | z
    · rw [z]; exact q
    · exact q2 y z
theorem ndb_w {m : Nat} {x : Nd} (h : NdB m x) (hm : m ≤ 1000) : NdW x := ⟨h.col, h.len, fun k hk => by have := h.lt k hk; omega⟩
theorem dom_str {K : PySem.W.Frag} {l : List Nat} (h : l.length ≤ 100000) : ReadDom K (.str (S l)) := ⟨.inl rfl, fun s e => by cases e; rw [S_len]; exact h⟩
theorem fit_nd {x : Nd} (h : x.2.length = 4) : fit (ndD x) = true := by
  show (decide ((D.str x.1 :: x.2.map kD).length ≤ 100000) && fits (D.str x.1 :: x.2.map kD)) = true
  rw [Bool.and_eq_true, decide_eq_true_eq, fits_all, List.length_cons, List.length_map, h]
  refine ⟨by decide, fun y hy => ?_⟩
  rcases List.mem_cons.1 hy with z | z
  · rw [z]; rfl
  · obtain ⟨o, _, rfl⟩ := List.mem_map.1 z
    cases o <;> rfl
theorem fit_tup {xs : List D} (hl : xs.length ≤ 100000) (h : ∀ x ∈ xs, fit x = true) : fit (.tup xs) = true := by
  show (decide (xs.length ≤ 100000) && fits xs) = true
  rw [Bool.and_eq_true, decide_eq_true_eq, fits_all]
  exact ⟨hl, h⟩
theorem fit_lst {xs : List D} (hl : xs.length ≤ 100000) (h : ∀ x ∈ xs, fit x = true) : fit (.lst xs) = true := by
  show (decide (xs.length ≤ 100000) && fits xs) = true
  rw [Bool.and_eq_true, decide_eq_true_eq, fits_all]
  exact ⟨hl, h⟩
theorem fit_due (d : D) : fit (dueT d (readD d)) = true ∧ (dueT d (readD d)).dep ≤ 3 := by
  cases er : readD d with
  | bad k why => exact ⟨fit_tup (by show 3 ≤ _; decide) (by intro x hx; simp only [List.mem_cons, List.not_mem_nil, or_false] at hx; rcases hx with e | e | e <;> rw [e] <;> rfl), by show (max 0 (max 0 (max 0 0))) + 1 ≤ 3; decide⟩
  | ok xs =>
    obtain ⟨h1, h2, h3⟩ := read_facts er
    have hd : ∃ s, d = .str s := ⟨_, h3.symm⟩
    obtain ⟨s, rfl⟩ := hd
    refine ⟨fit_tup (by show 3 ≤ _; decide) (by
      intro x hx
      simp only [List.mem_cons, List.not_mem_nil, or_false] at hx
      rcases hx with e | e | e <;> rw [e]
      · rfl
      · refine fit_lst (by rw [List.length_map]; omega) fun y hy => ?_
        obtain ⟨z, hz, rfl⟩ := List.mem_map.1 hy
        exact fit_nd (h2 z hz).len
      · rfl), ?_⟩
    show D.deps [D.str "read", .lst (xs.map ndD), .str s] + 1 ≤ 3
    have : D.deps [D.str "read", .lst (xs.map ndD), .str s] ≤ 2 := deps_le.2 fun y hy => by
      simp only [List.mem_cons, List.not_mem_nil, or_false] at hy
      rcases hy with e | e | e <;> rw [e]
      · exact Nat.zero_le _
      · show D.deps (xs.map ndD) + 1 ≤ 2
        have := deps_map (f := ndD) (k := 1) ndDep xs
        omega
      · exact Nat.zero_le _
    omega
/-- the same twice, of two -/
theorem same_two {a b : D} {n : Nat} {Q : D → Nat → Prop} {E : EX → Nat → Prop} (ha : fit a = true ∧ a.dep ≤ 3) (hb : fit b = true ∧ b.dep ≤ 3) (q : Q (.bl true) n) : sp_same 6 [.lst [a, b], .lst [a, b]] n Q E := by
  refine ⟨_, rfl, fit_lst (by show 2 ≤ _; decide) (by intro x hx; simp only [List.mem_cons, List.not_mem_nil, or_false] at hx; rcases hx with e | e <;> rw [e]; exact ha.1; exact hb.1), ?_, q⟩
  show D.deps [a, b] + 1 < 6
  have : D.deps [a, b] ≤ 3 := deps_le.2 fun y hy => by
    simp only [List.mem_cons, List.not_mem_nil, or_false] at hy
    rcases hy with e | e <;> rw [e]
    · exact ha.2
    · exact hb.2
  omega
theorem same_one {a : D} {n : Nat} {Q : D → Nat → Prop} {E : EX → Nat → Prop} (ha : fit a = true ∧ a.dep ≤ 3) (q : Q (.bl true) n) : sp_same 6 [a, a] n Q E := ⟨_, rfl, ha.1, by omega, q⟩
theorem rng_int {i k : Nat} {y : D} (h : (rngD 0 k)[i]? = some y) : i < k ∧ y = .int (i : Nat) := by
  obtain ⟨h1, h2⟩ := rngD_get h
  exact ⟨h1, by rw [h2, Int.zero_add]⟩
theorem good_places : ∀ p ∈ kv_PLACES, GoodS p.1 := by
  intro p hp
  unfold kv_PLACES at hp
  have e97 : ("a" : Str) = S [97] := S_str (by decide +kernel)
  have e98 : ("b" : Str) = S [98] := S_str (by decide +kernel)
  have e99 : ("c" : Str) = S [99] := S_str (by decide +kernel)
  have e100 : ("d" : Str) = S [100] := S_str (by decide +kernel)
  rw [e97, e98, e99, e100] at hp
  simp only [List.mem_cons, List.not_mem_nil, or_false] at hp
  rcases hp with e | e | e | e <;> (rw [e]; exact good_S.2 ⟨by decide, fun c hc => by rw [List.mem_singleton.1 hc]; decide⟩)
def lastD : List D := [.str "", .str "x\n", .str "x", .str "e\n", .str "\n", .str "- d200\n", .str "- d200"]
def lastB : D → Bool
  | .str z => decide (z.length ≤ 20)
  | _ => false
theorem eq_nones {ks : Kids} (h4 : ks.length = 4) (h : (D.tup (ks.map kD)).eqv (.tup [.non, .non, .non, .non]) = true) : ks = [none, none, none, none] := by
  match ks, h4 with
  | [a, b, c, d], _ => cases a <;> cases b <;> cases c <;> cases d <;> first | rfl | cases h
def domB (d : D) : Bool := d.ty? && match d with
  | .str s => decide (s.length ≤ 100000)
  | _ => true
theorem dom_B {K : PySem.W.Frag} {d : D} (h : domB d = true) : ReadDom K d := by
  unfold domB at h
  rw [Bool.and_eq_true] at h
  refine ⟨.inl h.1, fun s e => ?_⟩
  subst e
  exact of_decide_eq_true h.2
theorem menu_dom {K : PySem.W.Frag} {d : D} (h : d ∈ menuD) : ReadDom K d := dom_B (List.all_eq_true.1 (show menuD.all domB = true by decide +kernel) d h)
section
variable {P : Program} {w : World} {K : PySem.W.Frag} {mg : Str → Option Value} {base : Heap}
abbrev s_law : Stmt := topS 49
theorem sc_law : FnScope ["script", "bag", "turn", "last", "net", "text", "k", "v", "c", "bent", "many", "kid"] ["script"] (defScope s_law) := ⟨rfl, rfl, rfl, by decide +kernel, rfl, by decide +kernel, by decide +kernel⟩
theorem ok_law {C CN CM fi : Addr} {gi : FuncData} {kI : Nat} (CP : ClsP K C) (hB : mg "Book" = some (.ref C)) (MK : Mk K C fi) (FI : FnOk P w K mg base (L2.CX P w) kI fi gi ["self", "nodes"] (lSpI K C (sp_Book___init__ CN CM K))) (bi : Binds K gi ["self", "nodes"] []) {k : Nat} {f fb : Addr} {fd fdb : FuncData} (hkI : kI < k) (M : Mg mg) (F : Fun K "law" "law" s_law f fd) (B : FnOk P w K mg base CX0 k fb fdb ["script"] (spBag K)) (mb : mg "_law_bag" = some (.ref fb)) (kb : PySem.W.keepIn K (.ref fb) = true) (bb : Binds K fdb ["script"] [])  (C__law_net : Cal P w K mg base CX0 k "_law_net" ["bag"] sp__law_net) (C__law_draw : Cal P w K mg base CX0 k "_law_draw" ["bag", "top"] sp__law_draw) (C__law_of : Cal P w K mg base CX0 k "_law_of" ["bag", "some"] sp__law_of) (C__law_text : Cal P w K mg base CX0 k "_law_text" ["net"] sp__law_text) (C__law_same : Cal P w K mg base CX0 k "_law_same" ["found", "due"] (sp_same 6)) (C__law_read : Cal P w K mg base CX0 k "_law_read" ["v", "named"] (sp__law_read K)) (C__law_due : Cal P w K mg base CX0 k "_law_due" ["v"] (sp__law_due K)) (C__law_bent : Cal P w K mg base CX0 k "_law_bent" ["bag", "v"] sp__law_bent) (C__law_any : Cal P w K mg base CX0 k "_law_any" ["bag", "more"] sp__law_any) : FnOk P w K mg base CX0 (k + 1) f fd ["script"] (spLaw K) := by
  refine dok_law (i := 1) F sc_law B mb kb bb rfl rfl rfl (fun cdv A outer s H E hr => ps_set (i := 1) sc_law.nd rfl (by first | exact Or.inl rfl | exact Or.inr rfl) (pe_call B hr (by rfl) mb kb bb .nil pass0 (pa_cons (pv 0) pa_nil))) (fun cdv A outer s H E hr => ⟨_, (dss_cons (ds_for (vs := [2]) (di_rng1 M.b_range (da_cons de_int da_nil)) (dg_name (i := 2) sc_law.nd rfl (by first | exact Or.inl rfl | exact Or.inr rfl)) (dss_cut (ds_set (i := 4) sc_law.nd rfl (by first | exact Or.inl rfl | exact Or.inr rfl) (de_call C__law_net hr (da_cons (dv 1) da_nil)))
      (dss_cut (ds_if (dt_cmp od_gt (dvb 2) (DE.b de_int)) (dss_cons (ds_asg (de_tup (da_cons (de_call C__law_of hr (da_cons (dv 1) (da_cons (DF.toE (df_lst (da_cons de_int (da_cons de_int (da_cons de_int (da_cons de_int (da_cons de_int (da_cons de_int (da_cons de_int da_nil))))))))) da_nil))) (da_cons (de_call C__law_draw hr (da_cons (dv 1) (da_cons de_int da_nil))) da_nil))) (dg_tup (vs := [10, 11]) (k := 2) (dgs_name (i := 10) sc_law.nd rfl (by first | exact Or.inl rfl | exact Or.inr rfl) (dgs_name (i := 11) sc_law.nd rfl (by first | exact Or.inl rfl | exact Or.inr rfl) dgs_nil))))
      (dss_cons (ds_set (i := 8) sc_law.nd rfl (by first | exact Or.inl rfl | exact Or.inr rfl) (de_call C__law_of hr (da_cons (dv 1) (da_cons (DF.toE (df_lst (da_cons de_str (da_cons de_str da_nil)))) da_nil))))
      (dss_one (ds_setLc (i := 4) (own := [("k", 6)]) sc_law.nd rfl rfl (sw_true rfl rfl rfl (by decide +kernel)) (di_rng1 M.b_range (da_cons (dv 10) da_nil)) (blkOk_by (N := ["script", "bag", "turn", "last", "net", "text", "k", "v", "c", "bent", "many", "kid"]) (sc := defScope s_law) (by decide +kernel)) (fun _ _ _ _ _ => (dg_name (i := 6) sc_law.nd rfl (by first | exact Or.inl rfl | exact Or.inr rfl))) (fun _ _ _ _ _ => dts_nil) (fun _ _ _ _ _ => (de_tup (da_cons (dv 8) (da_cons de_non (da_cons (dv 11) (da_cons de_non (da_cons (de_if (dt_cmp od_lt (dvb 6) (DE.b de_int)) de_non (dv 6)) da_nil))))))))))) dss_nil)
      (dss_cons (ds_set (i := 5) sc_law.nd rfl (by first | exact Or.inl rfl | exact Or.inr rfl) (de_call C__law_text hr (da_cons (dv 4) da_nil)))
      (dss_cons (ds_if (DW.t (dw_and (dt_cmp od_lt (dvb 2) (DE.b de_int)) (dw_and1 (dt_not (dt_tru (DE.b (de_call C__law_same hr (da_cons (DF.toE (df_lst (da_cons (de_call C__law_read hr (da_cons (dv 5) (da_cons de_bl da_nil))) (da_cons (de_call C__law_read hr (da_cons (dv 5) (da_cons de_bl da_nil))) da_nil)))) (da_cons (DF.toE (df_lst (da_cons (de_tup (da_cons de_str (da_cons (dv 4) (da_cons (dv 5) da_nil)))) (da_cons (de_tup (da_cons de_str (da_cons (dv 4) (da_cons (dv 5) da_nil)))) da_nil)))) da_nil))))))))) (dss_one (ds_ret de_bl)) dss_nil)
      (dss_cons (ds_if (dt_not (dt_tru (DE.b (de_call C__law_same hr (da_cons (de_call C__law_read hr (da_cons (dv 5) (da_cons de_bl da_nil))) (da_cons (de_call C__law_due hr (da_cons (dv 5) da_nil)) da_nil)))))) (dss_one (ds_ret de_bl)) dss_nil)
      (dss_cons (ds_for (vs := [6]) (di_rng1 M.b_range (da_cons de_int da_nil)) (dg_name (i := 6) sc_law.nd rfl (by first | exact Or.inl rfl | exact Or.inr rfl)) (dss_cons (ds_set (i := 9) sc_law.nd rfl (by first | exact Or.inl rfl | exact Or.inr rfl) (de_call C__law_bent hr (da_cons (dv 1) (da_cons (dv 5) da_nil))))
      (dss_cons (ds_if (dt_cmp (od_eq (hu64 hr)) (DE.b (de_call C__law_draw hr (da_cons (dv 1) (da_cons de_int da_nil)))) (DE.b de_int)) (dss_one (ds_set (i := 9) sc_law.nd rfl (by first | exact Or.inl rfl | exact Or.inr rfl) (de_call C__law_bent hr (da_cons (dv 1) (da_cons (dv 9) da_nil))))) dss_nil)
      (dss_one (ds_if (dt_not (dt_tru (DE.b (de_call C__law_same hr (da_cons (de_call C__law_read hr (da_cons (dv 9) (da_cons (de_cmp od_gt (dvb 6) (DE.b de_int)) da_nil))) (da_cons (de_call C__law_due hr (da_cons (dv 9) da_nil)) da_nil)))))) (dss_one (ds_ret de_bl)) dss_nil)))))
      (dss_cons (ds_set (i := 7) sc_law.nd rfl (by first | exact Or.inl rfl | exact Or.inr rfl) (de_call C__law_any hr (da_cons (dv 1) (da_cons (DF.toE (df_lst (da_cons (DF.toE (df_lst (da_cons (dv 5) da_nil))) (da_cons (de_tup (da_cons (dv 5) da_nil)) (da_cons (de_if (dt_cmp (od_eq (hu64 hr)) (DE.b (de_slice (DE.b (de_ix (dvb 4) (DE.b de_int))) (do_some de_int) do_none)) (DE.b (de_tup (da_cons de_non (da_cons de_non (da_cons de_non (da_cons de_non da_nil))))))) (de_mk MK FI hB bi (hr.mono (by omega)) (da_cons (de_slice (dvb 4) do_none (do_some de_int)) da_nil) (hl := ini_len)) de_int) (da_cons de_str (da_cons de_str (da_cons de_str (da_cons de_str (da_cons de_str (da_cons de_str (da_cons de_str (da_cons de_str da_nil))))))))))))) da_nil))))
      (dss_one (ds_if (dt_not (dt_tru (DE.b (de_call C__law_same hr (da_cons (de_call C__law_read hr (da_cons (dv 7) (da_cons de_bl da_nil))) (da_cons (de_call C__law_due hr (da_cons (dv 7) da_nil)) da_nil)))))) (dss_one (ds_ret de_bl)) dss_nil))))))))))
      (dss_cons (ds_for (vs := [3]) (di_seq (DF.toE (df_lst (da_cons de_str (da_cons de_str (da_cons de_str (da_cons de_str (da_cons de_str (da_cons de_str (da_cons de_str da_nil)))))))))) (dg_name (i := 3) sc_law.nd rfl (by first | exact Or.inl rfl | exact Or.inr rfl)) (dss_cons (ds_set (i := 7) sc_law.nd rfl (by first | exact Or.inl rfl | exact Or.inr rfl) (de_op od_add (DE.b (de_op od_mul (DE.b de_str) (DE.b de_int))) (dvb 3)))
      (dss_one (ds_if (dt_not (dt_tru (DE.b (de_call C__law_same hr (da_cons (DF.toE (df_lst (da_cons (de_call C__law_read hr (da_cons (dv 7) (da_cons de_bl da_nil))) (da_cons (de_call C__law_read hr (da_cons (dv 7) (da_cons de_bl da_nil))) da_nil)))) (da_cons (DF.toE (df_lst (da_cons (de_call C__law_due hr (da_cons (dv 7) da_nil)) (da_cons (de_call C__law_due hr (da_cons (dv 7) da_nil)) da_nil)))) da_nil)))))) (dss_one (ds_ret de_bl)) dss_nil))))
      (dss_one (ds_ret de_bl)))), ?_⟩)
  change wSeq _ _ endsLaw [SD.un, SD.val D.bag, SD.un, SD.un, SD.un, SD.un, SD.un, SD.un, SD.un, SD.un, SD.un, SD.un] 0
  have hs := sizeLine_eq
  walk_at "dn"
  refine ⟨by decide, fun i env n => ∃ e0 e2 e3 e4 e5 e6 e7 e8 e9 e10 e11 : SD, env = [e0, .val .bag, e2, e3, e4, e5, e6, e7, e8, e9, e10, e11] ∧ (∀ o, e6 ≠ .own o) ∧ n ≤ i * 1000, ⟨_, _, _, _, _, _, _, _, _, _, _, rfl, (fun o h => nomatch h), Nat.le_refl _⟩, ?_, ?_⟩
  · rintro env n ⟨e0, e2, e3, e4, e5, e6, e7, e8, e9, e10, e11, rfl, _, _⟩
    walk_at "dn"
    refine ⟨by show 7 ≤ _; omega, fun i env n => ∃ e0 e2 e3 e4 e5 e6 e7 e8 e9 e10 e11 : SD, env = [e0, .val .bag, e2, e3, e4, e5, e6, e7, e8, e9, e10, e11], ⟨_, _, _, _, _, _, _, _, _, _, _, rfl⟩, ?_, ?_⟩
    · rintro env n ⟨e0, e2, e3, e4, e5, e6, e7, e8, e9, e10, e11, rfl⟩
      walk_at "dn"
      exact rfl
    · rintro i y env n hy ⟨e0, e2, e3, e4, e5, e6, e7, e8, e9, e10, e11, rfl⟩
      obtain ⟨z, rfl, hz⟩ : ∃ z : List Nat, y = .str (S z) ∧ z.length ≤ 20 := by
        have h2 : lastB y = true := List.all_eq_true.1 (show lastD.all lastB = true by decide +kernel) y (List.mem_of_getElem? hy)
        cases y with
        | str z =>
          have h3 : decide (z.length ≤ 20) = true := h2
          exact ⟨z.cps.toList, by rw [S_tl], of_decide_eq_true h3⟩
        | _ => cases h2
      obtain ⟨t, et, ht⟩ : ∃ t : List Nat, Txt.mul "x b0\n" 200 = S t ∧ t.length = 1000 := by
        refine ⟨(Txt.mul "x b0\n" 200).cps.toList, (S_tl _).symm, ?_⟩
        have := len_mul "x b0\n" 200
        have e5 : (("x b0\n" : Str).length : Int) = 5 := by decide +kernel
        rw [e5] at this
        have e6 : (Txt.mul "x b0\n" 200).length = 1000 := by
          have h9 : ((Txt.mul "x b0\n" 200).length : Int) = 1000 := by rw [this]; decide
          omega
        exact e6
      walk_at "dn"
      rw [et]
      rw [S_cat]
      have lt := S_len t
      have lz := S_len z
      have dm : ReadDom K (.str (S (t ++ z))) := dom_str (by rw [List.length_append]; omega)
      refine ⟨by decide +kernel, by omega, _, _, rfl, dm, _, _, rfl, dm, by show 2 ≤ _; omega, _, rfl, dm, _, rfl, dm, by show 2 ≤ _; omega, same_two (fit_due _) (fit_due _) ?_⟩
      simp only [asSome_some, Bool.not_true, Bool.false_eq_true, if_false]
      exact ⟨_, _, _, _, _, _, _, _, _, _, _, rfl⟩
  rintro i y env n hy ⟨e0, e2, e3, e4, e5, e6, e7, e8, e9, e10, e11, rfl, h6, hn⟩
  obtain ⟨hi, rfl⟩ := rng_int hy
  have hi' : i < 10 := hi
  walk_at "dn"
  refine ⟨fun env m => ∃ row : List D, env = [e0, .val .bag, .val (.int (i : Nat)), e3, .val (.lst row), e5, e6, e7, e8, e9, e10, e11] ∧ 0 < row.length ∧ row.length ≤ 10 ∧ (∀ x ∈ row, NodeS row.length x) ∧ m ≤ n + 70, ?_, ?_⟩
  · walk_at "dn"
    exact ⟨rfl, by omega, fun row n' r0 r1 r2 h1 h2 => ⟨row, rfl, r0, r1, r2, by omega⟩⟩
  rintro env m ⟨row, rfl, r0, r1, r2, hm⟩
  refine ⟨fun env m => ∃ (xs : List Nd) (e6 e8 e10 e11 : SD), env = [e0, .val .bag, .val (.int (i : Nat)), e3, .val (.lst (xs.map ndD)), e5, e6, e7, e8, e9, e10, e11] ∧ (∀ o, e6 ≠ .own o) ∧ 0 < xs.length ∧ xs.length ≤ 201 ∧ (∀ x ∈ xs, NdW x) ∧ (i < 8 → xs.length ≤ 10 ∧ ∀ x ∈ xs, NdB xs.length x) ∧ m ≤ n + 80, ?_, ?_⟩
  · walk_at "dn"
    by_cases h7 : 7 < (i : Int)
    · rw [if_pos (decide_eq_true h7)]
      unfold wAsg
      walk_at "dn"
      refine ⟨by show 7 ≤ _; omega, _, _, rfl, by omega, rfl, by simp, by simp, fun d hd => ?_⟩
      obtain ⟨j, rfl, j0, j1⟩ : ∃ j : Nat, d = .int (j : Nat) ∧ 1 ≤ j ∧ j ≤ 201 := by
        simp only [List.mem_cons, List.not_mem_nil, or_false] at hd
        rcases hd with e | e | e | e | e | e | e <;> exact ⟨_, e, by decide, by decide⟩
      walk_at "dn"
      refine ⟨_, rfl, by omega, by decide, by decide +kernel, fun kid k0 k1 => ?_⟩
      obtain ⟨kid, rfl⟩ : ∃ q : Nat, kid = (q : Int) := ⟨kid.toNat, by omega⟩
      refine ⟨by show 2 ≤ _; omega, rfl, by show 2 ≤ _; omega, _, _, rfl, by omega, rfl, by simp, by simp, fun d hd => ?_⟩
      obtain ⟨c, rfl, hc⟩ : ∃ c : Str, d = .str c ∧ ColOk c := by
        simp only [List.mem_cons, List.not_mem_nil, or_false] at hd
        rcases hd with e | e
        · exact ⟨_, e, .inl rfl⟩
        · exact ⟨_, e, .inr (.inl rfl)⟩
      refine ⟨by cases e6 with | own o => exact absurd rfl (h6 o) | _ => rfl, by omega, lc_draw (fun _ d => ∃ x : Nd, d = ndD x ∧ NdW x) 0 (by rw [rngD_len, Int.toNat_natCast]; omega) ?_ ?_⟩
      · intro ds m2 hdl hdv hm1 hm2
        rw [rngD_len, Int.toNat_natCast] at hdl hm2
        obtain ⟨xs, rfl, hx⟩ := nds_of fun d hd => by
          obtain ⟨q, hq⟩ := List.getElem?_of_mem hd
          exact hdv q d hq
        rw [List.length_map] at hdl
        exact ⟨xs, _, _, _, _, rfl, h6, by omega, by omega, hx, fun h => by omega, by omega⟩
      · intro q y2 hy2 n1 R hn1 hn2 hR
        obtain ⟨hq, rfl⟩ := rng_int hy2
        rw [Int.toNat_natCast] at hq
        walk_at "dn"
        have hv : ∀ o : Option Nat, (∀ z, o = some z → z < 1000) → NdW (c, [none, some kid, none, o]) := fun o ho => ⟨hc, rfl, fun z hz => by
          simp only [List.mem_cons, List.not_mem_nil, or_false] at hz
          rcases hz with e | e | e | e
          · cases e
          · cases e; omega
          · cases e
          · exact ho z e.symm⟩
        by_cases h100 : q < 100
        · rw [if_pos (decide_eq_true (by omega))]
          exact ⟨by show 5 ≤ _; omega, hR _ _ ⟨_, rfl, hv none fun z e => nomatch e⟩ (by omega) (by omega)⟩
        · rw [if_neg (by rw [decide_eq_true_eq]; omega)]
          exact ⟨by show 5 ≤ _; omega, hR _ _ ⟨_, rfl, hv (some q) fun z e => by cases e; omega⟩ (by omega) (by omega)⟩
    · rw [if_neg (by rw [decide_eq_true_eq]; exact h7)]
      obtain ⟨xs, rfl, hx⟩ := nds_of fun d hd => nodeS_nd (r2 d hd)
      rw [List.length_map] at r0 r1 hx
      exact ⟨xs, e6, e8, e10, e11, rfl, h6, r0, by omega, fun x h => ndb_w (hx x h) (by omega), fun _ => ⟨r1, hx⟩, by omega⟩
  clear r0 r1 r2 hm
  rintro env m ⟨xs, e6, e8, e10, e11, rfl, h6, x0, x1, xw, xb, hm⟩
  walk_at "dn"
  refine ⟨xs, rfl, x1, xw, ?_⟩
  have hL := bookT_len xw x1
  have er : i < 8 → readD (.str (S (bookT xs))) = .ok xs := fun h => by
    obtain ⟨h1, h2⟩ := xb h
    exact print_read (fun z => by rw [z] at x0; cases x0) (by omega) h2
  generalize bookT xs = L at hL er
  have dmL : ReadDom K (.str (S L)) := dom_str (by omega)
  dsimp only
  by_cases h8 : i < 8
  case' pos =>
    rw [if_pos (decide_eq_true (by omega))]
    have fL := fit_due (.str (S L))
    refine ⟨_, _, rfl, dmL, _, _, rfl, dmL, ?_⟩
    rw [er h8] at fL ⊢
    refine ⟨by show 2 ≤ _; omega, by show 3 ≤ _; omega, by show 3 ≤ _; omega, by show 2 ≤ _; omega, same_two fL fL ?_⟩
    simp only [asSome_some, Bool.not_true, Bool.false_eq_true, if_false]
  case' neg =>
    rw [if_neg (by rw [decide_eq_true_eq]; omega)]
  all_goals
    refine ⟨_, _, rfl, dmL, _, rfl, dmL, same_one (fit_due _) ?_⟩
    simp only [asSome_some, Bool.not_true, Bool.false_eq_true, if_false]
    refine ⟨by decide, fun q env n3 => ∃ e6 e9 : SD, env = [e0, .val .bag, .val (.int (i : Nat)), e3, .val (.lst (xs.map ndD)), .val (.str (S L)), e6, e7, e8, e9, e10, e11] ∧ (∀ o, e6 ≠ .own o) ∧ n3 ≤ m + q * 11, ⟨_, _, rfl, h6, by omega⟩, ?_, ?_⟩
    case' refine_2 =>
      rintro q y2 env n3 hy2 ⟨e6, e9, rfl, h6', hn3⟩
      obtain ⟨hq, rfl⟩ := rng_int hy2
      have hq4 : q < 4 := hq
      walk_at "dn"
      refine ⟨L, rfl, by omega, by omega, fun l' n4 hl' h1 h2 => ?_⟩
      dsimp only
      refine ⟨_, rfl, by omega, by decide, by decide +kernel, fun v v0 v1 => ?_⟩
      dsimp only
      rw [s_eqI, asBl_bl]
      by_cases hv : (if false = true then !decide (v = 0) else decide (v = 0)) = true
      case' pos =>
        rw [if_pos hv]
        refine ⟨l', rfl, by omega, by omega, fun l2 n5 hl2 h3 h4 => ?_⟩
        have hl5 : l2.length ≤ 20000 := by omega
        have hn5 : n5 ≤ n3 + 11 := by omega
      case' neg =>
        rw [if_neg hv]
        have hl5 : l'.length ≤ 20000 := by omega
        have hn5 : n4 + 1 ≤ n3 + 11 := by omega
      all_goals
        try dsimp only
        have dm := dom_str (K := K) (Nat.le_trans hl5 (by decide))
        refine ⟨_, _, rfl, dm, _, rfl, dm, same_one (fit_due _) ?_⟩
        simp only [asSome_some, Bool.not_true, Bool.false_eq_true, if_false]
        exact ⟨_, _, rfl, (fun o h => nomatch h), by omega⟩
    case' refine_1 =>
      rintro env n3 ⟨e6, e9, rfl, h6', hn3⟩
      rw [rngD_len] at hn3
      have hn4 : n3 ≤ m + 44 := hn3
      walk_at "dn"
      obtain ⟨x0', xr, exs⟩ : ∃ x0' xr, xs = x0' :: xr := by
        cases xs with
        | nil => cases x0
        | cons a r => exact ⟨a, r, rfl⟩
      have hw0 := xw x0' (by rw [exs]; exact List.mem_cons_self)
      rw [show atI (List.map ndD xs) 0 = some (ndD x0') by rw [exs]; exact atI_nat (j := 0) rfl, asSome_some]
      have c1 : cutL (List.map ndD xs) none (some 1) = [ndD x0'] := by
        rw [exs]
        exact cutL_take _ 1
      obtain ⟨c0, ks⟩ := x0'
      have hk4 : ks.length = 4 := hw0.len
      rw [show ndD (c0, ks) = .tup (.str c0 :: ks.map kD) from rfl, s_slT, show cutL (D.str c0 :: ks.map kD) (some 1) none = ks.map kD from cutL_drop _ 1]
      refine ⟨by show 1 ≤ _; omega, by show 1 ≤ _; omega, by show 4 ≤ _; omega, ⟨datas_map (fun o => by cases o <;> rfl) ks, rfl, by show D.deps (ks.map kD) + 1 ≤ 64; have := deps_map (f := kD) (k := 0) (fun o => by cases o <;> exact Nat.le_refl _) ks; omega, by decide⟩, ?_⟩
      dsimp only
      rw [asBl_bl]
      by_cases hq : (if false = true then !(D.tup (ks.map kD)).eqv (.tup [.non, .non, .non, .non]) else (D.tup (ks.map kD)).eqv (.tup [.non, .non, .non, .non])) = true
      case' pos =>
        rw [if_pos hq]
        have ek := eq_nones hk4 hq
        unfold wMk
        walk_at "dn"
        rw [c1]
        refine ⟨_, rfl, ⟨.inl rfl, by show 1 ≤ 100000; decide, fun y hy => by rw [List.mem_singleton.1 hy]; exact ndDom _⟩, ?_⟩
        rw [show resD (.lst [ndD (c0, ks)]) = .made [ndD (c0, ks)] by
          unfold resD
          have e1 : firstBad ((itsD (.lst [ndD (c0, ks)])).length : Nat) (itsD (.lst [ndD (c0, ks)])) 0 = none := first_none fun y hy => by
            rw [List.mem_singleton.1 hy]
            refine (nodeD_nd (m := 1) hw0).trans ?_
            show ks.all (fitK 1) = true
            rw [ek]
            rfl
          rw [e1]
          rfl]
        intro ls h1 h2
        have dB : ReadDom K (.ins C [("_nodes", .lst [ndD (c0, ks)]), ("_lengths", .lst ls)]) := ⟨.inr ⟨C, _, rfl, CP⟩, fun s e => nomatch e⟩
      case' neg =>
        rw [if_neg hq]
        have dB : ReadDom K (.int 0) := ⟨.inl rfl, fun s e => nomatch e⟩
      all_goals
        refine ⟨by show 11 ≤ _; omega, _, ReadDom K, rfl, by omega, by show 11 ≤ 100; decide, fun d hd => menu_dom hd, fun d hd => ?_, fun d hd => ?_⟩
        · simp only [List.mem_cons, List.not_mem_nil, or_false] at hd
          rcases hd with e | e | e | e | e | e | e | e | e | e | e <;> rw [e]
          · exact ⟨.inl rfl, fun s e => nomatch e⟩
          · exact ⟨.inl rfl, fun s e => nomatch e⟩
          · exact dB
          all_goals exact dom_B (by decide +kernel)
        · dsimp only
          refine ⟨_, _, rfl, hd, _, rfl, hd, same_one (fit_due _) ?_⟩
          simp only [asSome_some, Bool.not_true, Bool.false_eq_true, if_false]
          exact ⟨_, _, _, _, _, _, _, _, _, _, _, rfl, h6', by omega⟩
end
end K4

set_option Elab.async false
set_option linter.all false
set_option maxRecDepth 100000
set_option maxHeartbeats 4000000
/-! DvAD: a written dict, from its parts -/
namespace Dv
open PySem PySem.Spec PyProof.Rows L2
theorem kd_mk {K : PySem.W.Frag} {w : World} {a : Addr} {kvs : List (Str × D)} {es : Array DictEntry} {n : Nat} (hl : K.lookup a = some ⟨.type "dict", none, .dict es n, #[]⟩) (hk : PySem.W.KeysLit w.params es.toList) (he : EntsD K es.toList kvs) (lo : (a == sysModules) = false) (nd : (kvs.map (·.1)).Nodup) (good : ∀ p ∈ kvs, GoodS p.1) : KD K w a kvs :=
  ⟨⟨es, n, hl, hk, he⟩, lo, nd, good⟩
theorem ents_int {K : PySem.W.Frag} {k : Str} {t u : Tok} {i : Int} {es : List DictEntry} {ps : List (Str × D)} {e : DictEntry} (ek : e.key = .str k t) (ev : e.val = .int i u) (r : EntsD K es ps) : EntsD K (e :: es) ((k, .int i) :: ps) :=
  ⟨⟨⟨t, ek⟩, .int i, by rw [ev]; exact ⟨u, rfl⟩, fun bg H => .int i⟩, r⟩
end Dv

set_option Elab.async false
set_option linter.all false
set_option maxRecDepth 100000
set_option maxHeartbeats 8000000
/-! the end (made by genend2.py) -/
namespace K4
open PySem PySem.Spec PyProof.Rows L2 Dv Ke
section
variable {P : Program} {w : World} {K : PySem.W.Frag} {mg : Str → Option Value} {base : Heap}
theorem ctor_InvalidText {f C : Addr} {fd : FuncData} (gC : mg "InvalidText" = some (.ref C)) (xc : XCl K C) (iC : PySem.W.findIn K (.ref C) "__init__" = some (some (.ref f))) (tI : PySem.W.typeIn K (.ref f) = some (.type "function")) (F : Fun K "__init__" "InvalidText.__init__" sIniT f fd)
    (att : attB K C ["line", "why"] = true) : CtorOk P w K mg base "InvalidText" C ["line", "why"] := by
  have O : FnOk P w K mg base CX0 1 f fd ["self", "line", "why"] (spCtor K C ["line", "why"]) := ok_iniT F xc (attB_ok att)
  obtain ⟨oc, od, kV, doc, pm, an, cdv, ct, osl, rfl, _, _⟩ := F.ex
  exact ⟨gC, xc, attB_ok att, f, _, ⟨xc, iC, tI⟩, O, fun s us hl => (match us, hl with | [u0, u1, u2], _ => .of_eq rfl), fun s u ws hl => (match ws, hl with | [w0, w1], _ => .of_eq rfl)⟩
theorem ctor_InvalidNode {f C : Addr} {fd : FuncData} (gC : mg "InvalidNode" = some (.ref C)) (xc : XCl K C) (iC : PySem.W.findIn K (.ref C) "__init__" = some (some (.ref f))) (tI : PySem.W.typeIn K (.ref f) = some (.type "function")) (F : Fun K "__init__" "InvalidNode.__init__" sIniN f fd)
    (att : attB K C ["at"] = true) : CtorOk P w K mg base "InvalidNode" C ["at"] := by
  have O : FnOk P w K mg base CX0 1 f fd ["self", "at"] (spCtor K C ["at"]) := ok_iniN F xc (attB_ok att)
  obtain ⟨oc, od, kV, doc, pm, an, cdv, ct, osl, rfl, _, _⟩ := F.ex
  exact ⟨gC, xc, attB_ok att, f, _, ⟨xc, iC, tI⟩, O, fun s us hl => (match us, hl with | [u0, u1], _ => .of_eq rfl), fun s u ws hl => (match ws, hl with | [w0], _ => .of_eq rfl)⟩
theorem ctor_TooMany {f C : Addr} {fd : FuncData} (gC : mg "TooMany" = some (.ref C)) (xc : XCl K C) (iC : PySem.W.findIn K (.ref C) "__init__" = some (some (.ref f))) (tI : PySem.W.typeIn K (.ref f) = some (.type "function")) (F : Fun K "__init__" "TooMany.__init__" sIniM f fd)
    (att : attB K C ["count"] = true) : CtorOk P w K mg base "TooMany" C ["count"] := by
  have O : FnOk P w K mg base CX0 1 f fd ["self", "count"] (spCtor K C ["count"]) := ok_iniM F xc (attB_ok att)
  obtain ⟨oc, od, kV, doc, pm, an, cdv, ct, osl, rfl, _, _⟩ := F.ex
  exact ⟨gC, xc, attB_ok att, f, _, ⟨xc, iC, tI⟩, O, fun s us hl => (match us, hl with | [u0, u1], _ => .of_eq rfl), fun s u ws hl => (match ws, hl with | [w0], _ => .of_eq rfl)⟩
theorem kbn_Book___init__ {f : Addr} {fd : FuncData} (F : Fun K "__init__" "Book.__init__" s_Book___init__ f fd) : KBn K fd ["self", "nodes"] 1 ["nodes"] (fun us ws => us ++ ws) (fun vs zs => vs ++ zs) := by
  obtain ⟨oc, od, kV, doc, pm, an, cdv, ct, osl, rfl, _, _⟩ := F.ex
  exact ⟨fun s us ws _ l1 l2 => (match us, ws, l1, l2 with | [u0], [w0], _, _ => .of_eq rfl), fun r rz => r.append rz⟩
theorem kb0_Book_read {f : Addr} {fd : FuncData} (F : Fun K "read" "Book.read" s_Book_read f fd) : KBn K fd ["text"] 0 ["text"] (fun _ ws => ws) (fun _ zs => zs) := by
  obtain ⟨oc, od, kV, doc, pm, an, cdv, ct, osl, rfl, _, _⟩ := F.ex
  exact ⟨fun s us ws _ l1 l2 => (match us, ws, l1, l2 with | [], [w0], _, _ => .of_eq rfl), fun _ rz => rz⟩
end
theorem all_mk {l : PySem.W.OpenLaw} {w : World} {K : PySem.W.Frag} {h : Heap} {mg : Str → Option Value} {fa : Addr} (X : K.In h) (G : h.Ns mainGlobals mg) (hfa : mg "law" = some (.ref fa))
    {C CN CM CT aP p_Book_read iInvalidText iInvalidNode iTooMany f__law_bag f__law_draw f__law_of f__law_free f__law_placed f__law_grown f__law_shape f__law_net f__law_text f__law_same f_is_color f__is_index_text f_read_node f_is_number f_is_number_in f_is_index f_is_node f_is_list f_parents_of f_word_lengths f_Book___init__ f_Book_read f_Book_nodes f_node_text f_Book_text f__law_read f__law_index f__law_node_of f__law_due f__law_bent f__law_any f_law : Addr} {t_COLORS t_MOST_NODES t__DIGITS : Tok} {r_Book_read : List Value}
    (d_Book : PySem.W.nsIn K mainGlobals "Book" = some (some (.ref C)))
    (d_InvalidNode : PySem.W.nsIn K mainGlobals "InvalidNode" = some (some (.ref CN)))
    (d_TooMany : PySem.W.nsIn K mainGlobals "TooMany" = some (some (.ref CM)))
    (d_InvalidText : PySem.W.nsIn K mainGlobals "InvalidText" = some (some (.ref CT)))
    (d_PLACES : PySem.W.nsIn K mainGlobals "PLACES" = some (some (.ref aP)))
    (kd_PLACES : KD K w aP kv_PLACES)
    (d__law_bag : PySem.W.nsIn K mainGlobals "_law_bag" = some (some (.ref f__law_bag)))
    (d__law_draw : PySem.W.nsIn K mainGlobals "_law_draw" = some (some (.ref f__law_draw)))
    (d__law_of : PySem.W.nsIn K mainGlobals "_law_of" = some (some (.ref f__law_of)))
    (d__law_free : PySem.W.nsIn K mainGlobals "_law_free" = some (some (.ref f__law_free)))
    (d__law_placed : PySem.W.nsIn K mainGlobals "_law_placed" = some (some (.ref f__law_placed)))
    (d__law_grown : PySem.W.nsIn K mainGlobals "_law_grown" = some (some (.ref f__law_grown)))
    (d__law_shape : PySem.W.nsIn K mainGlobals "_law_shape" = some (some (.ref f__law_shape)))
    (d__law_net : PySem.W.nsIn K mainGlobals "_law_net" = some (some (.ref f__law_net)))
    (d__law_text : PySem.W.nsIn K mainGlobals "_law_text" = some (some (.ref f__law_text)))
    (d__law_same : PySem.W.nsIn K mainGlobals "_law_same" = some (some (.ref f__law_same)))
    (d_is_color : PySem.W.nsIn K mainGlobals "is_color" = some (some (.ref f_is_color)))
    (d__is_index_text : PySem.W.nsIn K mainGlobals "_is_index_text" = some (some (.ref f__is_index_text)))
    (d_read_node : PySem.W.nsIn K mainGlobals "read_node" = some (some (.ref f_read_node)))
    (d_is_number : PySem.W.nsIn K mainGlobals "is_number" = some (some (.ref f_is_number)))
    (d_is_number_in : PySem.W.nsIn K mainGlobals "is_number_in" = some (some (.ref f_is_number_in)))
    (d_is_index : PySem.W.nsIn K mainGlobals "is_index" = some (some (.ref f_is_index)))
    (d_is_node : PySem.W.nsIn K mainGlobals "is_node" = some (some (.ref f_is_node)))
    (d_is_list : PySem.W.nsIn K mainGlobals "is_list" = some (some (.ref f_is_list)))
    (d_parents_of : PySem.W.nsIn K mainGlobals "parents_of" = some (some (.ref f_parents_of)))
    (d_word_lengths : PySem.W.nsIn K mainGlobals "word_lengths" = some (some (.ref f_word_lengths)))
    (n_Book___init__ : PySem.W.findIn K (.ref C) "__init__" = some (some (.ref f_Book___init__)))
    (i_Book___init__ : PySem.W.isFn K (.ref f_Book___init__) = true)
    (s0_Book_read : PySem.W.readsIn K C (.type "type") = true)
    (sg_Book_read : PySem.W.specialIn K (.ref C) "__getattribute__" = some (some (.builtin "type.__getattribute__")))
    (s1_Book_read : PySem.W.findCls K (.ref C) (.type "type") "read" = some (.get (.builtin "staticmethod.__get__") (.ref p_Book_read) .none (.ref C)))
    (s2_Book_read : PySem.W.recIn K p_Book_read "staticmethod" = some (.ref f_Book_read :: r_Book_read))
    (n_Book_nodes : PySem.W.findIn K (.ref C) "nodes" = some (some (.ref f_Book_nodes)))
    (i_Book_nodes : PySem.W.isFn K (.ref f_Book_nodes) = true)
    (d_node_text : PySem.W.nsIn K mainGlobals "node_text" = some (some (.ref f_node_text)))
    (n_Book_text : PySem.W.findIn K (.ref C) "text" = some (some (.ref f_Book_text)))
    (i_Book_text : PySem.W.isFn K (.ref f_Book_text) = true)
    (d__law_read : PySem.W.nsIn K mainGlobals "_law_read" = some (some (.ref f__law_read)))
    (d__law_index : PySem.W.nsIn K mainGlobals "_law_index" = some (some (.ref f__law_index)))
    (d__law_node_of : PySem.W.nsIn K mainGlobals "_law_node_of" = some (some (.ref f__law_node_of)))
    (d__law_due : PySem.W.nsIn K mainGlobals "_law_due" = some (some (.ref f__law_due)))
    (d__law_bent : PySem.W.nsIn K mainGlobals "_law_bent" = some (some (.ref f__law_bent)))
    (d__law_any : PySem.W.nsIn K mainGlobals "_law_any" = some (some (.ref f__law_any)))
    (d_law : PySem.W.nsIn K mainGlobals "law" = some (some (.ref f_law)))
    (n_InvalidText : PySem.W.findIn K (.ref CT) "__init__" = some (some (.ref iInvalidText)))
    (t_InvalidText : PySem.W.typeIn K (.ref iInvalidText) = some (.type "function"))
    (e_InvalidText : FunAt K "__init__" "InvalidText.__init__" sIniT iInvalidText)
    (n_InvalidNode : PySem.W.findIn K (.ref CN) "__init__" = some (some (.ref iInvalidNode)))
    (t_InvalidNode : PySem.W.typeIn K (.ref iInvalidNode) = some (.type "function"))
    (e_InvalidNode : FunAt K "__init__" "InvalidNode.__init__" sIniN iInvalidNode)
    (n_TooMany : PySem.W.findIn K (.ref CM) "__init__" = some (some (.ref iTooMany)))
    (t_TooMany : PySem.W.typeIn K (.ref iTooMany) = some (.type "function"))
    (e_TooMany : FunAt K "__init__" "TooMany.__init__" sIniM iTooMany)
    (e__law_bag : FunAt K "_law_bag" "_law_bag" sBag f__law_bag)
    (e__law_draw : FunAt K "_law_draw" "_law_draw" sDraw f__law_draw)
    (e__law_of : FunAt K "_law_of" "_law_of" s__law_of f__law_of)
    (e__law_free : FunAt K "_law_free" "_law_free" s__law_free f__law_free)
    (e__law_placed : FunAt K "_law_placed" "_law_placed" s__law_placed f__law_placed)
    (e__law_grown : FunAt K "_law_grown" "_law_grown" s__law_grown f__law_grown)
    (e__law_shape : FunAt K "_law_shape" "_law_shape" s__law_shape f__law_shape)
    (e__law_net : FunAt K "_law_net" "_law_net" s__law_net f__law_net)
    (e__law_text : FunAt K "_law_text" "_law_text" s__law_text f__law_text)
    (e__law_same : FunAt K "_law_same" "_law_same" s__law_same f__law_same)
    (e_is_color : FunAt K "is_color" "is_color" s_is_color f_is_color)
    (e__is_index_text : FunAt K "_is_index_text" "_is_index_text" s__is_index_text f__is_index_text)
    (e_read_node : FunAt K "read_node" "read_node" s_read_node f_read_node)
    (e_is_number : FunAt K "is_number" "is_number" s_is_number f_is_number)
    (e_is_number_in : FunAt K "is_number_in" "is_number_in" s_is_number_in f_is_number_in)
    (e_is_index : FunAt K "is_index" "is_index" s_is_index f_is_index)
    (e_is_node : FunAt K "is_node" "is_node" s_is_node f_is_node)
    (e_is_list : FunAt K "is_list" "is_list" s_is_list f_is_list)
    (e_parents_of : FunAt K "parents_of" "parents_of" s_parents_of f_parents_of)
    (e_word_lengths : FunAt K "word_lengths" "word_lengths" s_word_lengths f_word_lengths)
    (e_Book___init__ : FunAt K "__init__" "Book.__init__" s_Book___init__ f_Book___init__)
    (e_Book_read : FunAt K "read" "Book.read" s_Book_read f_Book_read)
    (e_Book_nodes : FunAt K "nodes" "Book.nodes" s_Book_nodes f_Book_nodes)
    (e_node_text : FunAt K "node_text" "node_text" s_node_text f_node_text)
    (e_Book_text : FunAt K "text" "Book.text" s_Book_text f_Book_text)
    (e__law_read : FunAt K "_law_read" "_law_read" s_lread f__law_read)
    (e__law_index : FunAt K "_law_index" "_law_index" s__law_index f__law_index)
    (e__law_node_of : FunAt K "_law_node_of" "_law_node_of" s__law_node_of f__law_node_of)
    (e__law_due : FunAt K "_law_due" "_law_due" s__law_due f__law_due)
    (e__law_bent : FunAt K "_law_bent" "_law_bent" s__law_bent f__law_bent)
    (e__law_any : FunAt K "_law_any" "_law_any" s__law_any f__law_any)
    (e_law : FunAt K "law" "law" s_law f_law)
    (z_len : PySem.W.nsIn K mainGlobals "len" = some none)
    (z_isinstance : PySem.W.nsIn K mainGlobals "isinstance" = some none)
    (z_int : PySem.W.nsIn K mainGlobals "int" = some none)
    (z_str : PySem.W.nsIn K mainGlobals "str" = some none)
    (z_list : PySem.W.nsIn K mainGlobals "list" = some none)
    (z_tuple : PySem.W.nsIn K mainGlobals "tuple" = some none)
    (z_range : PySem.W.nsIn K mainGlobals "range" = some none)
    (z_zip : PySem.W.nsIn K mainGlobals "zip" = some none)
    (z_abs : PySem.W.nsIn K mainGlobals "abs" = some none)
    (z_all : PySem.W.nsIn K mainGlobals "all" = some none)
    (z_bool : PySem.W.nsIn K mainGlobals "bool" = some none)
    (z_enumerate : PySem.W.nsIn K mainGlobals "enumerate" = some none)
    (c_COLORS : PySem.W.nsIn K mainGlobals "COLORS" = some (some (.str "xyz" t_COLORS)))
    (c_MOST_NODES : PySem.W.nsIn K mainGlobals "MOST_NODES" = some (some (.int 200 t_MOST_NODES)))
    (c__DIGITS : PySem.W.nsIn K mainGlobals "_DIGITS" = some (some (.str "0123456789" t__DIGITS)))
    (hobj : objB K = true)
    (own_Book : ownB K C = true)
    (att_Book : attB K C ["_nodes", "_lengths"] = true)
    (x_InvalidText : clsB K veT "ValueError.__new__" CT = true)
    (att_InvalidText : attB K CT ["line", "why"] = true)
    (x_InvalidNode : clsB K veT "ValueError.__new__" CN = true)
    (att_InvalidNode : attB K CN ["at"] = true)
    (x_TooMany : clsB K veT "ValueError.__new__" CM = true)
    (att_TooMany : attB K CM ["count"] = true)
    (eTT : PySem.W.exmOne K (.ref CT) (.ref CT) = some true) :
    ∃ fd : FuncData, (∀ (s : Shared) (v : Value), BindsTo s fd ⟨[v], []⟩ [("script", v)]) ∧ ∀ base : Heap, K.In base → base.Ns mainGlobals mg → FnOk l.prog w K mg base CX0 9 fa fd ["script"] (spLaw K) := by
  have e := hfa.symm.trans (PySem.W.mg_of X G d_law)
  cases e
  obtain ⟨g__law_bag, e__law_bag⟩ := e__law_bag
  obtain ⟨g__law_draw, e__law_draw⟩ := e__law_draw
  obtain ⟨g__law_of, e__law_of⟩ := e__law_of
  obtain ⟨g__law_free, e__law_free⟩ := e__law_free
  obtain ⟨g__law_placed, e__law_placed⟩ := e__law_placed
  obtain ⟨g__law_grown, e__law_grown⟩ := e__law_grown
  obtain ⟨g__law_shape, e__law_shape⟩ := e__law_shape
  obtain ⟨g__law_net, e__law_net⟩ := e__law_net
  obtain ⟨g__law_text, e__law_text⟩ := e__law_text
  obtain ⟨g__law_same, e__law_same⟩ := e__law_same
  obtain ⟨g_is_color, e_is_color⟩ := e_is_color
  obtain ⟨g__is_index_text, e__is_index_text⟩ := e__is_index_text
  obtain ⟨g_read_node, e_read_node⟩ := e_read_node
  obtain ⟨g_is_number, e_is_number⟩ := e_is_number
  obtain ⟨g_is_number_in, e_is_number_in⟩ := e_is_number_in
  obtain ⟨g_is_index, e_is_index⟩ := e_is_index
  obtain ⟨g_is_node, e_is_node⟩ := e_is_node
  obtain ⟨g_is_list, e_is_list⟩ := e_is_list
  obtain ⟨g_parents_of, e_parents_of⟩ := e_parents_of
  obtain ⟨g_word_lengths, e_word_lengths⟩ := e_word_lengths
  obtain ⟨g_Book___init__, e_Book___init__⟩ := e_Book___init__
  obtain ⟨g_Book_read, e_Book_read⟩ := e_Book_read
  obtain ⟨g_Book_nodes, e_Book_nodes⟩ := e_Book_nodes
  obtain ⟨g_node_text, e_node_text⟩ := e_node_text
  obtain ⟨g_Book_text, e_Book_text⟩ := e_Book_text
  obtain ⟨g__law_read, e__law_read⟩ := e__law_read
  obtain ⟨g__law_index, e__law_index⟩ := e__law_index
  obtain ⟨g__law_node_of, e__law_node_of⟩ := e__law_node_of
  obtain ⟨g__law_due, e__law_due⟩ := e__law_due
  obtain ⟨g__law_bent, e__law_bent⟩ := e__law_bent
  obtain ⟨g__law_any, e__law_any⟩ := e__law_any
  obtain ⟨g_law, e_law⟩ := e_law
  obtain ⟨g_InvalidText, e_InvalidText⟩ := e_InvalidText
  obtain ⟨g_InvalidNode, e_InvalidNode⟩ := e_InvalidNode
  obtain ⟨g_TooMany, e_TooMany⟩ := e_TooMany
  have gX := e_law.ex
  refine ⟨g_law, fun s v => ?_, fun base _ _ => ?_⟩
  · obtain ⟨oc, od, kV, doc, pm, an, cdv, ct, osl, rfl, _, _⟩ := gX
    exact .of_eq rfl
  · have M : Mg mg := { b_len := PySem.W.mg_none_of X G z_len, b_isinstance := PySem.W.mg_none_of X G z_isinstance, b_int := PySem.W.mg_none_of X G z_int, b_str := PySem.W.mg_none_of X G z_str, b_list := PySem.W.mg_none_of X G z_list, b_tuple := PySem.W.mg_none_of X G z_tuple, b_range := PySem.W.mg_none_of X G z_range, b_zip := PySem.W.mg_none_of X G z_zip, b_abs := PySem.W.mg_none_of X G z_abs, b_all := PySem.W.mg_none_of X G z_all, b_bool := PySem.W.mg_none_of X G z_bool, b_enumerate := PySem.W.mg_none_of X G z_enumerate, c_COLORS := ⟨_, PySem.W.mg_of X G c_COLORS⟩, c_MOST_NODES := ⟨_, PySem.W.mg_of X G c_MOST_NODES⟩, c__DIGITS := ⟨_, PySem.W.mg_of X G c__DIGITS⟩ }
    have h_Book := PySem.W.mg_of X G d_Book
    have h_InvalidNode := PySem.W.mg_of X G d_InvalidNode
    have h_TooMany := PySem.W.mg_of X G d_TooMany
    have h_InvalidText := PySem.W.mg_of X G d_InvalidText
    have h_PLACES := PySem.W.mg_of X G d_PLACES
    have OW_Book := ownB_ok hobj own_Book
    have N_Book__nodes : NoAttr K C "_nodes" := attB_ok att_Book _ (by decide)
    have N_Book__lengths : NoAttr K C "_lengths" := attB_ok att_Book _ (by decide)
    have X_InvalidText := exc_value hobj x_InvalidText
    have O_InvalidText : CtorOk l.prog w K mg base "InvalidText" CT ["line", "why"] := ctor_InvalidText h_InvalidText X_InvalidText.1 n_InvalidText t_InvalidText e_InvalidText att_InvalidText
    have X_InvalidNode := exc_value hobj x_InvalidNode
    have O_InvalidNode : CtorOk l.prog w K mg base "InvalidNode" CN ["at"] := ctor_InvalidNode h_InvalidNode X_InvalidNode.1 n_InvalidNode t_InvalidNode e_InvalidNode att_InvalidNode
    have X_TooMany := exc_value hobj x_TooMany
    have O_TooMany : CtorOk l.prog w K mg base "TooMany" CM ["count"] := ctor_TooMany h_TooMany X_TooMany.1 n_TooMany t_TooMany e_TooMany att_TooMany
    have b__law_bag : Binds K g__law_bag ["script"] [] := e__law_bag.binds fun _ _ _ _ _ _ us hl => match us, hl with | [_], _ => rfl
    have m__law_bag := PySem.W.mg_of X G d__law_bag
    have b__law_draw : Binds K g__law_draw ["bag", "top"] [] := e__law_draw.binds fun _ _ _ _ _ _ us hl => match us, hl with | [_, _], _ => rfl
    have m__law_draw := PySem.W.mg_of X G d__law_draw
    have b__law_of : Binds K g__law_of ["bag", "some"] [] := e__law_of.binds fun _ _ _ _ _ _ us hl => match us, hl with | [_, _], _ => rfl
    have m__law_of := PySem.W.mg_of X G d__law_of
    have b__law_free : Binds K g__law_free ["bag", "hue"] [] := e__law_free.binds fun _ _ _ _ _ _ us hl => match us, hl with | [_, _], _ => rfl
    have m__law_free := PySem.W.mg_of X G d__law_free
    have b__law_placed : Binds K g__law_placed ["bag", "kids"] [] := e__law_placed.binds fun _ _ _ _ _ _ us hl => match us, hl with | [_, _], _ => rfl
    have m__law_placed := PySem.W.mg_of X G d__law_placed
    have b__law_grown : Binds K g__law_grown ["bag", "hue"] [] := e__law_grown.binds fun _ _ _ _ _ _ us hl => match us, hl with | [_, _], _ => rfl
    have m__law_grown := PySem.W.mg_of X G d__law_grown
    have b__law_shape : Binds K g__law_shape ["bag", "hue"] [] := e__law_shape.binds fun _ _ _ _ _ _ us hl => match us, hl with | [_, _], _ => rfl
    have m__law_shape := PySem.W.mg_of X G d__law_shape
    have b__law_net : Binds K g__law_net ["bag"] [] := e__law_net.binds fun _ _ _ _ _ _ us hl => match us, hl with | [_], _ => rfl
    have m__law_net := PySem.W.mg_of X G d__law_net
    have b__law_text : Binds K g__law_text ["net"] [] := e__law_text.binds fun _ _ _ _ _ _ us hl => match us, hl with | [_], _ => rfl
    have m__law_text := PySem.W.mg_of X G d__law_text
    have b__law_same : Binds K g__law_same ["found", "due"] [] := e__law_same.binds fun _ _ _ _ _ _ us hl => match us, hl with | [_, _], _ => rfl
    have m__law_same := PySem.W.mg_of X G d__law_same
    have b_is_color : Binds K g_is_color ["value"] [] := e_is_color.binds fun _ _ _ _ _ _ us hl => match us, hl with | [_], _ => rfl
    have m_is_color := PySem.W.mg_of X G d_is_color
    have b__is_index_text : Binds K g__is_index_text ["text"] [] := e__is_index_text.binds fun _ _ _ _ _ _ us hl => match us, hl with | [_], _ => rfl
    have m__is_index_text := PySem.W.mg_of X G d__is_index_text
    have b_read_node : Binds K g_read_node ["line"] [] := e_read_node.binds fun _ _ _ _ _ _ us hl => match us, hl with | [_], _ => rfl
    have m_read_node := PySem.W.mg_of X G d_read_node
    have b_is_number : Binds K g_is_number ["value"] [] := e_is_number.binds fun _ _ _ _ _ _ us hl => match us, hl with | [_], _ => rfl
    have m_is_number := PySem.W.mg_of X G d_is_number
    have b_is_number_in : Binds K g_is_number_in ["value", "low", "high"] [] := e_is_number_in.binds fun _ _ _ _ _ _ us hl => match us, hl with | [_, _, _], _ => rfl
    have m_is_number_in := PySem.W.mg_of X G d_is_number_in
    have b_is_index : Binds K g_is_index ["value", "many"] [] := e_is_index.binds fun _ _ _ _ _ _ us hl => match us, hl with | [_, _], _ => rfl
    have m_is_index := PySem.W.mg_of X G d_is_index
    have b_is_node : Binds K g_is_node ["value", "many"] [] := e_is_node.binds fun _ _ _ _ _ _ us hl => match us, hl with | [_, _], _ => rfl
    have m_is_node := PySem.W.mg_of X G d_is_node
    have b_is_list : Binds K g_is_list ["value"] [] := e_is_list.binds fun _ _ _ _ _ _ us hl => match us, hl with | [_], _ => rfl
    have m_is_list := PySem.W.mg_of X G d_is_list
    have b_parents_of : Binds K g_parents_of ["net"] [] := e_parents_of.binds fun _ _ _ _ _ _ us hl => match us, hl with | [_], _ => rfl
    have m_parents_of := PySem.W.mg_of X G d_parents_of
    have b_word_lengths : Binds K g_word_lengths ["net"] [] := e_word_lengths.binds fun _ _ _ _ _ _ us hl => match us, hl with | [_], _ => rfl
    have m_word_lengths := PySem.W.mg_of X G d_word_lengths
    have b_Book___init__ : Binds K g_Book___init__ ["self", "nodes"] [] := e_Book___init__.binds fun _ _ _ _ _ _ us hl => match us, hl with | [_, _], _ => rfl
    have b_Book_read : Binds K g_Book_read ["text"] [] := e_Book_read.binds fun _ _ _ _ _ _ us hl => match us, hl with | [_], _ => rfl
    have b_Book_nodes : Binds K g_Book_nodes ["self"] [] := e_Book_nodes.binds fun _ _ _ _ _ _ us hl => match us, hl with | [_], _ => rfl
    have b_node_text : Binds K g_node_text ["node"] [] := e_node_text.binds fun _ _ _ _ _ _ us hl => match us, hl with | [_], _ => rfl
    have m_node_text := PySem.W.mg_of X G d_node_text
    have b_Book_text : Binds K g_Book_text ["self"] [] := e_Book_text.binds fun _ _ _ _ _ _ us hl => match us, hl with | [_], _ => rfl
    have b__law_read : Binds K g__law_read ["v", "named"] [] := e__law_read.binds fun _ _ _ _ _ _ us hl => match us, hl with | [_, _], _ => rfl
    have m__law_read := PySem.W.mg_of X G d__law_read
    have b__law_index : Binds K g__law_index ["part"] [] := e__law_index.binds fun _ _ _ _ _ _ us hl => match us, hl with | [_], _ => rfl
    have m__law_index := PySem.W.mg_of X G d__law_index
    have b__law_node_of : Binds K g__law_node_of ["row"] [] := e__law_node_of.binds fun _ _ _ _ _ _ us hl => match us, hl with | [_], _ => rfl
    have m__law_node_of := PySem.W.mg_of X G d__law_node_of
    have b__law_due : Binds K g__law_due ["v"] [] := e__law_due.binds fun _ _ _ _ _ _ us hl => match us, hl with | [_], _ => rfl
    have m__law_due := PySem.W.mg_of X G d__law_due
    have b__law_bent : Binds K g__law_bent ["bag", "v"] [] := e__law_bent.binds fun _ _ _ _ _ _ us hl => match us, hl with | [_, _], _ => rfl
    have m__law_bent := PySem.W.mg_of X G d__law_bent
    have b__law_any : Binds K g__law_any ["bag", "more"] [] := e__law_any.binds fun _ _ _ _ _ _ us hl => match us, hl with | [_, _], _ => rfl
    have m__law_any := PySem.W.mg_of X G d__law_any
    have o__law_bag : FnOk l.prog w K mg base CX0 1 f__law_bag g__law_bag ["script"] (spBag K) := ok_bag e__law_bag M.b_int M.b_list
    have o__law_draw : FnOk l.prog w K mg base CX0 1 f__law_draw g__law_draw ["bag", "top"] (lSp K sp_draw) := draw_dv (ok_draw e__law_draw M.b_len M.b_int M.b_abs)
    have o__law_of : FnOk l.prog w K mg base CX0 2 f__law_of g__law_of ["bag", "some"] (lSp K sp__law_of) := ok__law_of M e__law_of ⟨⟨_, _, o__law_draw.mono (by decide), m__law_draw, e__law_draw.kp, b__law_draw⟩⟩
    have o__law_free : FnOk l.prog w K mg base CX0 3 f__law_free g__law_free ["bag", "hue"] (lSp K sp__law_free) := ok__law_free M e__law_free ⟨⟨_, _, o__law_draw.mono (by decide), m__law_draw, e__law_draw.kp, b__law_draw⟩⟩ ⟨⟨_, _, o__law_of.mono (by decide), m__law_of, e__law_of.kp, b__law_of⟩⟩
    have o__law_placed : FnOk l.prog w K mg base CX0 2 f__law_placed g__law_placed ["bag", "kids"] (lSp K sp__law_placed) := ok__law_placed M e__law_placed ⟨⟨_, _, o__law_draw.mono (by decide), m__law_draw, e__law_draw.kp, b__law_draw⟩⟩
    have o__law_grown : FnOk l.prog w K mg base CX0 3 f__law_grown g__law_grown ["bag", "hue"] (lSp K sp__law_grown) := ok__law_grown M e__law_grown ⟨⟨_, _, o__law_draw.mono (by decide), m__law_draw, e__law_draw.kp, b__law_draw⟩⟩ ⟨⟨_, _, o__law_of.mono (by decide), m__law_of, e__law_of.kp, b__law_of⟩⟩ ⟨⟨_, _, o__law_placed.mono (by decide), m__law_placed, e__law_placed.kp, b__law_placed⟩⟩
    have o__law_shape : FnOk l.prog w K mg base CX0 3 f__law_shape g__law_shape ["bag", "hue"] (lSp K sp__law_shape) := ok__law_shape M e__law_shape ⟨⟨_, _, o__law_of.mono (by decide), m__law_of, e__law_of.kp, b__law_of⟩⟩ ⟨⟨_, _, o__law_placed.mono (by decide), m__law_placed, e__law_placed.kp, b__law_placed⟩⟩
    have o__law_net : FnOk l.prog w K mg base CX0 4 f__law_net g__law_net ["bag"] (lSp K sp__law_net) := ok__law_net M e__law_net ⟨⟨_, _, o__law_of.mono (by decide), m__law_of, e__law_of.kp, b__law_of⟩⟩ ⟨⟨_, _, o__law_draw.mono (by decide), m__law_draw, e__law_draw.kp, b__law_draw⟩⟩ ⟨⟨_, _, o__law_free.mono (by decide), m__law_free, e__law_free.kp, b__law_free⟩⟩ ⟨⟨_, _, o__law_grown.mono (by decide), m__law_grown, e__law_grown.kp, b__law_grown⟩⟩ ⟨⟨_, _, o__law_shape.mono (by decide), m__law_shape, e__law_shape.kp, b__law_shape⟩⟩
    have o__law_text : FnOk l.prog w K mg base CX0 1 f__law_text g__law_text ["net"] (lSp K sp__law_text) := ok__law_text M e__law_text 
    have o__law_same : FnOk l.prog w K mg base CX0 7 f__law_same g__law_same ["found", "due"] (lSp K (sp_same 6)) := same_all M e__law_same m__law_same b__law_same 6
    have o_is_color : FnOk l.prog w K mg base CX0 1 f_is_color g_is_color ["value"] (lSp K (sp_is_color K)) := ok_is_color M e_is_color 
    have o__is_index_text : FnOk l.prog w K mg base CX0 1 f__is_index_text g__is_index_text ["text"] (lSp K sp__is_index_text) := ok__is_index_text M e__is_index_text 
    have o_read_node : FnOk l.prog w K mg base CX0 2 f_read_node g_read_node ["line"] (lSp K sp_read_node) := ok_read_node M e_read_node kd_PLACES h_PLACES ⟨⟨_, _, o_is_color.mono (by decide), m_is_color, e_is_color.kp, b_is_color⟩⟩ ⟨⟨_, _, o__is_index_text.mono (by decide), m__is_index_text, e__is_index_text.kp, b__is_index_text⟩⟩
    have o_is_number : FnOk l.prog w K mg base CX0 1 f_is_number g_is_number ["value"] (lSp K (sp_is_number K)) := ok_is_number M e_is_number 
    have o_is_number_in : FnOk l.prog w K mg base CX0 2 f_is_number_in g_is_number_in ["value", "low", "high"] (lSp K (sp_is_number_in K)) := ok_is_number_in M e_is_number_in ⟨⟨_, _, o_is_number.mono (by decide), m_is_number, e_is_number.kp, b_is_number⟩⟩
    have o_is_index : FnOk l.prog w K mg base CX0 3 f_is_index g_is_index ["value", "many"] (lSp K (sp_is_index K)) := ok_is_index M e_is_index ⟨⟨_, _, o_is_number_in.mono (by decide), m_is_number_in, e_is_number_in.kp, b_is_number_in⟩⟩
    have o_is_node : FnOk l.prog w K mg base CX0 4 f_is_node g_is_node ["value", "many"] (lSp K (sp_is_node K)) := ok_is_node M e_is_node ⟨⟨_, _, o_is_color.mono (by decide), m_is_color, e_is_color.kp, b_is_color⟩⟩ ⟨⟨_, _, o_is_index.mono (by decide), m_is_index, e_is_index.kp, b_is_index⟩⟩
    have o_is_list : FnOk l.prog w K mg base CX0 1 f_is_list g_is_list ["value"] (lSp K (sp_is_list K)) := ok_is_list M e_is_list 
    have o_parents_of : FnOk l.prog w K mg base CX0 1 f_parents_of g_parents_of ["net"] (lSpF K sp_parents_of) := ok_parents_of M.b_enumerate e_parents_of
    have o_word_lengths : FnOk l.prog w K mg base CX0 2 f_word_lengths g_word_lengths ["net"] (lSpF K sp_word_lengths) := ok_word_lengths M e_word_lengths ⟨⟨_, _, o_parents_of.mono (by decide), m_parents_of, e_parents_of.kp, b_parents_of⟩⟩
    have o_Book___init__ : FnOk l.prog w K mg base (L2.CX l.prog w) 5 f_Book___init__ g_Book___init__ ["self", "nodes"] (lSpI K C (sp_Book___init__ CN CM K)) := ok_Book___init__ (k := 4) (by decide) M e_Book___init__ OW_Book.p.cl N_Book__nodes N_Book__lengths O_InvalidNode O_TooMany ⟨⟨_, _, o_is_list.mono (by decide), m_is_list, e_is_list.kp, b_is_list⟩⟩ ⟨⟨_, _, o_is_node.mono (by decide), m_is_node, e_is_node.kp, b_is_node⟩⟩ ⟨⟨_, _, o_word_lengths.mono (by decide), m_word_lengths, e_word_lengths.kp, b_word_lengths⟩⟩
    have o_Book_read : FnOk l.prog w K mg base (L2.CX l.prog w) 7 f_Book_read g_Book_read ["text"] (lSp K (sp_Book_read C CT K)) := ok_Book_read (k := 6) h_Book ⟨OW_Book.makes, n_Book___init__, i_Book___init__, OW_Book.kp⟩ o_Book___init__ b_Book___init__ (by decide) (by decide) M e_Book_read OW_Book.p.cl O_InvalidText ⟨⟨_, _, o_read_node.mono (by decide), m_read_node, e_read_node.kp, b_read_node⟩⟩ ⟨⟨_, _, o_is_node.mono (by decide), m_is_node, e_is_node.kp, b_is_node⟩⟩
    have o_Book_nodes : FnOk l.prog w K mg base CX0 3 f_Book_nodes g_Book_nodes ["self"] (lSp K (sp_Book_nodes C)) := ok_Book_nodes (k := 2) (by decide) M e_Book_nodes OW_Book.p.cl N_Book__nodes
    have o_node_text : FnOk l.prog w K mg base CX0 1 f_node_text g_node_text ["node"] (lSp K sp_node_text) := ok_node_text M e_node_text kd_PLACES h_PLACES 
    have o_Book_text : FnOk l.prog w K mg base CX0 4 f_Book_text g_Book_text ["self"] (lSp K (sp_Book_text C)) := ok_Book_text (k := 3) (by decide) M e_Book_text OW_Book.p.cl N_Book__nodes ⟨⟨_, _, o_node_text.mono (by decide), m_node_text, e_node_text.kp, b_node_text⟩⟩
    have o__law_read : FnOk l.prog w K mg base CX0 8 f__law_read g__law_read ["v", "named"] (lSp K (sp__law_read K)) := ok__law_read (k := 7) e__law_read h_Book h_InvalidText ⟨s0_Book_read, sg_Book_read, s1_Book_read, ⟨_, s2_Book_read⟩, e_Book_read.kp⟩ o_Book_read b_Book_read (kb0_Book_read e_Book_read) OW_Book.p.cl ⟨n_Book_nodes, i_Book_nodes, e_Book_nodes.kp⟩ (o_Book_nodes.mono (by decide)) b_Book_nodes ⟨n_Book_text, i_Book_text, e_Book_text.kp⟩ (o_Book_text.mono (by decide)) b_Book_text X_InvalidText.2 (attB_ok att_InvalidText _ (by decide)) (attB_ok att_InvalidText _ (by decide)) eTT
    have o__law_index : FnOk l.prog w K mg base CX0 1 f__law_index g__law_index ["part"] (lSp K sp__law_index) := ok__law_index M e__law_index 
    have o__law_node_of : FnOk l.prog w K mg base CX0 2 f__law_node_of g__law_node_of ["row"] (lSp K sp__law_node_of) := ok__law_node_of M e__law_node_of ⟨⟨_, _, o__law_index.mono (by decide), m__law_index, e__law_index.kp, b__law_index⟩⟩
    have o__law_due : FnOk l.prog w K mg base CX0 3 f__law_due g__law_due ["v"] (lSp K (sp__law_due K)) := ok__law_due M e__law_due ⟨⟨_, _, o__law_node_of.mono (by decide), m__law_node_of, e__law_node_of.kp, b__law_node_of⟩⟩
    have o__law_bent : FnOk l.prog w K mg base CX0 3 f__law_bent g__law_bent ["bag", "v"] (lSp K sp__law_bent) := ok__law_bent M e__law_bent ⟨⟨_, _, o__law_draw.mono (by decide), m__law_draw, e__law_draw.kp, b__law_draw⟩⟩ ⟨⟨_, _, o__law_of.mono (by decide), m__law_of, e__law_of.kp, b__law_of⟩⟩
    have o__law_any : FnOk l.prog w K mg base CX0 3 f__law_any g__law_any ["bag", "more"] (lSp K sp__law_any) := ok__law_any M e__law_any ⟨⟨_, _, o__law_of.mono (by decide), m__law_of, e__law_of.kp, b__law_of⟩⟩
    exact ok_law OW_Book.p h_Book ⟨OW_Book.makes, n_Book___init__, i_Book___init__, OW_Book.kp⟩ o_Book___init__ b_Book___init__ (by decide) M e_law (o__law_bag.mono (by decide)) m__law_bag e__law_bag.kp b__law_bag ⟨⟨_, _, o__law_net.mono (by decide), m__law_net, e__law_net.kp, b__law_net⟩⟩ ⟨⟨_, _, o__law_draw.mono (by decide), m__law_draw, e__law_draw.kp, b__law_draw⟩⟩ ⟨⟨_, _, o__law_of.mono (by decide), m__law_of, e__law_of.kp, b__law_of⟩⟩ ⟨⟨_, _, o__law_text.mono (by decide), m__law_text, e__law_text.kp, b__law_text⟩⟩ ⟨⟨_, _, o__law_same.mono (by decide), m__law_same, e__law_same.kp, b__law_same⟩⟩ ⟨⟨_, _, o__law_read.mono (by decide), m__law_read, e__law_read.kp, b__law_read⟩⟩ ⟨⟨_, _, o__law_due.mono (by decide), m__law_due, e__law_due.kp, b__law_due⟩⟩ ⟨⟨_, _, o__law_bent.mono (by decide), m__law_bent, e__law_bent.kp, b__law_bent⟩⟩ ⟨⟨_, _, o__law_any.mono (by decide), m__law_any, e__law_any.kp, b__law_any⟩⟩
end K4

set_option Elab.async false
set_option linter.all false
set_option maxRecDepth 100000
open PySem PySem.W PyProof.Rows
set_option maxHeartbeats 0 in
theorem PySem.Challenge.cw_lexiconlines_k04_whole_texts_of_books_holds : PySem.Challenge.rw_lexiconlines_k04_whole_texts_of_books.Holds := by
  w_on; o_law; k_head; (case hw => w_witness2)
  k_fill
  refine L2.walk_of (l := PySem.Challenge.rw_lexiconlines_k04_whole_texts_of_books) (n := 63) (k := 9) (x := "script") (CX := fun _ => L2.CX0) (sp := fun w => Dv.spLaw _) rfl (by decide) rfl ⟨rfl, by decide, by decide⟩ (fun w h Y => PySem.W.kIn_of Y) ?F (fun _ _ a ns hl _ hS => ⟨a, ns, rfl, hS, hl, fun _ => rfl⟩) (fun _ _ _ _ _ h => h)
  case F =>
    intro w mg fa h KX G hmg
    refine' K4.all_mk KX G hmg ?d_Book ?d_InvalidNode ?d_TooMany ?d_InvalidText ?d_PLACES ?kd_PLACES ?d__law_bag ?d__law_draw ?d__law_of ?d__law_free ?d__law_placed ?d__law_grown ?d__law_shape ?d__law_net ?d__law_text ?d__law_same ?d_is_color ?d__is_index_text ?d_read_node ?d_is_number ?d_is_number_in ?d_is_index ?d_is_node ?d_is_list ?d_parents_of ?d_word_lengths ?n_Book___init__ ?i_Book___init__ ?s0_Book_read ?sg_Book_read ?s1_Book_read ?s2_Book_read ?n_Book_nodes ?i_Book_nodes ?d_node_text ?n_Book_text ?i_Book_text ?d__law_read ?d__law_index ?d__law_node_of ?d__law_due ?d__law_bent ?d__law_any ?d_law ?n_InvalidText ?t_InvalidText ?e_InvalidText ?n_InvalidNode ?t_InvalidNode ?e_InvalidNode ?n_TooMany ?t_TooMany ?e_TooMany ?e__law_bag ?e__law_draw ?e__law_of ?e__law_free ?e__law_placed ?e__law_grown ?e__law_shape ?e__law_net ?e__law_text ?e__law_same ?e_is_color ?e__is_index_text ?e_read_node ?e_is_number ?e_is_number_in ?e_is_index ?e_is_node ?e_is_list ?e_parents_of ?e_word_lengths ?e_Book___init__ ?e_Book_read ?e_Book_nodes ?e_node_text ?e_Book_text ?e__law_read ?e__law_index ?e__law_node_of ?e__law_due ?e__law_bent ?e__law_any ?e_law ?z_len ?z_isinstance ?z_int ?z_str ?z_list ?z_tuple ?z_range ?z_zip ?z_abs ?z_all ?z_bool ?z_enumerate ?c_COLORS ?c_MOST_NODES ?c__DIGITS ?hobj ?own_Book ?att_Book ?x_InvalidText ?att_InvalidText ?x_InvalidNode ?att_InvalidNode ?x_TooMany ?att_TooMany ?eTT
    (case d_Book => k_is)
    (case d_InvalidNode => k_is)
    (case d_TooMany => k_is)
    (case d_InvalidText => k_is)
    (case d_PLACES => k_is)
    (case kd_PLACES => (refine' Dv.kd_mk ?kl ?kk ?ke (by rfl) (by decide +kernel) K4.good_places; (case kl => k_is); (case kk => exact ⟨⟨_, _, rfl, rfl⟩, ⟨_, _, rfl, rfl⟩, ⟨_, _, rfl, rfl⟩, ⟨_, _, rfl, rfl⟩, trivial⟩); (case ke => exact Dv.ents_int rfl rfl (Dv.ents_int rfl rfl (Dv.ents_int rfl rfl (Dv.ents_int rfl rfl trivial))))))
    (case d__law_bag => k_is)
    (case d__law_draw => k_is)
    (case d__law_of => k_is)
    (case d__law_free => k_is)
    (case d__law_placed => k_is)
    (case d__law_grown => k_is)
    (case d__law_shape => k_is)
    (case d__law_net => k_is)
    (case d__law_text => k_is)
    (case d__law_same => k_is)
    (case d_is_color => k_is)
    (case d__is_index_text => k_is)
    (case d_read_node => k_is)
    (case d_is_number => k_is)
    (case d_is_number_in => k_is)
    (case d_is_index => k_is)
    (case d_is_node => k_is)
    (case d_is_list => k_is)
    (case d_parents_of => k_is)
    (case d_word_lengths => k_is)
    (case n_Book___init__ => k_is)
    (case i_Book___init__ => k_is)
    (case s0_Book_read => kernel_rfl)
    (case sg_Book_read => k_is)
    (case s1_Book_read => k_is)
    (case s2_Book_read => k_is)
    (case n_Book_nodes => k_is)
    (case i_Book_nodes => k_is)
    (case d_node_text => k_is)
    (case n_Book_text => k_is)
    (case i_Book_text => k_is)
    (case d__law_read => k_is)
    (case d__law_index => k_is)
    (case d__law_node_of => k_is)
    (case d__law_due => k_is)
    (case d__law_bent => k_is)
    (case d__law_any => k_is)
    (case d_law => k_is)
    (case n_InvalidText => k_is)
    (case t_InvalidText => k_is)
    (case e_InvalidText => (refine' Dv.funAt_mk ?ml ?mc ?mk; (case ml => k_is); (case mc => k_is); (case mk => k_is)))
    (case n_InvalidNode => k_is)
    (case t_InvalidNode => k_is)
    (case e_InvalidNode => (refine' Dv.funAt_mk ?ml ?mc ?mk; (case ml => k_is); (case mc => k_is); (case mk => k_is)))
    (case n_TooMany => k_is)
    (case t_TooMany => k_is)
    (case e_TooMany => (refine' Dv.funAt_mk ?ml ?mc ?mk; (case ml => k_is); (case mc => k_is); (case mk => k_is)))
    (case e__law_bag => (refine' Dv.funAt_mk ?ml ?mc ?mk; (case ml => k_is); (case mc => k_is); (case mk => k_is)))
    (case e__law_draw => (refine' Dv.funAt_mk ?ml ?mc ?mk; (case ml => k_is); (case mc => k_is); (case mk => k_is)))
    (case e__law_of => (refine' Dv.funAt_mk ?ml ?mc ?mk; (case ml => k_is); (case mc => k_is); (case mk => k_is)))
    (case e__law_free => (refine' Dv.funAt_mk ?ml ?mc ?mk; (case ml => k_is); (case mc => k_is); (case mk => k_is)))
    (case e__law_placed => (refine' Dv.funAt_mk ?ml ?mc ?mk; (case ml => k_is); (case mc => k_is); (case mk => k_is)))
    (case e__law_grown => (refine' Dv.funAt_mk ?ml ?mc ?mk; (case ml => k_is); (case mc => k_is); (case mk => k_is)))
    (case e__law_shape => (refine' Dv.funAt_mk ?ml ?mc ?mk; (case ml => k_is); (case mc => k_is); (case mk => k_is)))
    (case e__law_net => (refine' Dv.funAt_mk ?ml ?mc ?mk; (case ml => k_is); (case mc => k_is); (case mk => k_is)))
    (case e__law_text => (refine' Dv.funAt_mk ?ml ?mc ?mk; (case ml => k_is); (case mc => k_is); (case mk => k_is)))
    (case e__law_same => (refine' Dv.funAt_mk ?ml ?mc ?mk; (case ml => k_is); (case mc => k_is); (case mk => k_is)))
    (case e_is_color => (refine' Dv.funAt_mk ?ml ?mc ?mk; (case ml => k_is); (case mc => k_is); (case mk => k_is)))
    (case e__is_index_text => (refine' Dv.funAt_mk ?ml ?mc ?mk; (case ml => k_is); (case mc => k_is); (case mk => k_is)))
    (case e_read_node => (refine' Dv.funAt_mk ?ml ?mc ?mk; (case ml => k_is); (case mc => k_is); (case mk => k_is)))
    (case e_is_number => (refine' Dv.funAt_mk ?ml ?mc ?mk; (case ml => k_is); (case mc => k_is); (case mk => k_is)))
    (case e_is_number_in => (refine' Dv.funAt_mk ?ml ?mc ?mk; (case ml => k_is); (case mc => k_is); (case mk => k_is)))
    (case e_is_index => (refine' Dv.funAt_mk ?ml ?mc ?mk; (case ml => k_is); (case mc => k_is); (case mk => k_is)))
    (case e_is_node => (refine' Dv.funAt_mk ?ml ?mc ?mk; (case ml => k_is); (case mc => k_is); (case mk => k_is)))
    (case e_is_list => (refine' Dv.funAt_mk ?ml ?mc ?mk; (case ml => k_is); (case mc => k_is); (case mk => k_is)))
    (case e_parents_of => (refine' Dv.funAt_mk ?ml ?mc ?mk; (case ml => k_is); (case mc => k_is); (case mk => k_is)))
    (case e_word_lengths => (refine' Dv.funAt_mk ?ml ?mc ?mk; (case ml => k_is); (case mc => k_is); (case mk => k_is)))
    (case e_Book___init__ => (refine' Dv.funAt_mk ?ml ?mc ?mk; (case ml => k_is); (case mc => k_is); (case mk => k_is)))
    (case e_Book_read => (refine' Dv.funAt_mk ?ml ?mc ?mk; (case ml => k_is); (case mc => k_is); (case mk => k_is)))
    (case e_Book_nodes => (refine' Dv.funAt_mk ?ml ?mc ?mk; (case ml => k_is); (case mc => k_is); (case mk => k_is)))
    (case e_node_text => (refine' Dv.funAt_mk ?ml ?mc ?mk; (case ml => k_is); (case mc => k_is); (case mk => k_is)))
    (case e_Book_text => (refine' Dv.funAt_mk ?ml ?mc ?mk; (case ml => k_is); (case mc => k_is); (case mk => k_is)))
    (case e__law_read => (refine' Dv.funAt_mk ?ml ?mc ?mk; (case ml => k_is); (case mc => k_is); (case mk => k_is)))
    (case e__law_index => (refine' Dv.funAt_mk ?ml ?mc ?mk; (case ml => k_is); (case mc => k_is); (case mk => k_is)))
    (case e__law_node_of => (refine' Dv.funAt_mk ?ml ?mc ?mk; (case ml => k_is); (case mc => k_is); (case mk => k_is)))
    (case e__law_due => (refine' Dv.funAt_mk ?ml ?mc ?mk; (case ml => k_is); (case mc => k_is); (case mk => k_is)))
    (case e__law_bent => (refine' Dv.funAt_mk ?ml ?mc ?mk; (case ml => k_is); (case mc => k_is); (case mk => k_is)))
    (case e__law_any => (refine' Dv.funAt_mk ?ml ?mc ?mk; (case ml => k_is); (case mc => k_is); (case mk => k_is)))
    (case e_law => (refine' Dv.funAt_mk ?ml ?mc ?mk; (case ml => k_is); (case mc => k_is); (case mk => k_is)))
    (case z_len => k_is)
    (case z_isinstance => k_is)
    (case z_int => k_is)
    (case z_str => k_is)
    (case z_list => k_is)
    (case z_tuple => k_is)
    (case z_range => k_is)
    (case z_zip => k_is)
    (case z_abs => k_is)
    (case z_all => k_is)
    (case z_bool => k_is)
    (case z_enumerate => k_is)
    (case c_COLORS => k_is)
    (case c_MOST_NODES => k_is)
    (case c__DIGITS => k_is)
    (case hobj => kernel_rfl)
    (case own_Book => kernel_rfl)
    (case att_Book => kernel_rfl)
    (case x_InvalidText => kernel_rfl)
    (case att_InvalidText => kernel_rfl)
    (case x_InvalidNode => kernel_rfl)
    (case att_InvalidNode => kernel_rfl)
    (case x_TooMany => kernel_rfl)
    (case att_TooMany => kernel_rfl)
    (case eTT => kernel_rfl)
