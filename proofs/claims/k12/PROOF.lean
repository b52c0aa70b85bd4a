import PyProof.Rows.All
import Wide.All
import OpenK.AllK
import Wide.FinOn
import PySem.Challenge.RW_lexiconlines_k12_whole_far_words_compare
import HandS.ForMost
import HandS.Zip
import HandS.IsInst
import HandS.Walk
import HandS.ExcInit
import HandS.ExcIs
import HandS.More
import HandS.Wide
import HandS.Codes
import HandS.Style
import HandS.Flt
import PyProof.Rows.StrMul
import PyProof.SliceStr2
import HandS.Sort
import HandS.StrMore
import PyProof.PureStr
import HandS.Text
import KE.OsRunLaw
set_option Elab.async false
set_option linter.all false
set_option maxRecDepth 100000
set_option maxHeartbeats 4000000
/-! exceptions as values: their class asked -/
namespace Ke
open PySem PySem.Spec PySem.W PySem.Calls PyProof.Rows
section
variable {prog : Program} {w : World} {A : Around} {E : Value → Shared → Prop} {s : Shared} {K : Frag} {x D : Addr} {ox : Obj} {od : Option Obj}
theorem bindsClass {C : Addr} {nm : Str} {a g : Value} (h1 : (clsIn K C).isSome = true) (h2 : findIn K (.ref C) nm = some (some a)) (h3 : specialIn K a "__get__" = some (some g)) (h4 : takesIn K a = some true) : findObj K C od nm = some (.bind g a) := by
  cases e : clsIn K C with
  | none => rw [e] at h1; cases h1
  | some cd =>
    unfold findObj
    rw [e, Option.bind_some, h2, Option.bind_some]
    simp [h3, h4]
theorem askClass {Q : Option Value → Shared → Prop} (c : L2.ExcC K D) (Y : K.In s.heap) (I : InstAt s.heap x ox D od) (q : Q (some (.ref D)) { s with toks := s.toks + 1 }) :
    wpAny (model prog w) A (getAttr? (.ref x) "__class__") Q E s := by
  have hf : findObj K D od "__class__" = some (.bind (.builtin "getset_descriptor.__get__") (.builtin "object.__class__")) :=
    bindsClass (by obtain ⟨cd, hc, _⟩ := any_some c.hd; rw [hc]; rfl) c.ha c.hn c.ht
  obtain ⟨hp, g, d, t, os⟩ := s
  have y0 := I.type (M := model prog w)
  have y1 := looks_findIn (M := model prog w) Y c.hg
  have y2 := looks_findIn (M := model prog w) Y c.hk
  have y3 := looks_find (M := model prog w) Y I hf
  have sub : Looks (model prog w) hp (isInstance (.ref x) (.type "BaseException")) true := y0.andThen (looks_subIn Y c.hs)
  have n0 : (false && onTheHeap (Value.builtin "BaseException.__getattribute__")) = false := rfl
  have n2 : (Value.builtin "BaseException.__getattribute__" == Value.builtin "object.__getattribute__") = false := by decide +kernel
  have n1 : (onTheHeap (Value.ref D) && Value.builtin "BaseException.__getattribute__" == Value.builtin "object.__getattribute__") = false := by rw [n2]; rfl
  unfold getAttr? getAttrBy? getAttrBy
  refine wpAny_bind (wpAny_mkText (wpAny_bind (wpAny_attempt (wpAny_holding (wpAny_bind (y0.at (wpAny_bind (y1.at ?_))))))))
  show wpAny _ _ (if (onTheHeap (Value.ref D) && Value.builtin "BaseException.__getattribute__" == Value.builtin "object.__getattribute__") = true then _ else _) _ _ _
  rw [n1, if_neg Bool.false_ne_true]
  unfold getAttrByItsOwn hookBefore
  refine wpAny_bind ?_; rw [if_pos (show onTheHeap (Value.ref D) = true from rfl)]
  refine y2.at (wpAny_bind (wpAny_attempt (wpAny_holding ?_)))
  unfold callGetattribute; rw [n0, if_neg Bool.false_ne_true]
  unfold boundAndCalled; rw [PySem.F.excAttr_ValueError.ga.bind (.ref x)]
  refine wpAny_bind (wpAny_pure ?_)
  show wpAny _ _ (call (.builtin "BaseException.__getattribute__") [.ref x, .str "__class__" t]) _ _ _
  refine wpAny_call (codeAny_call_builtin PySem.F.excAttr_ValueError.ga.plain PySem.F.entry_bexc_ga (@check_slot (model prog w) _ _ ⟨hp, g, d, t + 1, os⟩ "BaseException.__getattribute__" "BaseException" "__getattribute__" (.ref x) [.str "__class__" t] [] _ (by decide +kernel) (by decide +kernel) sub (PySem.F.args_bexc_ga (.ref x) (.str "__class__" t)) ?_))
  unfold Builtin.«object.__getattribute__»
  refine wpAny_bind (wpAny_of_eq (a := ((Value.ref x : Value), [Value.str "__class__" t])) (by first | rfl | (simp only [slotArgs]; rfl)) (wpAny_bind (wpAny_pure (wpAny_bind (y0.at (wpAny_bind (y3.at ?_)))))))
  show wpAny _ _ (holding [Value.builtin "object.__class__"] (call (.builtin "getset_descriptor.__get__") [.builtin "object.__class__", .ref x, .ref D]) >>= ret) _ _ _
  refine wpAny_bind (wpAny_holding (wpAny_call (class_get (s := ⟨hp, g, d, t + 1, os⟩) (ox := ox) (od := od) Y I c.hm (wpAny_pure ?_))))
  show wpAny _ _ (handedOut (.ref D)) _ _ _
  rw [handedOut_of (v := .ref D) rfl]
  first | exact wpAny_pure (wpAny_pure q) | exact wpAny_pure q | exact wpAny_pure (wpAny_bind (wpAny_pure (wpAny_pure q)))
theorem kitE (c : L2.ExcC K D) : KitX K (.ref x) (.ref D) (fun h => InstAt h x ox D od) where
  ty := fun _ _ _ I => I.type
  it := fun _ _ Y _ => by
    obtain ⟨cd, e, _⟩ := any_some c.hd
    unfold clsIn at e; split at e
    · rename_i _ _ _ _ ho
      intro _ _ _ _ k q; unfold isType loadHead; exact wpAny_bind (wpAny_loadPart (k _ _ (Y _ _ ho)) (wpAny_pure q))
    · cases e
  ne := (handS_kitx_exc (x := x) (ox := ox) c.hg c.hk c.hs c.hd c.ha c.hn c.ht c.hm).ne
  ca := fun Y I k => askClass c Y I k
end

open L2
/-- the type of a value, an exception too -/
inductive TyE (K : PySem.W.Frag) (H : Hp) : V → Value → Prop where
  | base {x : V} {t : Value} (h : TyX K H x t) : TyE K H x t
  | exc0 {a C : Addr} (e : H a = some (exo a C none)) (c : ExcC K C) : TyE K H (.ref a) (.ref C)
  | excD {a C dx : Addr} {fs : List (Str × V)} (e : H a = some (exo a C (some dx))) (e2 : H dx = some (exd dx fs)) (c : ExcC K C) : TyE K H (.ref a) (.ref C)
theorem TyE.kit {X : Cx} {pins : List (Addr × Obj)} {σ : L2.St} {H : Hp} {s : Shared} {x : V} {u t : Value} (I : Inv X pins σ H s) (rx : RelV x u) (ty : TyE X.K H x t) : ∃ P : Heap → Prop, PySem.W.KitX X.K u t P ∧ P s.heap ∧ u ≠ .builtin "__main__.__loader__#opaque" := by
  cases ty with
  | base h => exact kit_of I rx h
  | @exc0 a C e c =>
    cases (show u = Value.ref a from rx)
    obtain ⟨t1, ho⟩ := exo_at I.hok e
    exact ⟨_, kitE (od := none) c, ⟨ho, rfl, rfl, trivial⟩, fun z => nomatch z⟩
  | @excD a C dx fs e e2 c =>
    cases (show u = Value.ref a from rx)
    obtain ⟨t1, ho⟩ := exo_at I.hok e
    obtain ⟨mA, ⟨o, es, ep, hd, r⟩, _⟩ := exd_at I.hok e2
    exact ⟨_, kitE (od := some o) c, ⟨ho, rfl, rfl, hd⟩, fun z => nomatch z⟩
/-- isinstance(x, c) -/
def rIs1 (K : PySem.W.Frag) : List V → Hp → VK → Prop := fun xs H Q => ∃ (x c : V) (t u : Value) (b : Bool), xs = [x, c] ∧ ClsV c u ∧ TyE K H x t ∧ PySem.W.kitOne K t u = some b ∧ Q (.bl b) H
/-- isinstance(x, (c, ..)) -/
def rIsN (K : PySem.W.Frag) : List V → Hp → VK → Prop := fun xs H Q => ∃ (x : V) (tp : Addr) (cs : List V) (t : Value) (us : List Value) (b : Bool), xs = [x, .ref tp] ∧ H tp = some (.tup cs) ∧ Paired ClsV cs us ∧ TyE K H x t ∧ PySem.W.kitAny K t us = some b ∧ Q (.bl b) H
theorem call_is1 {X : Cx} : CallR X (.builtin "isinstance") (rIs1 X.K) := fun pins s σ H xs us Q I r h => by
  obtain ⟨x, c, t, u, b, rfl, k, ty, e, q⟩ := h
  obtain ⟨u1, u2, rfl, r1, r2⟩ := vals2 r
  cases k.eq r2
  obtain ⟨_, Z, p, hx⟩ := ty.kit I r1
  exact PySem.W.kia_one Z I.kIn p e hx fun _ => ⟨.bl b, H, I.tok _, rfl, q⟩
theorem call_isN {X : Cx} : CallR X (.builtin "isinstance") (rIsN X.K) := fun pins s σ H xs us Q I r h => by
  obtain ⟨x, tp, cs, t, ws, b, rfl, hT, k, ty, e, q⟩ := h
  obtain ⟨u1, u2, rfl, r1, r2⟩ := vals2 r
  cases (show u2 = Value.ref tp from r2)
  obtain ⟨_, Z, p, hx⟩ := ty.kit I r1
  obtain ⟨_, its, rv, ⟨oc, od, dt, sl⟩, h1, h2, n, h3⟩ := (show ObjOk X.prog X.w H s.heap tp (.tup cs) from I.hok tp _ hT)
  cases ClsV.all k rv
  cases h2
  cases h3
  exact PySem.W.kia_tup Z I.kIn p h1 e hx fun _ => ⟨.bl b, H, I.tok _, rfl, q⟩

section
variable {prog : Program} {w : World} {A : Around} {E : Value → Shared → Prop} {s : Shared} {K : PySem.W.Frag} {x C : Addr} {ox : Obj} {od : Option Obj}
/-- an object beside itself -/
theorem self_eq {Q : Value → Shared → Prop} (hu : A.units < cLine) (Y : K.In s.heap) (I : PySem.W.InstAt s.heap x ox C od) (hm : PySem.W.mroIn K C (.type "object") = some true) (hs : PySem.W.findIn K (.ref C) "__eq__" = some (some (.builtin "object.__eq__"))) (q : Q (.bool true) s) :
    wpAny (model prog w) A (compareOp .Eq (.ref x) (.ref x)) Q E s := by
  show wpAny (model prog w) A (richCompare .Eq (.ref x) (.ref x)) Q E s
  have one : wpAny (model prog w) A (tryCompare (.ref x) "__eq__" (.ref x)) (fun r s' => r = some (.bool true) ∧ s' = s) E s := by
    unfold tryCompare
    refine wpAny_bind (HN.ifBound_objEq Y I hs (wpAny_call (codeAny_call_builtin F.cmp_object.eq.plain F.cmpEntry_eq (PySem.W.check_slot F.cmpKind_eq F.cmpSplit_eq (I.type.andThen (PySem.W.looks_mroIn Y hm)) (F.cmpArgs_eq _ _) (objEq_entry_same (wpAny_pure ⟨rfl, rfl⟩))))))
  simp only [richCompare, cmpInfo_Eq, oneThing_ref]
  refine wpAny_holding (wpAny_bind (wpAny_cRoomFor hu ?_))
  refine wpAny_bind (I.type.here (wpAny_bind (I.type.here ?_)))
  rw [if_neg (by simp)]
  refine wpAny_bind (wpAny_pure ?_)
  simp only [Bool.false_eq_true, if_false, Bool.not_false, if_true]
  refine wpAny_bind (m := tryCompare (.ref x) _ (.ref x)) (wpAny_mono one (fun r s1 z => ?_) fun _ _ e => e)
  obtain ⟨rfl, rfl⟩ := z
  exact wpAny_pure q
end
/-- what a class says, whose objects are equal to themselves alone -/
structure EqSelf (K : PySem.W.Frag) (C : Addr) : Prop where
  ex : ExcC K C
  eq : PySem.W.findIn K (.ref C) "__eq__" = some (some (.builtin "object.__eq__"))
def rSelf (K : PySem.W.Frag) : R2 := fun x y H Q => (scal x y = true ∧ Q (.bl (decide (x = y))) H) ∨ ∃ a C : Addr, x = .ref a ∧ y = .ref a ∧ H a = some (exo a C none) ∧ EqSelf K C ∧ Q (.bl true) H
theorem op_self {X : Cx} (hu : X.A.units < cLine) : OpR X (compareOp .Eq) (rSelf X.K) := fun pins s σ H x y v u Q I rx ry h => by
  rcases h with h | ⟨a, C, rfl, rfl, e, c, q⟩
  · exact op_eq pins s σ H x y v u Q I rx ry h
  · cases (show v = Value.ref a from rx)
    cases (show u = Value.ref a from ry)
    obtain ⟨t1, ho⟩ := exo_at I.hok e
    exact self_eq (od := none) hu I.kIn ⟨ho, rfl, rfl, trivial⟩ c.ex.hm c.eq ⟨.bl true, H, I, rfl, q⟩
end Ke

set_option Elab.async false
set_option linter.all false
set_option maxRecDepth 100000
set_option maxHeartbeats 4000000
/-! the bag, a draw -/
namespace Kc
open PySem PySem.Spec PyProof.Rows L2
def topS (i : Nat) : Stmt := PySem.Challenge.pw_lexiconlines_k12_whole_far_words_compare.main.body.getD i (.Pass ⟨0, 0, 0, 0⟩)
abbrev sBag : Stmt := topS 23
abbrev sDraw : Stmt := topS 24
abbrev sOf : Stmt := topS 25
abbrev sSame : Stmt := topS 26
theorem scBag : FnScope ["script", "mixed", "cell"] ["script"] (defScope sBag) := ⟨rfl, rfl, rfl, by decide +kernel, rfl, by decide +kernel, by decide +kernel⟩
theorem scDraw : FnScope ["bag", "top", "cell", "digit", "seed"] ["bag", "top"] (defScope sDraw) := ⟨rfl, rfl, rfl, by decide +kernel, rfl, by decide +kernel, by decide +kernel⟩
theorem scOf : FnScope ["bag", "some"] ["bag", "some"] (defScope sOf) := ⟨rfl, rfl, rfl, by decide +kernel, rfl, by decide +kernel, by decide +kernel⟩
/-- what stands in a bag -/
structure BagOk (ns : List Int) (pos rest mixed cnt : Int) (n : Nat) : Prop where
  len : ns.length ≤ 63
  p0 : 0 ≤ pos
  r0 : 0 ≤ rest
  m0 : 0 ≤ mixed
  m1 : mixed < 2147483587
  c0 : 0 ≤ cnt
  c1 : cnt ≤ n
def bagL (l : Addr) (pos rest mixed cnt : Int) : HO := .lst [.ref l, .int pos, .int rest, .int mixed, .int cnt]
def BagAt (H : Hp) (b l : Addr) (n : Nat) : Prop := ∃ (ns : List Int) (pos rest mixed cnt : Int), H b = some (bagL l pos rest mixed cnt) ∧ H l = some (.lst (ns.map V.int)) ∧ BagOk ns pos rest mixed cnt n
theorem bag_ne {H : Hp} {b l : Addr} {p r m c : Int} {ns : List Int} (h : H b = some (bagL l p r m c)) (h2 : H l = some (.lst (ns.map V.int))) : l ≠ b := fun e => by
  subst e
  rw [h] at h2
  have z := HO.lst.inj (Option.some.inj h2)
  cases ns with
  | nil => cases z
  | cons x r => cases z
def tops : Nat := 8000
def spDraw : Sp := fun vs H Q _ => ∃ (b l : Addr) (n : Nat) (top : Int), vs = [.ref b, .int top] ∧ BagAt H b l n ∧ n < 2 ^ 40 ∧ 0 < top ∧ top.natAbs < 2 ^ tops ∧
  ∀ o k, BagAt (upd H b o) b l (n + 1) → (∃ xs, o = .lst xs) → 0 ≤ k → k < top → Q (.int k) (upd H b o)
section
variable {P : Program} {w : World} {K : PySem.W.Frag} {mg : Str → Option Value} {base : Heap}
theorem ok_draw {f : Addr} {fd : FuncData} {k : Nat} (F : Fun K "_law_draw" "_law_draw" sDraw f fd) (ml : mg "len" = none) (mi : mg "int" = none) (ma : mg "abs" = none) : FnOk P w K mg base CX0 (k + 1) f fd ["bag", "top"] spDraw := by
  refine F.ok scDraw (fun vs H Q E h => ?_) (fun cdv A outer s H vs Q E hr h => ?_)
  · obtain ⟨a, l, n, top, rfl, _⟩ := h
    rfl
  · obtain ⟨b, l, n, top, rfl, ⟨ns, pos, rest, mixed, cnt, hb, hl, ok⟩, hn, ht, htb, q⟩ := h
    refine ⟨_, pss_cons (ps_asg (pe_op op_add (pe_ix ix_list (pv 0) pe_int (fun _ _ => rfl)) pe_int) (pg_sub (pv 0) pe_int set_list))
      (C8.pss_cut (ps_if (PW.pt (pw_and (pt_cmpR op_eq (pe_ix ix_list (pv 0) pe_int (fun _ _ => rfl)) pe_int (nomark _)) (pw_and1 (pt_cmpR op_lt (pe_ix ix_list (pv 0) pe_int (fun _ _ => rfl)) (pe_callB call_len_seq (by rfl) ml PySem.boot_len (pa_cons (pe_ix ix_list (pv 0) pe_int (fun _ _ => rfl)) pa_nil)) (nomark _)))))
          (pss_cons (ps_set (i := 2) scDraw.nd rfl (Or.inl rfl) (pe_callTy call_int1 (by rfl) mi (by decide +kernel) (pa_cons (pe_ix ix_list (pe_ix ix_list (pv 0) pe_int (fun _ _ => rfl)) (pe_ix ix_list (pv 0) pe_int (fun _ _ => rfl)) (fun _ _ => rfl)) pa_nil)))
          (pss_cons (ps_asg (pe_op op_add (pe_ix ix_list (pv 0) pe_int (fun _ _ => rfl)) pe_int) (pg_sub (pv 0) pe_int set_list))
          (pss_one (ps_if (pt_cmpR op_ge (pe_callB call_abs (by rfl) ma (by decide +kernel) (pa_cons (pv 2) pa_nil)) (pe_op op_pow pe_int pe_int) (nomark _))
            (pss_one (ps_asg (pe_callB call_abs (by rfl) ma (by decide +kernel) (pa_cons (pv 2) pa_nil)) (pg_sub (pv 0) pe_int set_list)))
            (pss_one (ps_asg (pe_op op_mod (pe_callTy call_int1 (by rfl) mi (by decide +kernel) (pa_cons (pe_op op_add (pe_op op_add (pe_op op_mul (pe_ix ix_list (pv 0) pe_int (fun _ _ => rfl)) pe_int) (pe_op op_mul (pe_op op_mod (pe_callTy call_int1 (by rfl) mi (by decide +kernel) (pa_cons (pv 2) pa_nil)) pe_int) pe_int)) pe_int) pa_nil)) pe_int) (pg_sub (pv 0) pe_int set_list)))))))
          pss_nil)
      (pss_cons (ps_if (pt_cmpR op_gt (pe_ix ix_list (pv 0) pe_int (fun _ _ => rfl)) pe_int (nomark _))
          (pss_cons (ps_set (i := 3) scDraw.nd rfl (Or.inl rfl) (pe_op op_modN (pe_callTy call_int1 (by rfl) mi (by decide +kernel) (pa_cons (pe_ix ix_list (pv 0) pe_int (fun _ _ => rfl)) pa_nil)) (pv 1)))
          (pss_cons (ps_asg (pe_op op_fdivW (pe_ix ix_list (pv 0) pe_int (fun _ _ => rfl)) (pv 1)) (pg_sub (pv 0) pe_int set_list))
          (pss_one (ps_ret (pv 3)))))
          pss_nil)
      (pss_cons (ps_set (i := 4) scDraw.nd rfl (Or.inl rfl) (pe_callTy call_int1 (by rfl) mi (by decide +kernel) (pa_cons (pe_ix ix_list (pv 0) pe_int (fun _ _ => rfl)) pa_nil)))
      (pss_cons (ps_asg (pe_op op_mod (pe_callTy call_int1 (by rfl) mi (by decide +kernel) (pa_cons (pe_op op_add (pe_op op_add (pe_op op_add (pe_op op_pow (pv 4) pe_int) (pe_op op_mul (pv 4) pe_int)) (pe_op op_mul (pe_ix ix_list (pv 0) pe_int (fun _ _ => rfl)) pe_int)) pe_int) pa_nil)) pe_int) (pg_sub (pv 0) pe_int set_list))
      (pss_one (ps_ret (pe_op op_modN (pe_callTy call_int1 (by rfl) mi (by decide +kernel) (pa_cons (pe_op op_add (pe_op op_fdiv (pe_ix ix_list (pv 0) pe_int (fun _ _ => rfl)) pe_int) (pe_op op_mul (pe_op op_mod (pe_callTy call_int1 (by rfl) mi (by decide +kernel) (pa_cons (pe_ix ix_list (pv 0) pe_int (fun _ _ => rfl)) pa_nil)) pe_int) pe_int)) pa_nil)) (pv 1)))))))), ?_⟩
    have hlb : l ≠ b := bag_ne hb hl
    have hl' : ∀ o, upd H b o l = some (.lst (ns.map V.int)) := fun o => by rw [upd_ne hlb]; exact hl
    have hat : ∀ {p r m c : Int}, upd H b (bagL l p r m c) b = some (bagL l p r m c) := upd_same
    have hsq : ∀ {p r m c : Int}, SqL K (upd H b (bagL l p r m c)) b [.ref l, .int p, .int r, .int m, .int c] := .inl (.inl upd_same)
    have hlq : ∀ {o : HO}, SqL K (upd H b o) l (ns.map V.int) := fun {o} => .inl (.inl (hl' o))
    refine ⟨.ref b, rfl, b, _, 4, .int cnt, rfl, rfl, .inl (.inl hb), rfl, cnt, 1, rfl, rfl, .ref b, rfl, b, _, 4, 4, rfl, rfl, hb, rfl, ?_⟩
    refine ⟨fun σ' H' => ∃ y2 pos' rest' mixed', σ' = [some (.ref b), some (.int top), y2, none, none] ∧ H' = upd H b (bagL l pos' rest' mixed' (cnt + 1)) ∧ BagOk ns pos' rest' mixed' (cnt + 1) (n + 1), ?_, ?_⟩
    · have ok1 : BagOk ns pos rest mixed (cnt + 1) (n + 1) := ⟨ok.len, ok.p0, ok.r0, ok.m0, ok.m1, by have := ok.c0; omega, by have := ok.c1; omega⟩
      refine ⟨.ref b, rfl, b, _, 2, .int rest, rfl, rfl, hsq, rfl, rfl, _, rfl, ite2 (fun e => ?_) (fun e => ?_)⟩
      · refine ⟨.ref b, rfl, b, _, 1, .int pos, rfl, rfl, hsq, rfl, .ref b, rfl, b, _, 0, .ref l, rfl, rfl, hsq, rfl, l, _, rfl, .inl hlq, pos, _, rfl, rfl, _, rfl, ite2 (fun e2 => ?_) (fun e2 => ?_)⟩
        · have e3 : pos < (ns.map V.int).length := of_decide_eq_true e2
          have p0 := ok.p0
          have e4 : pos.toNat < ns.length := by rw [List.length_map] at e3; omega
          have e5 : atI (ns.map V.int) pos = some (.int ns[pos.toNat]) := by
            have z : atI (ns.map V.int) ((pos.toNat : Nat) : Int) = some (.int ns[pos.toNat]) := atI_nat (by rw [List.getElem?_map, List.getElem?_eq_getElem e4]; rfl)
            rwa [Int.toNat_of_nonneg p0] at z
          refine ⟨.ref b, rfl, b, _, 0, .ref l, rfl, rfl, hsq, rfl, .ref b, rfl, b, _, 1, .int pos, rfl, rfl, hsq, rfl, l, _, pos, _, rfl, rfl, hlq, e5, .inl ⟨_, rfl, ?_⟩⟩
          refine ⟨.ref b, rfl, b, _, 1, .int pos, rfl, rfl, hsq, rfl, pos, 1, rfl, rfl, .ref b, rfl, b, _, 1, 1, rfl, rfl, hat, rfl, ?_⟩
          rw [upd_upd]
          refine ⟨.int _, rfl, _, rfl, 10, 18, rfl, rfl, ⟨by decide, by decide, by decide⟩, _, _, rfl, rfl, _, rfl, ite2 (fun e6 => ?_) (fun e6 => ?_)⟩
          · refine ⟨.int _, rfl, _, rfl, .ref b, rfl, b, _, 2, 2, rfl, rfl, hat, rfl, ?_⟩
            rw [upd_upd]
            refine ⟨_, _, _, _, rfl, rfl, ok1.len, by omega, by split <;> omega, ok1.m0, ok1.m1, ok1.c0, ok1.c1⟩
          · refine ⟨.ref b, rfl, b, _, 3, .int mixed, rfl, rfl, hsq, rfl, mixed, 43889, rfl, rfl, .inl ⟨by have := ok.m0; omega, by have := ok.m1; omega⟩, .int _, rfl, .inl ⟨_, rfl, _, 1000639, rfl, rfl, by show (0 : Int) < 1000639; decide, _, 773, rfl, rfl, .inl ⟨by omega, by omega⟩, _, _, rfl, rfl, _, 29, rfl, rfl, .inl ⟨_, rfl, _, 2147483587, rfl, rfl, by show (0 : Int) < 2147483587; decide, .ref b, rfl, b, _, 3, 3, rfl, rfl, hat, rfl, ?_⟩⟩⟩
            rw [upd_upd]
            refine ⟨_, _, _, _, rfl, rfl, ok1.len, by omega, ok1.r0, by omega, by omega, ok1.c0, ok1.c1⟩
        · exact ⟨_, _, _, _, rfl, rfl, ok1⟩
      · exact ⟨_, _, _, _, rfl, rfl, ok1⟩
    · rintro σ' H' ⟨y2, pos', rest', mixed', rfl, rfl, ok'⟩
      have m0 := ok'.m0
      have m1 := ok'.m1
      have c0 := ok'.c0
      have c1 := ok'.c1
      have r0 := ok'.r0
      refine ⟨.ref b, rfl, b, _, 2, .int rest', rfl, rfl, hsq, rfl, _, _, rfl, rfl, _, rfl, ite2 (fun e => ?_) (fun e => ?_)⟩
      · refine ⟨.ref b, rfl, b, _, 2, .int rest', rfl, rfl, hsq, rfl, .inl ⟨_, rfl, .int top, rfl, rest', top, rfl, rfl, by show top ≠ 0; omega, ?_⟩⟩
        refine ⟨.ref b, rfl, b, _, 2, .int rest', rfl, rfl, hsq, rfl, .int top, rfl, rest', top, rfl, rfl, wide_div ht htb (by decide) (by decide), .ref b, rfl, b, _, 2, 2, rfl, rfl, hat, rfl, ?_⟩
        rw [upd_upd]
        refine ⟨_, rfl, ?_⟩
        have z : rest'.fmod top = rest' % top := Int.fmod_eq_emod_of_nonneg _ (by omega)
        show Q (.int (rest'.fmod top)) (upd H b (bagL l pos' (rest' / top) mixed' (cnt + 1)))
        rw [z]
        refine q (bagL l pos' (rest' / top) mixed' (cnt + 1)) _ ⟨ns, _, _, _, _, upd_same, hl' _, ok'.len, ok'.p0, Int.ediv_nonneg r0 (by omega), m0, m1, c0, c1⟩ ⟨_, rfl⟩ (Int.emod_nonneg _ (by omega)) (Int.emod_lt_of_pos _ ht)
      · refine ⟨.ref b, rfl, b, _, 3, .int mixed', rfl, rfl, hsq, rfl, .inl ⟨_, rfl, ?_⟩⟩
        refine ⟨.int mixed', rfl, mixed', 3, rfl, rfl, ⟨by omega, by omega, by omega⟩, .int mixed', rfl, mixed', 47111, rfl, rfl, .inl ⟨by omega, by omega⟩, _, _, rfl, rfl, .ref b, rfl, b, _, 4, .int (cnt + 1), rfl, rfl, hsq, rfl, _, 110323, rfl, rfl, .inl ⟨by omega, by omega⟩, _, _, rfl, rfl, _, 60089, rfl, rfl, .inl ⟨_, rfl, _, 2147483549, rfl, rfl, by show (0 : Int) < 2147483549; decide, .ref b, rfl, b, _, 3, 3, rfl, rfl, hat, rfl, ?_⟩⟩
        rw [upd_upd]
        have k0 : 0 ≤ (mixed' ^ 3 + mixed' * 47111 + (cnt + 1) * 110323 + 60089) % 2147483549 := by omega
        have k1 : (mixed' ^ 3 + mixed' * 47111 + (cnt + 1) * 110323 + 60089) % 2147483549 < 2147483587 := by omega
        have fin : ∀ m2 : Int, 0 ≤ m2 → m2 < 2147483587 → Q (.int (((m2 / 71 + m2 % 8017 * 59)).fmod top)) (upd H b (bagL l pos' rest' m2 (cnt + 1))) := fun m2 z0 z1 => by
          rw [Int.fmod_eq_emod_of_nonneg _ (by omega)]
          exact q (bagL l pos' rest' m2 (cnt + 1)) _ ⟨ns, _, _, _, _, upd_same, hl' _, ok'.len, ok'.p0, r0, z0, z1, c0, c1⟩ ⟨_, rfl⟩ (Int.emod_nonneg _ (by omega)) (Int.emod_lt_of_pos _ ht)
        refine ⟨.ref b, rfl, b, _, 3, _, rfl, rfl, .inl (.inl upd_same), rfl, _, 71, rfl, rfl, ⟨by decide, by decide⟩, .ref b, rfl, b, _, 3, _, rfl, rfl, .inl (.inl upd_same), rfl, .inl ⟨_, rfl, _, 8017, rfl, rfl, by show (0 : Int) < 8017; decide, _, 59, rfl, rfl, .inl ⟨by omega, by omega⟩, _, _, rfl, rfl, .inl ⟨_, rfl, .int top, rfl, _, top, rfl, rfl, by show top ≠ 0; omega, ?_⟩⟩⟩
        exact fin _ k0 k1
/-! ### the bag -/
def spBag (K : PySem.W.Frag) : Sp := fun vs H Q _ => ∃ (a : Addr) (ns : List Int), vs = [.ref a] ∧ SqL K H a (ns.map V.int) ∧ ns.length ≤ 63 ∧
  ∀ H' b l, Same H H' → H b = none → BagAt H' b l 0 → Q (.ref b) H'
theorem ok_bag {f : Addr} {fd : FuncData} {k : Nat} (F : Fun K "_law_bag" "_law_bag" sBag f fd) (mi : mg "int" = none) (ml : mg "list" = none) : FnOk P w K mg base CX0 (k + 1) f fd ["script"] (spBag K) := by
  refine F.ok scBag (fun vs H Q E h => ?_) (fun cdv A outer s H vs Q E hr h => ?_)
  · obtain ⟨a, ns, rfl, _⟩ := h
    rfl
  · obtain ⟨a, ns, rfl, hS, hlen, q⟩ := h
    refine ⟨_, pss_cons (ps_set (i := 1) scBag.nd rfl (Or.inl rfl) pe_int)
      (pss_cons (ps_for PassesOwn.never rfl (pi_list (pe_slice sl_list (pv 0) po_none (po_some pe_int))) (pg_name (i := 2) scBag.nd rfl (Or.inl rfl))
        (pss_one (ps_set (i := 1) scBag.nd rfl (Or.inl rfl) (pe_op op_mod (pe_callTy call_int1 (by rfl) mi (by decide +kernel) (pa_cons (pe_op op_add (pe_op op_add (pe_op op_mul (pv 1) pe_int) (pe_op op_mul (pe_op op_mod (pe_callTy call_int1 (by rfl) mi (by decide +kernel) (pa_cons (pv 2) pa_nil)) pe_int) pe_int)) pe_int) pa_nil)) pe_int))))
      (pss_one (ps_ret (pe_lst (pa_cons (pe_callTy call_list_of (by rfl) ml (by decide +kernel) (pa_cons (pe_slice sl_list (pv 0) po_none (po_some pe_int)) pa_nil)) (pa_cons pe_int (pa_cons pe_int (pa_cons (pv 1) (pa_cons pe_int pa_nil))))))))), ?_⟩
    refine ⟨.ref a, rfl, 63, rfl, a, _, rfl, hS, fun c nc => ?_⟩
    have e63 : cutV (ns.map V.int) none (some 63) = ns.map V.int := by
      unfold cutV
      rw [show HT.sIx (ns.map V.int).length 0 none = 0 from HT.sIx_none _ _, show HT.sIx (ns.map V.int).length (ns.map V.int).length (some 63) = min 63 (ns.map V.int).length from HT.sIx_nat (ns.map V.int).length _ 63]
      rw [List.drop_zero, List.take_of_length_le (by rw [List.length_map]; omega)]
    rw [e63]
    have s1 : Same H (upd H c (.lst (ns.map V.int))) := fun x o e => by rw [upd_ne (ne_of_none e nc)]; exact e
    have hc1 : SqL K (upd H c (.lst (ns.map V.int))) c (ns.map V.int) := .inl (.inl upd_same)
    refine ⟨c, rfl, ⟨_, hc1⟩, for_list (xs := ns.map V.int) (fun _ σ' H' => ∃ m y, σ' = [some (.ref a), some (.int m), y] ∧ H' = upd H c (.lst (ns.map V.int)) ∧ 0 ≤ m ∧ m < 2147483579) ⟨12038, none, rfl, rfl, by decide, by decide⟩ (fun i σ' H' _ h' => by obtain ⟨_, _, _, rfl, _⟩ := h'; exact hc1) ?_ ?_⟩
    · rintro i x σ' H' hx ⟨m, y, rfl, rfl, m0, m1⟩
      obtain ⟨z, rfl⟩ : ∃ z, x = V.int z := by
        rw [List.getElem?_map] at hx
        cases hz : ns[i]? with
        | none => rw [hz] at hx; cases hx
        | some z => rw [hz] at hx; exact ⟨z, (Option.some.inj hx).symm⟩
      refine ⟨.int m, rfl, m, 48271, rfl, rfl, .inl ⟨by omega, by omega⟩, .int z, rfl, .inl ⟨_, rfl, _, 1000639, rfl, rfl, by show (0 : Int) < 1000639; decide, _, 881, rfl, rfl, .inl ⟨by omega, by omega⟩, _, _, rfl, rfl, _, 53, rfl, rfl, .inl ⟨_, rfl, _, 2147483579, rfl, rfl, by show (0 : Int) < 2147483579; decide, ?_⟩⟩⟩
      exact ⟨_, _, rfl, rfl, by omega, by omega⟩
    · rintro σ' H' ⟨m, y, rfl, rfl, m0, m1⟩
      refine ⟨.ref a, rfl, 63, rfl, a, _, rfl, s1.seq hS, fun d nd => ?_⟩
      rw [e63]
      refine ⟨d, _, rfl, .inl (.inl (.inl upd_same)), fun e ne => ⟨.int m, rfl, ?_⟩⟩
      refine ⟨by show 5 ≤ sizeLine; decide, fun b nb => ?_⟩
      have sb : ∀ {G : Hp} {x : Addr} {o : HO}, G x = none → Same G (upd G x o) := fun {G x o} hn y u e => by rw [upd_ne (ne_of_none e hn)]; exact e
      have S := ((s1.trans (sb nd)).trans (sb ne)).trans (sb (o := .lst [.ref e, .int 0, .int 0, .int m, .int 0]) nb)
      refine q _ b e S ?_ ⟨ns, 0, 0, m, 0, upd_same, ?_, hlen, by decide, by decide, m0, by omega, by decide, by decide⟩
      · exact ((s1.trans (sb nd)).trans (sb ne)).free nb
      · rw [upd_ne (ne_of_none upd_same nb), upd_same]
/-! ### one of some -/
theorem sq_upd {K : PySem.W.Frag} {H : Hp} {p b : Addr} {o : HO} {xs : List V} (h : SqL K H p xs) (hn : p ≠ b) : SqL K (upd H b o) p xs := by
  rcases h with (h | ⟨u, h⟩) | h
  · exact .inl (.inl (by rw [upd_ne hn]; exact h))
  · exact .inl (.inr ⟨u, by rw [upd_ne hn]; exact h⟩)
  · exact .inr h
def spOf (K : PySem.W.Frag) : Sp := fun vs H Q _ => ∃ (b l : Addr) (n : Nat) (x : V), vs = [.ref b, x] ∧ BagAt H b l n ∧ n < 2 ^ 40 ∧
  ((∃ p xs, x = .ref p ∧ SqL K H p xs ∧ p ≠ b ∧ 0 < xs.length ∧ xs.length < 2 ^ 60 ∧ ∀ o v, BagAt (upd H b o) b l (n + 1) → (∃ ys, o = .lst ys) → v ∈ xs → Q v (upd H b o)) ∨
   (∃ z : Str, x = .str z ∧ 0 < z.cps.size ∧ z.cps.size ≤ 1000 ∧ ∀ o c, BagAt (upd H b o) b l (n + 1) → (∃ ys, o = .lst ys) → c ∈ z.cps.toList → Q (.str ⟨#[c]⟩) (upd H b o)))
theorem ok_of {f fd' : Addr} {fd fdd : FuncData} {k : Nat} (F : Fun K "_law_of" "_law_of" sOf f fd) (G : FnOk P w K mg base CX0 (k + 1) fd' fdd ["bag", "top"] spDraw) (gm : mg "_law_draw" = some (.ref fd')) (kp : PySem.W.keepIn K (.ref fd') = true) (bd : Binds K fdd ["bag", "top"] []) (ml : mg "len" = none) :
    FnOk P w K mg base CX0 (k + 2) f fd ["bag", "some"] (spOf K) := by
  refine F.ok scOf (fun vs H Q E h => ?_) (fun cdv A outer s H vs Q E hr h => ?_)
  · obtain ⟨b, l, n, x, rfl, _⟩ := h
    rfl
  · obtain ⟨b, l, n, x, rfl, hb, hn, h⟩ := h
    refine ⟨_, pss_one (ps_ret (pe_ix ix_seq (pv 1) (pe_call G hr (by rfl) gm kp bd .nil pass0 (pa_cons (pv 0) (pa_cons (pe_callB call_len (by rfl) ml PySem.boot_len (pa_cons (pv 1) pa_nil)) pa_nil))) (fun _ _ => rfl))), ?_⟩
    rcases h with ⟨p, xs, rfl, hs, ne, h0, h1, q⟩ | ⟨z, rfl, h0, h1, q⟩
    · refine ⟨.ref p, rfl, .ref b, rfl, .ref p, rfl, .ref p, xs.length, rfl, ?_, b, l, n, xs.length, rfl, hb, hn, by omega, by show ((xs.length : Int)).natAbs < 2 ^ 8000; rw [Int.natAbs_natCast]; exact Nat.lt_of_lt_of_le h1 (Nat.pow_le_pow_right (by decide) (by decide)), fun o k hb' hl k0 k1 => ?_⟩
      · exact .inl ⟨xs, hs, rfl⟩
      · have e : k.toNat < xs.length := by omega
        have e5 : atI xs k = some xs[k.toNat] := by
          have z : atI xs ((k.toNat : Nat) : Int) = some xs[k.toNat] := atI_nat (List.getElem?_eq_getElem e)
          rwa [Int.toNat_of_nonneg k0] at z
        exact .inl ⟨p, xs, k, _, rfl, rfl, sq_upd hs ne, e5, q o _ hb' hl (List.getElem_mem e)⟩
    · refine ⟨.str z, rfl, .ref b, rfl, .str z, rfl, .str z, z.cps.size, rfl, ?_, b, l, n, z.cps.size, rfl, hb, hn, by omega, by show ((z.cps.size : Int)).natAbs < 2 ^ 8000; rw [Int.natAbs_natCast]; exact Nat.lt_of_le_of_lt h1 (by decide +kernel), fun o k hb' hl k0 k1 => ?_⟩
      · exact ⟨Nat.le_of_lt (small1000 h1), rfl⟩
      · have e : k.toNat < z.cps.toList.length := by rw [Array.length_toList]; omega
        have e5 : atI z.cps.toList k = some z.cps.toList[k.toNat] := by
          have z : atI z.cps.toList ((k.toNat : Nat) : Int) = some z.cps.toList[k.toNat] := atI_nat (List.getElem?_eq_getElem e)
          rwa [Int.toNat_of_nonneg k0] at z
        exact .inr (.inr ⟨z, k, _, rfl, rfl, Nat.le_of_lt (small1000 h1), e5, q o _ hb' hl (List.getElem_mem e)⟩)
end
end Kc

namespace Kc
open PySem PySem.Spec PyProof.Rows L2 Ke RZ
set_option maxRecDepth 100000
set_option maxHeartbeats 4000000
set_option linter.all false
def flatD : V → Bool
  | .non => true
  | .bl _ => true
  | .int _ => true
  | .str _ => true
  | _ => false
/-- an exception without fields, equal to itself -/
structure Obj0 (K : PySem.W.Frag) (C : Addr) : Prop where
  self : EqSelf K C
  l : PySem.W.kitOne K (.ref C) (.type "list") = some false
  t : PySem.W.kitOne K (.ref C) (.type "tuple") = some false
  b : PySem.W.kitOne K (.ref C) (.type "bool") = some false
  i : PySem.W.kitOne K (.ref C) (.type "int") = some false
  s : PySem.W.kitOne K (.ref C) (.type "str") = some false
/-- two values that are equal and of the same kinds, less than n deep -/
def Eqd (K : PySem.W.Frag) (H : Hp) : Nat → V → V → Prop
  | 0 => fun _ _ => False
  | n + 1 => fun x y => (x = y ∧ flatD x = true) ∨ (∃ (a b : Addr) (xs ys : List V), x = .ref a ∧ y = .ref b ∧ ((SqL K H a xs ∧ SqL K H b ys) ∨ (SqT K H a xs ∧ SqT K H b ys)) ∧ xs.length ≤ 100000 ∧ Paired (Eqd K H n) xs ys) ∨
      ∃ a C : Addr, x = .ref a ∧ y = .ref a ∧ H a = some (exo a C none) ∧ Obj0 K C
theorem same_sqt {K : PySem.W.Frag} {H H' : Hp} {a : Addr} {xs : List V} (e : Same H H') (h : SqT K H a xs) : SqT K H' a xs := by
  rcases h with (h | ⟨o, h⟩) | h
  · exact .inl (.inl (e _ _ h))
  · exact .inl (.inr ⟨o, e _ _ h⟩)
  · exact .inr h
theorem paired_imp {α β : Type} {F G : α → β → Prop} (f : ∀ a b, F a b → G a b) : ∀ {xs : List α} {ys : List β}, Paired F xs ys → Paired G xs ys
  | _, _, .nil => .nil
  | _, _, .cons h t => .cons (f _ _ h) (paired_imp f t)
theorem Eqd.same {K : PySem.W.Frag} {H H' : Hp} (e : Same H H') : ∀ {n : Nat} {x y : V}, Eqd K H n x y → Eqd K H' n x y
  | 0, _, _, h => h
  | n + 1, x, y, h => by
    rcases h with h | ⟨a, b, xs, ys, h1, h2, h3, hl, h4⟩ | ⟨a, C, h1, h2, h3, h4⟩
    · exact .inl h
    · refine .inr (.inl ⟨a, b, xs, ys, h1, h2, ?_, hl, paired_imp (fun _ _ => Eqd.same e) h4⟩)
      rcases h3 with ⟨u, v⟩ | ⟨u, v⟩
      · exact .inl ⟨e.seq u, e.seq v⟩
      · exact .inr ⟨same_sqt e u, same_sqt e v⟩
    · exact .inr (.inr ⟨a, C, h1, h2, e _ _ h3, h4⟩)
theorem tyL {K : PySem.W.Frag} {H : Hp} {a : Addr} {xs : List V} (h : SqL K H a xs) : TyE K H (.ref a) (.type "list") := by
  rcases h with (h | ⟨o, h⟩) | ⟨o, _, _, h, c, _⟩
  · exact .base (.base (.lst h))
  · exact .base (.base (.frz h))
  · exact .base (.kList h c)
theorem tyT {K : PySem.W.Frag} {H : Hp} {a : Addr} {xs : List V} (h : SqT K H a xs) : TyE K H (.ref a) (.type "tuple") := by
  rcases h with (h | ⟨o, h⟩) | ⟨o, _, _, h, c, _⟩
  · exact .base (.base (.tup h))
  · exact .base (.fTuple h)
  · exact .base (.kTuple h c)
theorem same_new {H : Hp} {p : Addr} {o : HO} (h : H p = none) : Same H (upd H p o) := fun b u e => by rw [upd_ne (ne_of_none e h)]; exact e
theorem walk_zipT {K : PySem.W.Frag} {a b : Addr} {xs ys : List V} {n : Nat} (hx : xs.length = n) (hy : ys.length = n) : Walk (ItzT K a b) n (fun H => SqT K H a xs ∧ SqT K H b ys) (YPair (fun i => xs[i]?) (fun i => ys[i]?)) := by
  refine ⟨fun i _ hi q => ⟨xs, ys, xs[i]'(by omega), ys[i]'(by omega), q.1, q.2, by simp [hx, hi], by simp [hy, hi]⟩, fun _ q => ⟨xs, ys, q.1, q.2, by omega⟩, ?_⟩
  rintro i H v H' _ q ⟨T, x, z, h1, h2, h3, h4, h5⟩
  exact ⟨T, x, z, h1, h2, h3, h4 xs q.1, h5 ys q.2⟩
def lt2 : Paired ClsV [.ty "list", .ty "tuple"] [.type "list", .type "tuple"] := .cons (.ty _) (.cons (.ty _) .nil)
theorem lt2L {K : PySem.W.Frag} : PySem.W.kitAny K (.type "list") [.type "list", .type "tuple"] = some true := kitAny_cons (b := true) (kit_ty (by decide +kernel)) (fun h => nomatch h) (fun _ => rfl)
theorem lt2T {K : PySem.W.Frag} : PySem.W.kitAny K (.type "tuple") [.type "list", .type "tuple"] = some true := kitAny_cons (b := false) (kit_ty (by decide +kernel)) (fun _ => kitAny_cons (b := true) (kit_ty (by decide +kernel)) (fun h => nomatch h) (fun _ => rfl)) (fun h => nomatch h)
theorem lt2F {K : PySem.W.Frag} {t : Value} (h1 : PySem.W.kitOne K t (.type "list") = some false) (h2 : PySem.W.kitOne K t (.type "tuple") = some false) : PySem.W.kitAny K t [.type "list", .type "tuple"] = some false :=
  kitAny_cons (b := false) h1 (fun _ => kitAny_cons (b := false) h2 (fun _ => kitAny_nil) (fun h => nomatch h)) (fun h => nomatch h)
theorem get_paired {α β : Type} {F : α → β → Prop} : ∀ {xs : List α} {ys : List β} {i : Nat} {x : α} {y : β}, Paired F xs ys → xs[i]? = some x → ys[i]? = some y → F x y
  | _, _, _, _, _, .nil, e, _ => by simp at e
  | _, _, 0, _, _, .cons r _, e, e' => by simp at e e'; subst e; subst e'; exact r
  | _, _, i + 1, x, y, .cons _ t, e, e' => get_paired (i := i) t (by simpa using e) (by simpa using e')
theorem scSame : FnScope ["found", "due", "p", "q"] ["found", "due"] (defScope sSame) := ⟨rfl, rfl, rfl, by decide +kernel, rfl, by decide +kernel, by decide +kernel⟩
def spSame (K : PySem.W.Frag) (n : Nat) : Sp := fun vs H Q _ => ∃ x y : V, vs = [x, y] ∧ Eqd K H n x y ∧ ∀ H', Same H H' → Q (.bl true) H'
section
variable {P : Program} {w : World} {K : PySem.W.Frag} {mg : Str → Option Value} {base : Heap}
structure SameMg (mg : Str → Option Value) : Prop where
  isinstance : mg "isinstance" = none
  list : mg "list" = none
  tuple : mg "tuple" = none
  len : mg "len" = none
  all : mg "all" = none
  zip : mg "zip" = none
  bool : mg "bool" = none
  int : mg "int" = none
  str : mg "str" = none
theorem ok_same {f : Addr} {fd : FuncData} (F : Fun K "_law_same" "_law_same" sSame f fd) (M : SameMg mg) (gm : mg "_law_same" = some (.ref f)) (bd : Binds K fd ["found", "due"] []) :
    ∀ n : Nat, FnOk P w K mg base CX0 (n + 1) f fd ["found", "due"] (spSame K n) := by
  intro n
  induction n with
  | zero => exact F.ok scSame (fun vs H Q E h => by obtain ⟨x, y, rfl, h, _⟩ := h; exact h.elim) (fun cdv A outer s H vs Q E hr h => by obtain ⟨x, y, rfl, h, _⟩ := h; exact h.elim)
  | succ n ih =>
    refine F.ok scSame (fun vs H Q E h => ?_) (fun cdv A outer s H vs Q E hr h => ?_)
    · obtain ⟨x, y, rfl, _⟩ := h
      rfl
    · obtain ⟨x, y, rfl, hxy, q⟩ := h
      refine ⟨_, pss_cons (ps_if (pt_val (pe_callB call_isN (by rfl) M.isinstance (by decide +kernel) (pa_cons (pv 1) (pa_cons (pe_tup (pa_cons (pe_bltn (v := .ty "list") (by rfl) M.list (by decide +kernel) rfl) (pa_cons (pe_bltn (v := .ty "tuple") (by rfl) M.tuple (by decide +kernel) rfl) pa_nil))) pa_nil))))
          (pss_cons (ps_if (PW.pt (pw_or (pt_cmpR op_ne (pe_callB call_is1 (by rfl) M.isinstance (by decide +kernel) (pa_cons (pv 0) (pa_cons (pe_bltn (v := .ty "list") (by rfl) M.list (by decide +kernel) rfl) pa_nil))) (pe_callB call_is1 (by rfl) M.isinstance (by decide +kernel) (pa_cons (pv 1) (pa_cons (pe_bltn (v := .ty "list") (by rfl) M.list (by decide +kernel) rfl) pa_nil))) (nomark _)) (pw_or1 (pt_cmpR op_ne (pe_callB call_is1 (by rfl) M.isinstance (by decide +kernel) (pa_cons (pv 0) (pa_cons (pe_bltn (v := .ty "tuple") (by rfl) M.tuple (by decide +kernel) rfl) pa_nil))) (pe_callB call_is1 (by rfl) M.isinstance (by decide +kernel) (pa_cons (pv 1) (pa_cons (pe_bltn (v := .ty "tuple") (by rfl) M.tuple (by decide +kernel) rfl) pa_nil))) (nomark _)))))
            (pss_one (ps_ret pe_bl)) pss_nil)
          (pss_one (ps_ret (pe_and (pe_cmpR op_eq (pe_callB call_len (by rfl) M.len PySem.boot_len (pa_cons (pv 0) pa_nil)) (pe_callB call_len (by rfl) M.len PySem.boot_len (pa_cons (pv 1) pa_nil)) (nomark _))
            (pe_one (pe_callB (cr_all rfl) (by rfl) M.all (by decide +kernel) (pa_cons
              (pe_lc (own := [("p", 2), ("q", 3)]) (g := gTup K 2 (gCons (gName 2) (gCons (gName 3) gNil))) (tt := tYes) rfl scSame.nd (pi_zipA (by rfl) M.zip (pa_cons (pv 0) (pa_cons (pv 1) pa_nil))) (blkOk_by (N := ["found", "due", "p", "q"]) (sc := defScope sSame) (by decide +kernel)) (fun _ _ _ _ _ => pg_tup rfl (pgs_cons (pg_name (i := 2) scSame.nd rfl (Or.inl rfl)) (pgs_cons (pg_name (i := 3) scSame.nd rfl (Or.inl rfl)) pgs_nil))) (fun _ _ _ _ _ => pts_nil)
                (fun _ _ _ _ _ => pe_call ih hr (by rfl) gm F.kp bd .nil pass0 (pa_cons (pv 2) (pa_cons (pv 3) pa_nil)))) pa_nil)))))))
          pss_nil)
        (pss_cons (ps_if (pt_val (pe_callB call_isN (by rfl) M.isinstance (by decide +kernel) (pa_cons (pv 0) (pa_cons (pe_tup (pa_cons (pe_bltn (v := .ty "list") (by rfl) M.list (by decide +kernel) rfl) (pa_cons (pe_bltn (v := .ty "tuple") (by rfl) M.tuple (by decide +kernel) rfl) pa_nil))) pa_nil)))) (pss_one (ps_ret pe_bl)) pss_nil)
        (pss_cons (ps_if (PW.pt (pw_or (pt_cmpR op_isN (pv 1) pe_non (nomark _)) (pw_or1 (pt_cmpR op_isN (pv 0) pe_non (nomark _))))) (pss_one (ps_ret (pe_and (pe_cmpR op_isN (pv 1) pe_non (nomark _)) (pe_one (pe_cmpR op_isN (pv 0) pe_non (nomark _)))))) pss_nil)
        (pss_cons (ps_if (PW.pt (pw_or (pt_val (pe_callB call_is1 (by rfl) M.isinstance (by decide +kernel) (pa_cons (pv 1) (pa_cons (pe_bltn (v := .ty "bool") (by rfl) M.bool (by decide +kernel) rfl) pa_nil)))) (pw_or1 (pt_val (pe_callB call_is1 (by rfl) M.isinstance (by decide +kernel) (pa_cons (pv 0) (pa_cons (pe_bltn (v := .ty "bool") (by rfl) M.bool (by decide +kernel) rfl) pa_nil))))))) (pss_one (ps_ret (pe_and (pe_callB call_is1 (by rfl) M.isinstance (by decide +kernel) (pa_cons (pv 1) (pa_cons (pe_bltn (v := .ty "bool") (by rfl) M.bool (by decide +kernel) rfl) pa_nil))) (pe_and (pe_callB call_is1 (by rfl) M.isinstance (by decide +kernel) (pa_cons (pv 0) (pa_cons (pe_bltn (v := .ty "bool") (by rfl) M.bool (by decide +kernel) rfl) pa_nil))) (pe_one (pe_cmpR op_eq (pv 0) (pv 1) (nomark _))))))) pss_nil)
        (pss_cons (ps_if (PW.pt (pw_or (pt_val (pe_callB call_is1 (by rfl) M.isinstance (by decide +kernel) (pa_cons (pv 1) (pa_cons (pe_bltn (v := .ty "int") (by rfl) M.int (by decide +kernel) rfl) pa_nil)))) (pw_or1 (pt_val (pe_callB call_is1 (by rfl) M.isinstance (by decide +kernel) (pa_cons (pv 0) (pa_cons (pe_bltn (v := .ty "int") (by rfl) M.int (by decide +kernel) rfl) pa_nil))))))) (pss_one (ps_ret (pe_and (pe_callB call_is1 (by rfl) M.isinstance (by decide +kernel) (pa_cons (pv 1) (pa_cons (pe_bltn (v := .ty "int") (by rfl) M.int (by decide +kernel) rfl) pa_nil))) (pe_and (pe_callB call_is1 (by rfl) M.isinstance (by decide +kernel) (pa_cons (pv 0) (pa_cons (pe_bltn (v := .ty "int") (by rfl) M.int (by decide +kernel) rfl) pa_nil))) (pe_one (pe_cmpR op_eq (pv 0) (pv 1) (nomark _))))))) pss_nil)
        (pss_cons (ps_if (PW.pt (pw_or (pt_val (pe_callB call_is1 (by rfl) M.isinstance (by decide +kernel) (pa_cons (pv 1) (pa_cons (pe_bltn (v := .ty "str") (by rfl) M.str (by decide +kernel) rfl) pa_nil)))) (pw_or1 (pt_val (pe_callB call_is1 (by rfl) M.isinstance (by decide +kernel) (pa_cons (pv 0) (pa_cons (pe_bltn (v := .ty "str") (by rfl) M.str (by decide +kernel) rfl) pa_nil))))))) (pss_one (ps_ret (pe_and (pe_callB call_is1 (by rfl) M.isinstance (by decide +kernel) (pa_cons (pv 1) (pa_cons (pe_bltn (v := .ty "str") (by rfl) M.str (by decide +kernel) rfl) pa_nil))) (pe_and (pe_callB call_is1 (by rfl) M.isinstance (by decide +kernel) (pa_cons (pv 0) (pa_cons (pe_bltn (v := .ty "str") (by rfl) M.str (by decide +kernel) rfl) pa_nil))) (pe_one (pe_cmpR op_eq (pv 0) (pv 1) (nomark _))))))) pss_nil)
        (pss_one (ps_ret (pe_cmpR (op_self (Nat.lt_of_succ_lt (hu_of hr))) (pv 0) (pv 1) (nomark _))))))))), ?_⟩
      rcases hxy with ⟨rfl, hf⟩ | ⟨a, b, xs, ys, rfl, rfl, hs, hlim, hp⟩ | ⟨a, C, rfl, rfl, ha, hC⟩
      · cases x with
        | non  =>
          refine ⟨.non, rfl, by show 2 ≤ sizeLine; decide, fun t ht => ⟨.non, t, _, .type "NoneType", _, false, rfl, upd_same, lt2, (.base (.base (.non))), lt2F (kit_ty (by decide +kernel)) (kit_ty (by decide +kernel)), _, rfl, iteF ?_⟩⟩
          refine ⟨.non, rfl, by show 2 ≤ sizeLine; decide, fun t2 ht2 => ⟨.non, t2, _, .type "NoneType", _, false, rfl, upd_same, lt2, (.base (.base (.non))), lt2F (kit_ty (by decide +kernel)) (kit_ty (by decide +kernel)), _, rfl, iteF ?_⟩⟩
          have S := (same_new ht (o := .tup [.ty "list", .ty "tuple"])).trans (same_new ht2 (o := .tup [.ty "list", .ty "tuple"]))
          refine ⟨.non, rfl, rfl, _, rfl, iteT ?_⟩
          refine ⟨.non, rfl, rfl, _, rfl, iteT ⟨.non, rfl, rfl, q _ S⟩⟩
        | bl b =>
          refine ⟨(.bl b), rfl, by show 2 ≤ sizeLine; decide, fun t ht => ⟨(.bl b), t, _, .type "bool", _, false, rfl, upd_same, lt2, (.base (.base (.bl _))), lt2F (kit_ty (by decide +kernel)) (kit_ty (by decide +kernel)), _, rfl, iteF ?_⟩⟩
          refine ⟨(.bl b), rfl, by show 2 ≤ sizeLine; decide, fun t2 ht2 => ⟨(.bl b), t2, _, .type "bool", _, false, rfl, upd_same, lt2, (.base (.base (.bl _))), lt2F (kit_ty (by decide +kernel)) (kit_ty (by decide +kernel)), _, rfl, iteF ?_⟩⟩
          have S := (same_new ht (o := .tup [.ty "list", .ty "tuple"])).trans (same_new ht2 (o := .tup [.ty "list", .ty "tuple"]))
          refine ⟨(.bl b), rfl, rfl, _, rfl, iteF ?_⟩
          refine ⟨(.bl b), rfl, rfl, _, rfl, iteF ?_⟩
          refine ⟨(.bl b), rfl, (.bl b), .ty "bool", .type "bool", _, true, rfl, .ty _, (.base (.base (.bl _))), (kit_ty (by decide +kernel)), _, rfl, iteT ?_⟩
          refine ⟨(.bl b), rfl, (.bl b), .ty "bool", .type "bool", _, true, rfl, .ty _, (.base (.base (.bl _))), (kit_ty (by decide +kernel)), _, rfl, iteT ⟨(.bl b), rfl, (.bl b), .ty "bool", .type "bool", _, true, rfl, .ty _, (.base (.base (.bl _))), (kit_ty (by decide +kernel)), _, rfl, iteT ⟨(.bl b), rfl, (.bl b), rfl, rfl, ?_⟩⟩⟩
          rw [decide_eq_true rfl]
          exact q _ S
        | int i =>
          refine ⟨(.int i), rfl, by show 2 ≤ sizeLine; decide, fun t ht => ⟨(.int i), t, _, .type "int", _, false, rfl, upd_same, lt2, (.base (.base (.int _))), lt2F (kit_ty (by decide +kernel)) (kit_ty (by decide +kernel)), _, rfl, iteF ?_⟩⟩
          refine ⟨(.int i), rfl, by show 2 ≤ sizeLine; decide, fun t2 ht2 => ⟨(.int i), t2, _, .type "int", _, false, rfl, upd_same, lt2, (.base (.base (.int _))), lt2F (kit_ty (by decide +kernel)) (kit_ty (by decide +kernel)), _, rfl, iteF ?_⟩⟩
          have S := (same_new ht (o := .tup [.ty "list", .ty "tuple"])).trans (same_new ht2 (o := .tup [.ty "list", .ty "tuple"]))
          refine ⟨(.int i), rfl, rfl, _, rfl, iteF ?_⟩
          refine ⟨(.int i), rfl, rfl, _, rfl, iteF ?_⟩
          refine ⟨(.int i), rfl, (.int i), .ty "bool", .type "int", _, false, rfl, .ty _, (.base (.base (.int _))), (kit_ty (by decide +kernel)), _, rfl, iteF ⟨(.int i), rfl, (.int i), .ty "bool", .type "int", _, false, rfl, .ty _, (.base (.base (.int _))), (kit_ty (by decide +kernel)), _, rfl, iteF ?_⟩⟩
          refine ⟨(.int i), rfl, (.int i), .ty "int", .type "int", _, true, rfl, .ty _, (.base (.base (.int _))), (kit_ty (by decide +kernel)), _, rfl, iteT ?_⟩
          refine ⟨(.int i), rfl, (.int i), .ty "int", .type "int", _, true, rfl, .ty _, (.base (.base (.int _))), (kit_ty (by decide +kernel)), _, rfl, iteT ⟨(.int i), rfl, (.int i), .ty "int", .type "int", _, true, rfl, .ty _, (.base (.base (.int _))), (kit_ty (by decide +kernel)), _, rfl, iteT ⟨(.int i), rfl, (.int i), rfl, rfl, ?_⟩⟩⟩
          rw [decide_eq_true rfl]
          exact q _ S
        | str z =>
          refine ⟨(.str z), rfl, by show 2 ≤ sizeLine; decide, fun t ht => ⟨(.str z), t, _, .type "str", _, false, rfl, upd_same, lt2, (.base (.base (.str _))), lt2F (kit_ty (by decide +kernel)) (kit_ty (by decide +kernel)), _, rfl, iteF ?_⟩⟩
          refine ⟨(.str z), rfl, by show 2 ≤ sizeLine; decide, fun t2 ht2 => ⟨(.str z), t2, _, .type "str", _, false, rfl, upd_same, lt2, (.base (.base (.str _))), lt2F (kit_ty (by decide +kernel)) (kit_ty (by decide +kernel)), _, rfl, iteF ?_⟩⟩
          have S := (same_new ht (o := .tup [.ty "list", .ty "tuple"])).trans (same_new ht2 (o := .tup [.ty "list", .ty "tuple"]))
          refine ⟨(.str z), rfl, rfl, _, rfl, iteF ?_⟩
          refine ⟨(.str z), rfl, rfl, _, rfl, iteF ?_⟩
          refine ⟨(.str z), rfl, (.str z), .ty "bool", .type "str", _, false, rfl, .ty _, (.base (.base (.str _))), (kit_ty (by decide +kernel)), _, rfl, iteF ⟨(.str z), rfl, (.str z), .ty "bool", .type "str", _, false, rfl, .ty _, (.base (.base (.str _))), (kit_ty (by decide +kernel)), _, rfl, iteF ?_⟩⟩
          refine ⟨(.str z), rfl, (.str z), .ty "int", .type "str", _, false, rfl, .ty _, (.base (.base (.str _))), (kit_ty (by decide +kernel)), _, rfl, iteF ⟨(.str z), rfl, (.str z), .ty "int", .type "str", _, false, rfl, .ty _, (.base (.base (.str _))), (kit_ty (by decide +kernel)), _, rfl, iteF ?_⟩⟩
          refine ⟨(.str z), rfl, (.str z), .ty "str", .type "str", _, true, rfl, .ty _, (.base (.base (.str _))), (kit_ty (by decide +kernel)), _, rfl, iteT ?_⟩
          refine ⟨(.str z), rfl, (.str z), .ty "str", .type "str", _, true, rfl, .ty _, (.base (.base (.str _))), (kit_ty (by decide +kernel)), _, rfl, iteT ⟨(.str z), rfl, (.str z), .ty "str", .type "str", _, true, rfl, .ty _, (.base (.base (.str _))), (kit_ty (by decide +kernel)), _, rfl, iteT ⟨(.str z), rfl, (.str z), rfl, rfl, ?_⟩⟩⟩
          rw [decide_eq_true rfl]
          exact q _ S
        | byt _ => cases hf
        | flt _ => cases hf
        | ref _ => cases hf
        | ty _ => cases hf
      · have hlen : xs.length = ys.length := Paired.length hp
        rcases hs with ⟨ha, hb⟩ | ⟨ha, hb⟩
        · refine ⟨.ref b, rfl, by show 2 ≤ sizeLine; decide, fun t ht => ⟨.ref b, t, _, .type "list", _, true, rfl, upd_same, lt2, tyL ((same_new ht).seq hb), lt2L, _, rfl, iteT ?_⟩⟩
          have S1 : Same H (upd H t (.tup [.ty "list", .ty "tuple"])) := same_new ht
          have h1 := (S1.seq ha)
          have h2 := (S1.seq hb)
          refine ⟨.ref a, rfl, ⟨.ref a, .ty "list", .type "list", _, true, rfl, .ty _, tyL h1, kit_ty (by decide +kernel), .ref b, rfl, ⟨.ref b, .ty "list", .type "list", _, true, rfl, .ty _, tyL h2, kit_ty (by decide +kernel), rfl, _, rfl, iteNS rfl ?_⟩⟩⟩
          refine ⟨.ref a, rfl, ⟨.ref a, .ty "tuple", .type "list", _, false, rfl, .ty _, tyL h1, kit_ty (by decide +kernel), .ref b, rfl, ⟨.ref b, .ty "tuple", .type "list", _, false, rfl, .ty _, tyL h2, kit_ty (by decide +kernel), rfl, _, rfl, iteNS rfl ?_⟩⟩⟩
          refine ⟨.ref a, rfl, .ref a, xs.length, rfl, .inl ⟨xs, h1, rfl⟩, .ref b, rfl, .ref b, ys.length, rfl, .inl ⟨ys, h2, rfl⟩, rfl, _, rfl, ?_⟩
          rw [show decide (V.int (xs.length : Nat) = V.int (ys.length : Nat)) = true from decide_eq_true (by rw [hlen])]
          refine iteT ⟨.ref a, rfl, .ref b, rfl, a, b, xs, ys, rfl, .inl ⟨h1, h2, fun D hD => ?_⟩⟩
          refine lc_it (walk_zip (xs := xs) (ys := ys) (n := xs.length) (by omega)) (fun i G => G D = some (.lst (List.replicate i (V.bl true))) ∧ Same (upd H t (.tup [.ty "list", .ty "tuple"])) G) ⟨upd_same, same_new hD⟩ (fun i G _ z => ⟨(z.2.seq h1), (z.2.seq h2)⟩) ?_ ?_
          · rintro i _ G G' hi ⟨zD, zS⟩ ⟨T, u, v, rfl, hT, rfl, e1, e2⟩
            refine ⟨T, [u, v], rfl, .inl (.inl upd_same), rfl, u, [v], rfl, v, [], rfl, rfl, rfl, ?_⟩
            show tCall (spSame K n) [] E0 (tCons (tVar 2) (tCons (tVar 3) tNil)) _ _ _
            have S2 : Same H (upd G T (.tup [u, v])) := (S1.trans zS).trans (same_new hT)
            refine ⟨u, rfl, v, rfl, u, v, rfl, Eqd.same S2 (get_paired hp e1 e2), fun G2 S3 => ⟨_, S3 _ _ (by rw [upd_ne (ne_of_none zD hT)]; exact zD), ?_, ?_, ?_⟩⟩
            · rw [List.length_replicate]
              exact Nat.lt_of_lt_of_le (show i < 100001 by omega) (by decide)
            · rw [upd_same, List.replicate_succ']
            · refine fun c o e => ?_
              have e' := S3 c o (by rw [upd_ne (ne_of_none (zS c o e) hT)]; exact zS c o e)
              by_cases hc : c = D
              · subst hc
                rw [hD] at e
                cases e
              · rw [upd_ne hc]; exact e'
          · rintro G ⟨zD, zS⟩
            refine ⟨D, List.replicate xs.length true, rfl, .inl (.inl (by rw [List.map_replicate]; exact zD)), ?_⟩
            rw [show (List.replicate xs.length true).all id = true from List.all_eq_true.mpr (fun z hz => List.eq_of_mem_replicate hz)]
            exact q _ (S1.trans zS)
        · refine ⟨.ref b, rfl, by show 2 ≤ sizeLine; decide, fun t ht => ⟨.ref b, t, _, .type "tuple", _, true, rfl, upd_same, lt2, tyT (same_sqt (same_new ht) hb), lt2T, _, rfl, iteT ?_⟩⟩
          have S1 : Same H (upd H t (.tup [.ty "list", .ty "tuple"])) := same_new ht
          have h1 := (same_sqt S1 ha)
          have h2 := (same_sqt S1 hb)
          refine ⟨.ref a, rfl, ⟨.ref a, .ty "list", .type "tuple", _, false, rfl, .ty _, tyT h1, kit_ty (by decide +kernel), .ref b, rfl, ⟨.ref b, .ty "list", .type "tuple", _, false, rfl, .ty _, tyT h2, kit_ty (by decide +kernel), rfl, _, rfl, iteNS rfl ?_⟩⟩⟩
          refine ⟨.ref a, rfl, ⟨.ref a, .ty "tuple", .type "tuple", _, true, rfl, .ty _, tyT h1, kit_ty (by decide +kernel), .ref b, rfl, ⟨.ref b, .ty "tuple", .type "tuple", _, true, rfl, .ty _, tyT h2, kit_ty (by decide +kernel), rfl, _, rfl, iteNS rfl ?_⟩⟩⟩
          refine ⟨.ref a, rfl, .ref a, xs.length, rfl, .inr ⟨xs, h1, rfl⟩, .ref b, rfl, .ref b, ys.length, rfl, .inr ⟨ys, h2, rfl⟩, rfl, _, rfl, ?_⟩
          rw [show decide (V.int (xs.length : Nat) = V.int (ys.length : Nat)) = true from decide_eq_true (by rw [hlen])]
          refine iteT ⟨.ref a, rfl, .ref b, rfl, a, b, xs, ys, rfl, .inr ⟨h1, h2, fun D hD => ?_⟩⟩
          refine lc_it (walk_zipT (xs := xs) (ys := ys) rfl hlen.symm) (fun i G => G D = some (.lst (List.replicate i (V.bl true))) ∧ Same (upd H t (.tup [.ty "list", .ty "tuple"])) G) ⟨upd_same, same_new hD⟩ (fun i G _ z => ⟨(same_sqt z.2 h1), (same_sqt z.2 h2)⟩) ?_ ?_
          · rintro i _ G G' hi ⟨zD, zS⟩ ⟨T, u, v, rfl, hT, rfl, e1, e2⟩
            refine ⟨T, [u, v], rfl, .inl (.inl upd_same), rfl, u, [v], rfl, v, [], rfl, rfl, rfl, ?_⟩
            show tCall (spSame K n) [] E0 (tCons (tVar 2) (tCons (tVar 3) tNil)) _ _ _
            have S2 : Same H (upd G T (.tup [u, v])) := (S1.trans zS).trans (same_new hT)
            refine ⟨u, rfl, v, rfl, u, v, rfl, Eqd.same S2 (get_paired hp e1 e2), fun G2 S3 => ⟨_, S3 _ _ (by rw [upd_ne (ne_of_none zD hT)]; exact zD), ?_, ?_, ?_⟩⟩
            · rw [List.length_replicate]
              exact Nat.lt_of_lt_of_le (show i < 100001 by omega) (by decide)
            · rw [upd_same, List.replicate_succ']
            · refine fun c o e => ?_
              have e' := S3 c o (by rw [upd_ne (ne_of_none (zS c o e) hT)]; exact zS c o e)
              by_cases hc : c = D
              · subst hc
                rw [hD] at e
                cases e
              · rw [upd_ne hc]; exact e'
          · rintro G ⟨zD, zS⟩
            refine ⟨D, List.replicate xs.length true, rfl, .inl (.inl (by rw [List.map_replicate]; exact zD)), ?_⟩
            rw [show (List.replicate xs.length true).all id = true from List.all_eq_true.mpr (fun z hz => List.eq_of_mem_replicate hz)]
            exact q _ (S1.trans zS)
      · refine ⟨(.ref a), rfl, by show 2 ≤ sizeLine; decide, fun t ht => ⟨(.ref a), t, _, .ref C, _, false, rfl, upd_same, lt2, (.exc0 ((same_new ht) _ _ ha) hC.self.ex), lt2F hC.l hC.t, _, rfl, iteF ?_⟩⟩
        refine ⟨(.ref a), rfl, by show 2 ≤ sizeLine; decide, fun t2 ht2 => ⟨(.ref a), t2, _, .ref C, _, false, rfl, upd_same, lt2, (.exc0 (((same_new ht).trans (same_new ht2)) _ _ ha) hC.self.ex), lt2F hC.l hC.t, _, rfl, iteF ?_⟩⟩
        have S := (same_new ht (o := .tup [.ty "list", .ty "tuple"])).trans (same_new ht2 (o := .tup [.ty "list", .ty "tuple"]))
        refine ⟨(.ref a), rfl, rfl, _, rfl, iteF ?_⟩
        refine ⟨(.ref a), rfl, rfl, _, rfl, iteF ?_⟩
        refine ⟨(.ref a), rfl, (.ref a), .ty "bool", .ref C, _, false, rfl, .ty _, (.exc0 (S _ _ ha) hC.self.ex), hC.b, _, rfl, iteF ⟨(.ref a), rfl, (.ref a), .ty "bool", .ref C, _, false, rfl, .ty _, (.exc0 (S _ _ ha) hC.self.ex), hC.b, _, rfl, iteF ?_⟩⟩
        refine ⟨(.ref a), rfl, (.ref a), .ty "int", .ref C, _, false, rfl, .ty _, (.exc0 (S _ _ ha) hC.self.ex), hC.i, _, rfl, iteF ⟨(.ref a), rfl, (.ref a), .ty "int", .ref C, _, false, rfl, .ty _, (.exc0 (S _ _ ha) hC.self.ex), hC.i, _, rfl, iteF ?_⟩⟩
        refine ⟨(.ref a), rfl, (.ref a), .ty "str", .ref C, _, false, rfl, .ty _, (.exc0 (S _ _ ha) hC.self.ex), hC.s, _, rfl, iteF ⟨(.ref a), rfl, (.ref a), .ty "str", .ref C, _, false, rfl, .ty _, (.exc0 (S _ _ ha) hC.self.ex), hC.s, _, rfl, iteF ?_⟩⟩
        exact ⟨(.ref a), rfl, (.ref a), rfl, .inr ⟨a, C, rfl, rfl, S _ _ ha, hC.self, q _ S⟩⟩
end
end Kc

/-! far words: letters behind one another, compared as strings; the law's way there and the program's -/
namespace FarM
abbrev T := List Nat
/-- the first n letters of u u u … -/
def per (u : T) (n : Nat) : T := (List.range n).map fun i => u.getD (i % u.length) 0
theorem per_len (u : T) (n : Nat) : (per u n).length = n := by simp [per]
theorem per_get (u : T) (n i : Nat) (h : i < n) : (per u n)[i]? = some (u.getD (i % u.length) 0) := by
  simp [per, h]
theorem per_ext {u v : T} {n m : Nat} (e : n = m) (h : ∀ i, i < n → u.getD (i % u.length) 0 = v.getD (i % v.length) 0) : per u n = per v m := by
  subst e
  apply List.ext_getElem?
  intro i
  by_cases hi : i < n
  · rw [per_get _ _ _ hi, per_get _ _ _ hi, h i hi]
  · rw [List.getElem?_eq_none (by simp [per_len]; omega), List.getElem?_eq_none (by simp [per_len]; omega)]
/-- agree on |u| + |v| letters: agree everywhere -/
theorem per_all {u v : T} (hu : u ≠ []) (hv : v ≠ []) (h : ∀ i, i < u.length + v.length → u.getD (i % u.length) 0 = v.getD (i % v.length) 0) : ∀ i, u.getD (i % u.length) 0 = v.getD (i % v.length) 0 := by
  have a : 0 < u.length := List.length_pos_iff.2 hu
  have b : 0 < v.length := List.length_pos_iff.2 hv
  intro i
  induction i using Nat.strongRecOn with
  | _ i ih =>
    by_cases hi : i < u.length + v.length
    · exact h i hi
    · have e1 : i % u.length = (i - u.length) % u.length := by rw [Nat.mod_eq_sub_mod (by omega)]
      have e2 : (i - u.length) % v.length = (i - u.length - v.length) % v.length := by rw [Nat.mod_eq_sub_mod (by omega)]
      have e3 : i % v.length = (i - v.length) % v.length := by rw [Nat.mod_eq_sub_mod (by omega)]
      have e4 : (i - v.length) % u.length = (i - v.length - u.length) % u.length := by rw [Nat.mod_eq_sub_mod (by omega)]
      have e5 : i - v.length - u.length = i - u.length - v.length := by omega
      rw [e1, ih (i - u.length) (by omega), e2, ← ih (i - u.length - v.length) (by omega), e3, ← ih (i - v.length) (by omega), e4, e5]
theorem per_probe {u v : T} (hu : u ≠ []) (hv : v ≠ []) {n : Nat} (h : per u (min n (u.length + v.length)) = per v (min n (u.length + v.length))) : per u n = per v n := by
  have g : ∀ i, i < min n (u.length + v.length) → u.getD (i % u.length) 0 = v.getD (i % v.length) 0 := by
    intro i hi
    have e := congrArg (fun l : T => l[i]?) h
    simp only [per_get _ _ _ hi] at e
    exact Option.some.inj e
  by_cases hn : n ≤ u.length + v.length
  · exact per_ext rfl fun i hi => g i (by omega)
  · exact per_ext rfl fun i _ => per_all hu hv (fun i hi => g i (by omega)) i
theorem per_split (u : T) (n m : Nat) (h : m ≤ n) : per u n = per u m ++ (per u n).drop m := by
  have : (per u n).take m = per u m := by
    apply List.ext_getElem?
    intro i
    by_cases hi : i < m
    · rw [List.getElem?_take_of_lt hi, per_get _ _ _ (by omega), per_get _ _ _ hi]
    · rw [List.getElem?_eq_none (by simp [per_len]; omega), List.getElem?_eq_none (by simp [per_len]; omega)]
  rw [← this, List.take_append_drop]
/-- the letters turned -/
def rot (u : T) (k : Nat) : T := u.drop k ++ u.take k
theorem rot_len (u : T) (k : Nat) : (rot u k).length = u.length := by simp [rot]; omega
theorem rot_get {u : T} {k i : Nat} (hk : k < u.length) (hi : i < u.length) : (rot u k).getD i 0 = u.getD ((i + k) % u.length) 0 := by
  unfold rot
  simp only [List.getD_eq_getElem?_getD]
  by_cases h : i < u.length - k
  · rw [List.getElem?_append_left (by simp; omega), List.getElem?_drop, Nat.mod_eq_of_lt (by omega), Nat.add_comm]
  · rw [List.getElem?_append_right (by simp; omega), List.getElem?_take_of_lt (by simp; omega)]
    rw [Nat.mod_eq_sub_mod (by omega), Nat.mod_eq_of_lt (by omega)]
    congr 2
    simp
    omega
theorem per_drop (u : T) (hu : u ≠ []) (n m : Nat) : (per u n).drop m = per (rot u (m % u.length)) (n - m) := by
  have a : 0 < u.length := List.length_pos_iff.2 hu
  apply List.ext_getElem?
  intro i
  rw [List.getElem?_drop]
  by_cases hi : i < n - m
  · rw [per_get _ _ _ (by omega), per_get _ _ _ hi, rot_len, rot_get (Nat.mod_lt _ a) (Nat.mod_lt _ a)]
    congr 2
    rw [← Nat.add_mod, Nat.add_comm]
  · rw [List.getElem?_eq_none (by simp [per_len]; omega), List.getElem?_eq_none (by simp [per_len]; omega)]
theorem per_self (u : T) : per u u.length = u := by
  apply List.ext_getElem?
  intro i
  by_cases hi : i < u.length
  · rw [per_get _ _ _ hi, Nat.mod_eq_of_lt hi]; simp [List.getD_eq_getElem?_getD, hi]
  · rw [List.getElem?_eq_none (by simp [per_len]; omega), List.getElem?_eq_none (by omega)]
theorem per_take (u : T) (k : Nat) (h : k ≤ u.length) : per u k = u.take k := by
  have e := per_split u u.length k h
  rw [per_self] at e
  have : (per u k ++ u.drop k).take k = per u k := by rw [List.take_append_of_le_length (by simp [per_len])]; rw [List.take_of_length_le (by simp [per_len])]
  rw [← this, ← e]
/-- n and m letters, n a multiple -/
theorem per_add (u : T) (hu : u ≠ []) (k m : Nat) : per u (u.length * k + m) = per u (u.length * k) ++ per u m := by
  rw [per_split u (u.length * k + m) (u.length * k) (by omega), per_drop u hu]
  congr 1
  rw [Nat.mul_mod_right]
  simp [rot]
/-- u, a times -/
def rp (u : T) : Nat → T
  | 0 => []
  | n + 1 => u ++ rp u n
theorem rp_per (u : T) (hu : u ≠ []) : ∀ n, rp u n = per u (u.length * n)
  | 0 => by simp [rp, per]
  | n + 1 => by
    have e := per_add u hu 1 (u.length * n)
    rw [Nat.mul_one, per_self] at e
    rw [rp, rp_per u hu n, ← e]
    congr 1
    rw [Nat.mul_add]; omega
theorem rp_len (u : T) : ∀ n, (rp u n).length = u.length * n
  | 0 => by simp [rp]
  | n + 1 => by simp [rp, rp_len u n, Nat.mul_add]; omega
theorem rp_add (u : T) : ∀ n m, rp u (n + m) = rp u n ++ rp u m
  | 0, m => by simp [rp]
  | n + 1, m => by rw [Nat.add_right_comm, rp, rp, rp_add u n m, List.append_assoc]
theorem rp_rep (u : T) (n : Nat) : (List.replicate n u).flatten = rp u n := by
  induction n with
  | zero => rfl
  | succ n ih => simp [List.replicate_succ, rp, ih]
/-! comparing -/
def cmpT (s t : T) : Int := if s = t then 0 else if s < t then -1 else 1
theorem cmp_same (s : T) : cmpT s s = 0 := by simp [cmpT]
theorem lt_app {a b : T} : ∀ {c d : T}, c.length = d.length → c ≠ d → ((c ++ a < d ++ b) ↔ c < d)
  | [], [], _, h => absurd rfl h
  | [], _ :: _, h, _ => by simp at h
  | _ :: _, [], h, _ => by simp at h
  | x :: c, y :: d, h, hn => by
    have hl : c.length = d.length := by simpa using h
    simp only [List.cons_append, List.cons_lt_cons_iff]
    by_cases e : x = y
    · subst e
      have : c ≠ d := fun z => hn (by rw [z])
      simp [lt_app hl this]
    · simp [e]
theorem cmp_app {a b c d : T} (h : c.length = d.length) (hn : c ≠ d) : cmpT (c ++ a) (d ++ b) = cmpT c d := by
  have : c ++ a ≠ d ++ b := fun e => hn (List.append_inj_left e h)
  unfold cmpT
  rw [if_neg this, if_neg hn]
  by_cases z : c < d
  · rw [if_pos z, if_pos ((lt_app h hn).2 z)]
  · rw [if_neg z, if_neg (fun q => z ((lt_app h hn).1 q))]
theorem lt_pre (a b : T) : ∀ c : T, (c ++ a < c ++ b) ↔ a < b
  | [] => by simp
  | x :: c => by simp [lt_pre a b c]
theorem cmp_pre (c a b : T) : cmpT (c ++ a) (c ++ b) = cmpT a b := by
  unfold cmpT
  simp only [List.append_cancel_left_eq, lt_pre]
theorem cmp_nil_l {t : T} (h : t ≠ []) : cmpT [] t = -1 := by
  cases t with
  | nil => exact absurd rfl h
  | cons x t => simp [cmpT]
theorem cmp_nil_r {t : T} (h : t ≠ []) : cmpT t [] = 1 := by
  cases t with
  | nil => exact absurd rfl h
  | cons x t => simp [cmpT]
theorem lt_asymm' {s t : T} (h : s < t) : ¬ t < s := List.lt_asymm h
theorem lt_tot : ∀ {s t : T}, s ≠ t → ¬ s < t → t < s
  | [], [], h, _ => absurd rfl h
  | [], _ :: _, _, g => absurd (by simp) g
  | _ :: _, [], _, _ => by simp
  | x :: s, y :: t, h, g => by
    simp only [List.cons_lt_cons_iff] at g ⊢
    by_cases e : x = y
    · subst e
      have a : s ≠ t := fun z => h (by rw [z])
      have b : ¬ s < t := fun z => g (.inr ⟨rfl, z⟩)
      exact .inr ⟨rfl, lt_tot a b⟩
    · have : ¬ x < y := fun z => g (.inl z)
      exact .inl (by omega)
theorem cmp_swap (s t : T) : cmpT t s = - cmpT s t := by
  unfold cmpT
  by_cases e : s = t
  · subst e; simp
  · rw [if_neg e, if_neg (Ne.symm e)]
    by_cases g : s < t
    · rw [if_pos g, if_neg (lt_asymm' g)]; rfl
    · rw [if_neg g, if_pos (lt_tot e g)]
theorem cmp_zero {s t : T} : cmpT s t = 0 ↔ s = t := by
  unfold cmpT
  by_cases e : s = t
  · simp [e]
  · rw [if_neg e]; by_cases g : s < t <;> simp [g, e]
end FarM

namespace FarM
abbrev Far := List (T × Nat)
/-- all the letters of a far word -/
def ex : Far → T
  | [] => []
  | (u, a) :: r => rp u a ++ ex r
def Ok (r : Far) : Prop := ∀ p ∈ r, p.1 ≠ [] ∧ 1 ≤ p.2
theorem Ok.tail {p : T × Nat} {r : Far} (h : Ok (p :: r)) : Ok r := fun q hq => h q (List.mem_cons_of_mem _ hq)
theorem Ok.head {p : T × Nat} {r : Far} (h : Ok (p :: r)) : p.1 ≠ [] ∧ 1 ≤ p.2 := h p (List.mem_cons_self ..)
theorem ok_app {r s : Far} : Ok (r ++ s) ↔ Ok r ∧ Ok s := by
  constructor
  · intro h; exact ⟨fun p hp => h p (List.mem_append_left _ hp), fun p hp => h p (List.mem_append_right _ hp)⟩
  · rintro ⟨a, b⟩ p hp
    rcases List.mem_append.1 hp with z | z
    · exact a p z
    · exact b p z
theorem ex_app : ∀ r s : Far, ex (r ++ s) = ex r ++ ex s
  | [], s => by simp [ex]
  | (u, a) :: r, s => by simp [ex, ex_app r s]
/-- what is left of a first pair behind m letters -/
def cutP (u : T) (a m : Nat) : Far :=
  let rest := m % u.length
  let left := a - m / u.length - (if 0 < rest then 1 else 0)
  (if 0 < left then [(rot u rest, left)] else []) ++ (if 0 < rest then [(u.drop rest, 1)] else [])
def shiftL : Far → Nat → Far
  | [], _ => []
  | (u, a) :: r, m => cutP u a m ++ r
theorem cutP_ex {u : T} {a m : Nat} (hu : u ≠ []) (h : m ≤ u.length * a) : ex (cutP u a m) = per (rot u (m % u.length)) (u.length * a - m) := by
  have p : 0 < u.length := List.length_pos_iff.2 hu
  have dm := Nat.div_add_mod m u.length
  have lt := Nat.mod_lt m p
  have hr : rot u (m % u.length) ≠ [] := fun z => by have := rot_len u (m % u.length); rw [z] at this; simp at this; omega
  have q1 : m / u.length ≤ a := by
    rcases Nat.lt_or_ge a (m / u.length) with z | z
    · have := Nat.mul_le_mul_left u.length (Nat.succ_le_of_lt z)
      rw [Nat.mul_succ] at this
      omega
    · exact z
  unfold cutP
  by_cases hz : 0 < m % u.length
  · have q2 : m / u.length < a := by
      rcases Nat.lt_or_ge (m / u.length) a with z | z
      · exact z
      · have := Nat.mul_le_mul_left u.length z; omega
    simp only [hz, if_true]
    have e1 : u.length * a - m = (rot u (m % u.length)).length * (a - m / u.length - 1) + (u.length - m % u.length) := by
      rw [rot_len, Nat.mul_sub_one, Nat.mul_sub]
      have := Nat.mul_le_mul_left u.length q2
      rw [Nat.mul_succ] at this
      omega
    have e2 : per (rot u (m % u.length)) (u.length - m % u.length) = u.drop (m % u.length) := by
      rw [per_take _ _ (by rw [rot_len]; omega)]
      simp [rot]
    have e3 : ex (if 0 < a - m / u.length - 1 then [(rot u (m % u.length), a - m / u.length - 1)] else []) = rp (rot u (m % u.length)) (a - m / u.length - 1) := by
      by_cases z : 0 < a - m / u.length - 1
      · rw [if_pos z]; simp [ex]
      · rw [if_neg z, show a - m / u.length - 1 = 0 by omega]; simp [ex, rp]
    rw [ex_app, e3, e1, per_add _ hr, e2, rp_per _ hr]
    simp [ex, rp]
  · have z0 : m % u.length = 0 := by omega
    simp only [z0, Nat.lt_irrefl, if_false, Nat.sub_zero, List.append_nil]
    have e1 : u.length * a - m = (rot u 0).length * (a - m / u.length) := by
      rw [rot_len, Nat.mul_sub]; omega
    rw [e1, ← rp_per _ (by simpa [z0] using hr)]
    by_cases z : 0 < a - m / u.length
    · rw [if_pos z]; simp [ex]
    · rw [if_neg z, show a - m / u.length = 0 by omega]; simp [ex, rp]
theorem cutP_ok {u : T} {a m : Nat} (hu : u ≠ []) : Ok (cutP u a m) := by
  have p : 0 < u.length := List.length_pos_iff.2 hu
  have lt := Nat.mod_lt m p
  unfold cutP
  generalize m % u.length = j at *
  generalize m / u.length = k at *
  refine ok_app.2 ⟨?_, ?_⟩
  · intro q hq
    generalize a - k - (if 0 < j then 1 else 0) = d at *
    by_cases z : 0 < d
    · rw [if_pos z, List.mem_singleton] at hq
      subst hq
      exact ⟨fun z => by have := rot_len u j; simp only at z; rw [z] at this; simp at this; omega, z⟩
    · rw [if_neg z] at hq; simp at hq
  · intro q hq
    by_cases z : 0 < j
    · rw [if_pos z, List.mem_singleton] at hq
      subst hq
      exact ⟨fun z => by have := congrArg List.length z; simp at this; omega, by simp⟩
    · rw [if_neg z] at hq; simp at hq
theorem ex_shift {u : T} {a m : Nat} {r : Far} (hu : u ≠ []) (h : m ≤ u.length * a) : ex ((u, a) :: r) = per u m ++ ex (shiftL ((u, a) :: r) m) := by
  simp only [shiftL, ex, ex_app]
  rw [cutP_ex hu h, rp_per u hu, ← per_drop u hu, ← List.append_assoc, ← per_split _ _ _ h]
/-- pairs that may be split -/
def sp : Far → Nat
  | [] => 0
  | (_, a) :: r => (if 2 ≤ a then 1 else 0) + sp r
def wt : Far → Nat → Nat
  | [], _ => 0
  | _ :: r, o => 1 + sp r + o + wt r o
theorem sp_app : ∀ r s : Far, sp (r ++ s) = sp r + sp s
  | [], s => by simp [sp]
  | (u, a) :: r, s => by simp [sp, sp_app r s]; omega
theorem wt_mono {o o' : Nat} (h : o ≤ o') : ∀ r : Far, wt r o ≤ wt r o'
  | [] => by simp [wt]
  | _ :: r => by have := wt_mono h r; simp [wt]; omega
theorem sp_le : ∀ r : Far, sp r ≤ r.length
  | [] => by simp [sp]
  | (_, a) :: r => by have := sp_le r; simp only [sp, List.length_cons]; split <;> omega
theorem wt_le : ∀ (r : Far) (o : Nat), wt r o ≤ r.length * (r.length + o)
  | [], o => by simp [wt]
  | _ :: r, o => by
    have a := wt_le r o
    have b := sp_le r
    simp only [wt, List.length_cons]
    have : (r.length + 1) * (r.length + 1 + o) = r.length * (r.length + o) + r.length + (r.length + 1 + o) := by
      rw [Nat.add_mul, Nat.one_mul, show r.length + 1 + o = (r.length + o) + 1 by omega, Nat.mul_succ]
    omega
def Phi (l r : Far) : Nat := wt l (sp r) + wt r (sp l)
/-- what is left of a pair that is longer than what was cut -/
theorem cut_low {u : T} {a m : Nat} {r : Far} {o : Nat} (hu : u ≠ []) (h : m < u.length * a) : wt (cutP u a m ++ r) o ≤ wt ((u, a) :: r) o + (if 2 ≤ a then 1 + sp r + o else 0) ∧ sp (cutP u a m ++ r) ≤ sp ((u, a) :: r) := by
  have p : 0 < u.length := List.length_pos_iff.2 hu
  unfold cutP
  generalize m % u.length = j at *
  generalize m / u.length = k at *
  simp only
  by_cases hz : 0 < j
  · simp only [if_pos hz]
    by_cases z : 0 < a - k - 1
    · have a2 : 2 ≤ a := by omega
      simp only [if_pos z, if_pos a2, List.cons_append, List.nil_append, wt, sp]
      constructor
      · simp; omega
      · simp; split <;> omega
    · simp only [if_neg z, List.nil_append, List.cons_append, wt, sp]
      constructor
      · omega
      · simp
  · simp only [if_neg hz, Nat.sub_zero, List.append_nil]
    by_cases z : 0 < a - k
    · simp only [if_pos z, List.cons_append, List.nil_append, wt, sp]
      constructor
      · omega
      · split <;> split <;> omega
    · simp only [if_neg z, List.nil_append, wt, sp]
      constructor
      · omega
      · omega
theorem cut_all {u : T} {a : Nat} (hu : u ≠ []) : cutP u a (u.length * a) = [] := by
  have p : 0 < u.length := List.length_pos_iff.2 hu
  unfold cutP
  rw [Nat.mul_mod_right, Nat.mul_div_cancel_left a p]
  simp
theorem phi_drop {u v : T} {a b : Nat} {l r : Far} (hu : u ≠ []) (hv : v ≠ []) (ha : 1 ≤ a) (hb : 1 ≤ b) :
    Phi (shiftL ((u, a) :: l) (min (u.length * a) (v.length * b))) (shiftL ((v, b) :: r) (min (u.length * a) (v.length * b))) < Phi ((u, a) :: l) ((v, b) :: r) := by
  have pu : 0 < u.length * a := Nat.mul_pos (List.length_pos_iff.2 hu) ha
  have pv : 0 < v.length * b := Nat.mul_pos (List.length_pos_iff.2 hv) hb
  have m1 (x : Far) {o o' : Nat} (h : o ≤ o') := wt_mono h x
  have w (x y : T × Nat) (l r : Far) : wt (x :: l) (sp (y :: r)) = 1 + sp l + sp (y :: r) + wt l (sp (y :: r)) := rfl
  have s (v : T) (b : Nat) (r : Far) : sp ((v, b) :: r) = (if 2 ≤ b then 1 else 0) + sp r := rfl
  have sl (v : T) (b : Nat) (r : Far) : sp r ≤ sp ((v, b) :: r) := by rw [s]; omega
  rcases Nat.lt_trichotomy (u.length * a) (v.length * b) with h | h | h
  · rw [Nat.min_eq_left (by omega)]
    simp only [shiftL, cut_all hu, List.nil_append, Phi]
    have c := fun o => cut_low (r := r) (o := o) hv h
    have c2 := (c 0).2
    have c1 := (c (sp l)).1
    have e1 := m1 l c2
    have e3 := m1 ((v, b) :: r) (sl u a l)
    rw [w]
    have sv := s v b r
    by_cases z : 2 ≤ b
    · rw [if_pos z] at sv c1; omega
    · rw [if_neg z] at sv c1; omega
  · rw [h, Nat.min_self]
    simp only [shiftL]
    rw [cut_all hv, ← h, cut_all hu]
    simp only [List.nil_append, Phi]
    have e1 := m1 l (sl v b r)
    have e3 := m1 r (sl u a l)
    rw [w, w]
    omega
  · rw [Nat.min_eq_right (by omega)]
    simp only [shiftL, cut_all hv, List.nil_append, Phi]
    have c := fun o => cut_low (r := l) (o := o) hu h
    have c2 := (c 0).2
    have c1 := (c (sp r)).1
    have e1 := m1 r c2
    have e3 := m1 ((u, a) :: l) (sl v b r)
    rw [w (v, b)]
    have sv := s u a l
    by_cases z : 2 ≤ a
    · rw [if_pos z] at sv c1; omega
    · rw [if_neg z] at sv c1; omega
/-- the law's turn, so many times -/
def lawCmp : Nat → Far → Far → Int
  | 0, _, _ => 0
  | _ + 1, [], [] => 0
  | _ + 1, [], _ :: _ => -1
  | _ + 1, _ :: _, [] => 1
  | n + 1, (u, a) :: l, (v, b) :: r =>
    let size := min (u.length * a) (v.length * b)
    let probe := min size (u.length + v.length)
    if per u probe ≠ per v probe then (if per u probe < per v probe then -1 else 1)
    else lawCmp n (shiftL ((u, a) :: l) size) (shiftL ((v, b) :: r) size)
theorem ex_ne {p : T × Nat} {r : Far} (h : Ok (p :: r)) : ex (p :: r) ≠ [] := by
  obtain ⟨u, a⟩ := p
  have ⟨h1, h2⟩ := h.head
  intro z
  have := congrArg List.length z
  have p : 0 < u.length := List.length_pos_iff.2 h1
  have : 0 < u.length * a := Nat.mul_pos p h2
  simp [ex, rp_len] at z
  have := rp_len u a
  rw [z.1] at this
  simp at this
  omega
theorem ok_shift {u : T} {a m : Nat} {r : Far} (h : Ok ((u, a) :: r)) : Ok (shiftL ((u, a) :: r) m) := ok_app.2 ⟨cutP_ok h.head.1, h.tail⟩
theorem law_cmp : ∀ (n : Nat) (l r : Far), Ok l → Ok r → Phi l r < n → lawCmp n l r = cmpT (ex l) (ex r)
  | 0, _, _, _, _, h => by omega
  | n + 1, [], [], _, _, _ => by simp [lawCmp, cmp_same]
  | n + 1, [], q :: r, _, hr, _ => by simp only [lawCmp]; rw [show ex [] = [] from rfl, cmp_nil_l (ex_ne hr)]
  | n + 1, p :: l, [], hl, _, _ => by simp only [lawCmp]; rw [show ex [] = [] from rfl, cmp_nil_r (ex_ne hl)]
  | n + 1, (u, a) :: l, (v, b) :: r, hl, hr, h => by
    have ⟨hu, ha⟩ := hl.head
    have ⟨hv, hb⟩ := hr.head
    simp only at hu ha hv hb
    simp only [lawCmp]
    have s1 := Nat.min_le_left (u.length * a) (v.length * b)
    have s2 := Nat.min_le_right (u.length * a) (v.length * b)
    have d := phi_drop (l := l) (r := r) hu hv ha hb
    generalize min (u.length * a) (v.length * b) = size at *
    rw [ex_shift (r := l) hu s1, ex_shift (r := r) hv s2]
    by_cases e : per u (min size (u.length + v.length)) = per v (min size (u.length + v.length))
    · rw [if_neg (by simp [e]), law_cmp n _ _ (ok_shift hl) (ok_shift hr) (by omega), per_probe hu hv e, cmp_pre]
    · rw [if_pos e]
      have f1 := per_split u size (min size (u.length + v.length)) (Nat.min_le_left ..)
      have f2 := per_split v size (min size (u.length + v.length)) (Nat.min_le_left ..)
      rw [f1, f2, List.append_assoc, List.append_assoc, cmp_app (by simp [per_len]) e]
      simp [cmpT, e]
theorem phi_bound (l r : Far) : Phi l r < (l.length + r.length + 2) ^ 2 + 9 := by
  have a := wt_le l (sp r)
  have b := wt_le r (sp l)
  have c := sp_le l
  have d := sp_le r
  have a' := Nat.le_trans a (Nat.mul_le_mul_left l.length (Nat.add_le_add_left d l.length))
  have b' := Nat.le_trans b (Nat.mul_le_mul_left r.length (Nat.add_le_add_left c r.length))
  unfold Phi
  have e : (l.length + r.length + 2) ^ 2 = l.length * (l.length + r.length) + r.length * (r.length + l.length) + 4 * (l.length + r.length) + 4 := by
    generalize l.length = x
    generalize r.length = y
    simp only [Nat.pow_succ, Nat.pow_zero, Nat.one_mul, Nat.add_mul, Nat.mul_add, Nat.mul_comm y x]
    omega
  omega
/-! the program's way: runs -/
def rex : Far → T
  | [] => []
  | (u, n) :: r => per u n ++ rex r
theorem rex_len_pos {p : T × Nat} {r : Far} (h : Ok (p :: r)) : rex (p :: r) ≠ [] := by
  obtain ⟨u, a⟩ := p
  have ⟨_, h2⟩ := h.head
  intro z
  have := congrArg List.length z
  simp [rex, per_len] at this
  simp at h2
  omega
def runsOf (r : Far) : Far := r.map fun p => (p.1, p.1.length * p.2)
theorem rex_runs : ∀ {r : Far}, Ok r → rex (runsOf r) = ex r
  | [], _ => rfl
  | (u, a) :: r, h => by
    have := rex_runs h.tail
    unfold runsOf at this
    simp only [runsOf, List.map_cons, rex, ex, this, rp_per u h.head.1]
theorem ok_runs {r : Far} (h : Ok r) : Ok (runsOf r) := by
  intro p hp
  simp only [runsOf, List.mem_map] at hp
  obtain ⟨q, hq, rfl⟩ := hp
  have ⟨a, b⟩ := h q hq
  exact ⟨a, Nat.mul_pos (List.length_pos_iff.2 a) b⟩
/-- a run behind m of its letters; none, if no letter is left -/
def behind (u : T) (n m : Nat) : Far := if m < n then [(rot u (m % u.length), n - m)] else []
theorem rex_app : ∀ r s : Far, rex (r ++ s) = rex r ++ rex s
  | [], s => by simp [rex]
  | (u, a) :: r, s => by simp [rex, rex_app r s]
theorem rex_behind {u : T} {n m : Nat} (hu : u ≠ []) (h : m ≤ n) : per u n = per u m ++ rex (behind u n m) := by
  rw [per_split u n m h, per_drop u hu]
  unfold behind
  by_cases z : m < n
  · simp [z, rex]
  · rw [if_neg z, show n - m = 0 by omega]; simp [rex, per]
theorem ok_behind {u : T} {n m : Nat} (hu : u ≠ []) : Ok (behind u n m) := by
  unfold behind
  split
  · rename_i h
    intro p hp
    simp at hp
    subst hp
    refine ⟨fun z => ?_, by simp; omega⟩
    have := rot_len u (m % u.length)
    simp only at z
    rw [z] at this
    have p := List.length_pos_iff.2 hu
    simp at this
    omega
  · intro p hp; simp at hp
theorem runs_step {u v : T} {a b : Nat} {l r : Far} (hl : Ok ((u, a) :: l)) (hr : Ok ((v, b) :: r)) :
    (per u (min (min a b) (u.length + v.length)) = per v (min (min a b) (u.length + v.length)) → cmpT (rex ((u, a) :: l)) (rex ((v, b) :: r)) = cmpT (rex (behind u a (min a b) ++ l)) (rex (behind v b (min a b) ++ r))) ∧
    (per u (min (min a b) (u.length + v.length)) ≠ per v (min (min a b) (u.length + v.length)) → cmpT (rex ((u, a) :: l)) (rex ((v, b) :: r)) = cmpT (per u (min (min a b) (u.length + v.length))) (per v (min (min a b) (u.length + v.length)))) := by
  have hu := hl.head.1
  have hv := hr.head.1
  simp only at hu hv
  have e1 : rex ((u, a) :: l) = per u (min a b) ++ rex (behind u a (min a b) ++ l) := by rw [rex, rex_behind hu (Nat.min_le_left a b), rex_app, List.append_assoc]
  have e2 : rex ((v, b) :: r) = per v (min a b) ++ rex (behind v b (min a b) ++ r) := by rw [rex, rex_behind hv (Nat.min_le_right a b), rex_app, List.append_assoc]
  rw [e1, e2]
  generalize min a b = size
  constructor
  · intro e
    rw [per_probe hu hv e, cmp_pre]
  · intro e
    have f1 := per_split u size (min size (u.length + v.length)) (Nat.min_le_left ..)
    have f2 := per_split v size (min size (u.length + v.length)) (Nat.min_le_left ..)
    rw [f1, f2, List.append_assoc, List.append_assoc, cmp_app (by simp [per_len]) e]
/-- the first letters by a text told often enough -/
theorem rp_take {u : T} {n : Nat} (hu : u ≠ []) : (rp u (n / u.length + 1)).take n = per u n := by
  rw [rp_per u hu]
  have h : n ≤ u.length * (n / u.length + 1) := by
    have := Nat.div_add_mod n u.length
    have := Nat.mod_lt n (List.length_pos_iff.2 hu)
    rw [Nat.mul_add]; omega
  have e := per_split u (u.length * (n / u.length + 1)) n h
  rw [e, List.take_append_of_le_length (by simp [per_len]), List.take_of_length_le (by simp [per_len])]
/-- a letter by its place -/
def letAt : Far → Nat → Option Nat
  | [], _ => none
  | (u, a) :: r, k => if k < u.length * a then some (u.getD (k % u.length) 0) else letAt r (k - u.length * a)
theorem letAt_ex : ∀ {r : Far} (k : Nat), Ok r → letAt r k = (ex r)[k]?
  | [], k, _ => by simp [letAt, ex]
  | (u, a) :: r, k, h => by
    simp only [letAt, ex, rp_per u h.head.1]
    by_cases z : k < u.length * a
    · rw [if_pos z, List.getElem?_append_left (by simpa [per_len] using z), per_get _ _ _ z]
    · rw [if_neg z, List.getElem?_append_right (by simp [per_len]; omega), per_len, letAt_ex _ h.tail]
def size : Far → Nat
  | [] => 0
  | (u, a) :: r => u.length * a + size r
theorem size_ex : ∀ r : Far, (ex r).length = size r
  | [] => rfl
  | (u, a) :: r => by simp [ex, size, rp_len, size_ex r]
end FarM

set_option Elab.async false
set_option linter.all false
set_option maxRecDepth 100000
set_option maxHeartbeats 4000000
/-! texts as lists of signs: a text times an int, a text read from behind, the least of three -/
namespace Kc
open PySem PySem.Builtin PySem.Spec PyProof.Rows L2 Ke RZ FarM
def S (u : List Nat) : Str := ⟨u.toArray⟩
theorem S_list (u : List Nat) : (S u).cps.toList = u := by simp [S]
theorem S_len (u : List Nat) : (S u).length = u.length := by show u.toArray.size = _; simp
theorem S_of (x : Str) : S x.cps.toList = x := by cases x; simp [S]
theorem S_inj {u v : List Nat} (h : S u = S v) : u = v := by have := congrArg (fun x : Str => x.cps.toList) h; simpa [S] using this
theorem S_app (u v : List Nat) : S u ++ S v = S (u ++ v) := by
  show (⟨u.toArray ++ v.toArray⟩ : Str) = _
  simp [S]
theorem mul_S (u : List Nat) (n : Nat) : Txt.mul (S u) (n : Int) = S (rp u n) := by
  unfold Txt.mul
  by_cases h0 : (n : Int) < 1
  · rw [if_pos h0]
    have : n = 0 := by omega
    subst this
    rfl
  · rw [if_neg h0]
    by_cases h1 : (((n : Int) == 1) || (S u).length == 0) = true
    · rw [if_pos h1]
      rw [Bool.or_eq_true] at h1
      rcases h1 with h | h
      · have : n = 1 := by have := eq_of_beq h; omega
        subst this
        simp [rp]
      · rw [S_len] at h
        have : u = [] := List.length_eq_zero_iff.1 (eq_of_beq h)
        subst this
        have : ∀ k, rp [] k = [] := fun k => List.length_eq_zero_iff.1 (by simp [rp_len])
        rw [this]
    · rw [if_neg h1]
      have g : ∀ (k : Nat) (a : Array Nat), ((List.replicate k u.toArray).foldl (· ++ ·) a).toList = a.toList ++ rp u k := by
        intro k
        induction k with
        | zero => intro a; simp [rp]
        | succ k ih => intro a; rw [List.replicate_succ, List.foldl_cons, ih]; simp [rp]
      have e := g n #[]
      show (⟨(List.replicate ((n : Int)).toNat u.toArray).foldl (· ++ ·) #[]⟩ : Str) = S (rp u n)
      rw [Int.toNat_natCast]
      unfold S
      congr 1
      apply Array.toList_inj.1
      rw [e]
      simp
theorem op_mulS {X : Cx} : OpR X (binaryOp .Mult) (fun x y H Q => ∃ (u : List Nat) (n : Nat), x = .str (S u) ∧ y = .int (n : Int) ∧ u.length ≤ 4096 ∧ n ≤ 4096 ∧ Q (.str (S (rp u n))) H) := by
  intro pins s σ H x y v u Q I rx ry h
  obtain ⟨z, n, rfl, rfl, h1, h2, q⟩ := h
  obtain ⟨t, rfl⟩ := rx
  obtain ⟨t', rfl⟩ := ry
  exact SB.mul (mulOk_of 4096 4096 (by rw [S_len]; exact h1) (by omega) (by omega) (by decide) (by decide)) fun t' tk => by
    rw [mul_S]
    exact ⟨.str (S (rp z n)), H, I.tok _, ⟨_, rfl⟩, q⟩
theorem krv_str (n : Nat) : Builtin.Str.strSliceIndices none none (-1) n = (List.range n).reverse := by
  unfold Builtin.Str.strSliceIndices
  show sliceRange ((n : Int) - 1) (-1) (-1) = _
  exact (PySem.W.krv_sliceRange n).trans (PySem.W.krv_range n)
def tRevS (te : TE) : TE := fun σ H Q => te σ H fun x H1 => ∃ u : List Nat, x = .str (S u) ∧ u.length ≤ 4096 ∧ Q (.str (S u.reverse)) H1
theorem pe_revS {X : Cx} {e : Expr} {te : TE} {k : Nat} {p1 p2 p3 pos : Pos} (he : PE X e te) : PE X (.Subscript e (.Slice none none (some (.UnaryOp .USub (.Constant (.int 1) k p1) p2)) p3) pos) (tRevS te) := by
  refine ⟨fun pins s σ H Q I h => ?_⟩
  refine Subscript_ (thn (he.run pins s σ H _ I h) fun v s1 ⟨x, H1, I1, r1, q1⟩ => ?_)
  obtain ⟨z, ex, hx, q⟩ := q1
  subst ex
  obtain ⟨t, rfl⟩ := r1
  have hst : PO X (some (.UnaryOp .USub (.Constant (.int 1) k p1) p2)) (tPart (tUn (rU fun i => .int (-i)) (tC (.int 1)))) := po_some (pe_un un_neg pe_int)
  refine wpAny_Slice (thn (po_none.run pins s1 σ H1 (fun o H2 => o = none ∧ H2 = H1) I1 ⟨rfl, rfl⟩) fun vl s2 ⟨l, H2, I2, pl, el, e2⟩ => ?_)
  subst el e2
  refine thn (po_none.run pins s2 σ H2 (fun o H3 => o = none ∧ H3 = H2) I2 ⟨rfl, rfl⟩) fun vu s3 ⟨u, H3, I3, pu, eu, e3⟩ => ?_
  subst eu e3
  refine thn (hst.run pins s3 σ H3 (fun o H4 => o = some (-1) ∧ H4 = H3) I3 ⟨1, rfl, -1, rfl, rfl, rfl⟩) fun vs s4 ⟨o, H4, I4, ps, eo, e4⟩ => ?_
  subst eo e4
  have I5 : Inv X pins σ H4 { s4 with heap := s4.heap.push { cls := .type "slice", data := .fields #[vl, vu, vs] } } := I4.kept (t' := s4.toks) fun b ob q => Heap.get?_push_of_some _ q
  show wpAny (model X.prog X.w) X.A (subscriptTail e (.Slice none none (some (.UnaryOp .USub (.Constant (.int 1) k p1) p2)) p3) (.str (S z) t) (.ref s4.heap.objs.size)) (EP X pins σ Q) X.xe { s4 with heap := s4.heap.push { cls := .type "slice", data := .fields #[vl, vu, vs] } }
  obtain ⟨l, rfl, el⟩ := IsPart.raw pl
  obtain ⟨u, rfl, eu⟩ := IsPart.raw pu
  obtain ⟨o, rfl, eo⟩ := IsPart.raw ps
  refine tail_any (ops := [.ref s4.heap.objs.size, .str (S z) t]) (typeIs_str _ _ _) (F.slot_str_getitem.lookup) ?_ (by with_unfolding_all rfl)
  refine wpAny_getItem_str_slice (l := l) (u := u) (st := o) ⟨_, Heap.get?_push_size _ rfl, rfl, rfl⟩ (by rw [eo]; rfl) ?_
  unfold sliceMade slicePicked
  rw [el, eu, eo]
  have e0 : (Builtin.Str.strSliceIndices none none (((some (-1 : Int))).getD 1) (S z).length).filterMap ((S z).cps[·]?) = z.reverse := by
    show (Builtin.Str.strSliceIndices none none (-1) (S z).length).filterMap ((S z).cps[·]?) = z.reverse
    rw [krv_str, List.filterMap_reverse]
    have := PySem.W.krv_all (S z).cps
    rw [show (S z).length = (S z).cps.size from rfl, this, S_list]
  rw [e0]
  rw [if_neg (fun c => by simp at c)]
  refine ⟨?_, .str (S z.reverse), _, I5.tok _, ⟨_, rfl⟩, q⟩
  show z.reverse.toArray.size ≤ sizeLine
  rw [List.size_toArray, List.length_reverse]
  exact Nat.le_trans hx (by decide)
theorem min3 {X : Cx} (hc : X.calm = true) : CallR X (.builtin "min") (fun xs H Q => ∃ i j k : Nat, xs = [.int (i : Int), .int (j : Int), .int (k : Int)] ∧ Q (.int ((min (min i j) k : Nat) : Int)) H) := by
  intro pins s σ H xs us Q I r h
  obtain ⟨i, j, k, rfl, q⟩ := h
  refine call_min3Nu hc pins s σ H _ us Q I r ⟨_, _, _, _, rfl, ?_, q⟩
  show (some (if decide ((j : Int) < i) = true then V.int j else V.int i)).bind (fun m => nuMin2 m (V.int k)) = _
  by_cases a : j < i
  · rw [if_pos (decide_eq_true (by omega))]
    show some (if decide ((k : Int) < j) = true then V.int k else V.int j) = _
    by_cases b : k < j
    · rw [if_pos (decide_eq_true (by omega)), Nat.min_eq_right (by omega : j ≤ i), Nat.min_eq_right (by omega : k ≤ j)]
    · rw [if_neg (fun z => by have := of_decide_eq_true z; omega), Nat.min_eq_right (by omega : j ≤ i), Nat.min_eq_left (by omega : j ≤ k)]
  · rw [if_neg (fun z => by have := of_decide_eq_true z; omega)]
    show some (if decide ((k : Int) < i) = true then V.int k else V.int i) = _
    by_cases b : k < i
    · rw [if_pos (decide_eq_true (by omega)), Nat.min_eq_left (by omega : i ≤ j), Nat.min_eq_right (by omega : k ≤ i)]
    · rw [if_neg (fun z => by have := of_decide_eq_true z; omega), Nat.min_eq_left (by omega : i ≤ j), Nat.min_eq_left (by omega : i ≤ k)]
end Kc

set_option Elab.async false
set_option linter.all false
set_option maxRecDepth 100000
set_option maxHeartbeats 4000000
/-! the program: far words judged -/
namespace Kc
open PySem PySem.Spec PyProof.Rows L2 Ke RZ FarM
abbrev sNum : Stmt := topS 4
abbrev sNumIn : Stmt := topS 5
abbrev sLetters : Stmt := topS 8
abbrev sPair : Stmt := topS 21
abbrev sIsFar : Stmt := topS 16
abbrev sCheck : Stmt := topS 20
theorem scNum : FnScope ["value"] ["value"] (defScope sNum) := ⟨rfl, rfl, rfl, by decide +kernel, rfl, by decide +kernel, by decide +kernel⟩
theorem scNumIn : FnScope ["value", "low", "high"] ["value", "low", "high"] (defScope sNumIn) := ⟨rfl, rfl, rfl, by decide +kernel, rfl, by decide +kernel, by decide +kernel⟩
theorem scLetters : FnScope ["value"] ["value"] (defScope sLetters) := ⟨rfl, rfl, rfl, by decide +kernel, rfl, by decide +kernel, by decide +kernel⟩
theorem scPair : FnScope ["value"] ["value"] (defScope sPair) := ⟨rfl, rfl, rfl, by decide +kernel, rfl, by decide +kernel, by decide +kernel⟩
theorem scIsFar : FnScope ["value", "pair"] ["value"] (defScope sIsFar) := ⟨rfl, rfl, rfl, by decide +kernel, rfl, by decide +kernel, by decide +kernel⟩
theorem scCheck : FnScope ["value"] ["value"] (defScope sCheck) := ⟨rfl, rfl, rfl, by decide +kernel, rfl, by decide +kernel, by decide +kernel⟩
/-- letters of a word of the program -/
def WordOk (u : List Nat) : Prop := u ≠ [] ∧ u.length ≤ 40 ∧ ∀ c ∈ u, 97 ≤ c ∧ c ≤ 100
structure FarOk (row : Far) : Prop where
  len : row.length ≤ 7
  each : ∀ p ∈ row, WordOk p.1 ∧ 1 ≤ p.2 ∧ p.2 ≤ 10 ^ 30
theorem FarOk.ok {row : Far} (h : FarOk row) : Ok row := fun p hp => ⟨(h.each p hp).1.1, (h.each p hp).2.1⟩
def PairsAt (H : Hp) : List Addr → Far → Prop
  | r :: rs, p :: row => H r = some (.tup [.str (S p.1), .int (p.2 : Int)]) ∧ PairsAt H rs row
  | [], [] => True
  | _, _ => False
theorem PairsAt.same {H H' : Hp} (e : Same H H') : ∀ {rs : List Addr} {row : Far}, PairsAt H rs row → PairsAt H' rs row
  | _ :: _, _ :: _, h => ⟨e _ _ h.1, PairsAt.same e h.2⟩
  | [], [], _ => trivial
  | [], _ :: _, h => h.elim
  | _ :: _, [], h => h.elim
theorem PairsAt.len {H : Hp} : ∀ {rs : List Addr} {row : Far}, PairsAt H rs row → rs.length = row.length
  | _ :: _, _ :: _, h => congrArg (· + 1) (PairsAt.len h.2)
  | [], [], _ => rfl
  | [], _ :: _, h => h.elim
  | _ :: _, [], h => h.elim
theorem PairsAt.get {H : Hp} : ∀ {rs : List Addr} {row : Far} {k : Nat} {r : Addr}, PairsAt H rs row → rs[k]? = some r → ∃ p, row[k]? = some p ∧ H r = some (.tup [.str (S p.1), .int (p.2 : Int)])
  | _ :: _, p :: _, 0, _, h, e => by
    simp at e
    subst e
    exact ⟨p, rfl, h.1⟩
  | _ :: _, _ :: _, k + 1, r, h, e => by
    obtain ⟨p, h1, h2⟩ := PairsAt.get (k := k) h.2 (by simpa using e)
    exact ⟨p, by simpa using h1, h2⟩
  | [], _, _, _, _, e => by simp at e
  | _ :: _, [], _, _, h, _ => h.elim
/-- a value that is a far word: a tuple of pairs -/
def FarAt (K : PySem.W.Frag) (H : Hp) (x : V) (row : Far) : Prop := ∃ (a : Addr) (ts : List Addr), x = .ref a ∧ SqT K H a (ts.map V.ref) ∧ PairsAt H ts row
theorem FarAt.same {K : PySem.W.Frag} {H H' : Hp} {x : V} {row : Far} (e : Same H H') (h : FarAt K H x row) : FarAt K H' x row := by
  obtain ⟨a, ts, rfl, h1, h2⟩ := h
  exact ⟨a, ts, rfl, same_sqt e h1, h2.same e⟩
structure PMg (mg : Str → Option Value) : Prop extends SameMg mg where
  min : mg "min" = none
  sum : mg "sum" = none
  letters : ∃ t, mg "LETTERS" = some (.str "abcd" t)
  most : ∃ t, mg "MOST_POWER" = some (.int (10 ^ 30) t)
section
variable {P : Program} {w : World} {K : PySem.W.Frag} {mg : Str → Option Value} {base : Heap}
def spNum : Sp := fun vs H Q _ => ∃ i : Int, vs = [.int i] ∧ Q (.bl true) H
theorem ok_num {f : Addr} {fd : FuncData} {k : Nat} (F : Fun K "is_number" "is_number" sNum f fd) (M : PMg mg) : FnOk P w K mg base CX0 (k + 1) f fd ["value"] spNum := by
  refine F.ok scNum (fun vs H Q E h => ?_) (fun cdv A outer s H vs Q E hr h => ?_)
  · obtain ⟨i, rfl, _⟩ := h
    rfl
  · obtain ⟨i, rfl, q⟩ := h
    refine ⟨_, pss_one (ps_ret (pe_and (pe_callB call_is1 (by rfl) M.isinstance (by decide +kernel) (pa_cons (pv 0) (pa_cons (pe_bltn (v := .ty "int") (by rfl) M.int (by decide +kernel) rfl) pa_nil)))
      (pe_one (pe_not (pe_callB call_is1 (by rfl) M.isinstance (by decide +kernel) (pa_cons (pv 0) (pa_cons (pe_bltn (v := .ty "bool") (by rfl) M.bool (by decide +kernel) rfl) pa_nil))))))), ?_⟩
    refine ⟨(.int i), rfl, (.int i), .ty "int", .type "int", _, true, rfl, .ty _, (.base (.base (.int _))), (kit_ty (by decide +kernel)), _, rfl, iteT ?_⟩
    exact ⟨(.int i), rfl, (.int i), .ty "bool", .type "int", _, false, rfl, .ty _, (.base (.base (.int _))), (kit_ty (by decide +kernel)), _, rfl, q⟩
def spNumIn : Sp := fun vs H Q _ => ∃ i lo hi : Int, vs = [.int i, .int lo, .int hi] ∧ lo ≤ i ∧ i ≤ hi ∧ Q (.bl true) H
theorem ok_numIn {f g : Addr} {fd gd : FuncData} {k : Nat} (F : Fun K "is_number_in" "is_number_in" sNumIn f fd) (G : FnOk P w K mg base CX0 (k + 1) g gd ["value"] spNum) (gm : mg "is_number" = some (.ref g)) (kp : PySem.W.keepIn K (.ref g) = true) (bd : Binds K gd ["value"] []) : FnOk P w K mg base CX0 (k + 2) f fd ["value", "low", "high"] spNumIn := by
  refine F.ok scNumIn (fun vs H Q E h => ?_) (fun cdv A outer s H vs Q E hr h => ?_)
  · obtain ⟨i, lo, hi, rfl, _⟩ := h
    rfl
  · obtain ⟨i, lo, hi, rfl, h1, h2, q⟩ := h
    refine ⟨_, pss_one (ps_ret (pe_and (pe_call G hr (by rfl) gm kp bd .nil pass0 (pa_cons (pv 0) pa_nil)) (pe_one (pe_chain op_le op_le (pv 1) (pv 0) (pv 2))))), ?_⟩
    refine ⟨.int i, rfl, i, rfl, _, rfl, iteT ⟨.int lo, rfl, .int i, rfl, _, _, rfl, rfl, true, ?_, ?_⟩⟩
    · show V.bl (decide (lo ≤ i)) = V.bl true
      rw [decide_eq_true h1]
    · refine iteT ⟨.int hi, rfl, _, _, rfl, rfl, ?_⟩
      show Q (.bl (decide (i ≤ hi))) H
      rw [decide_eq_true h2]
      exact q
theorem tw_all {p : Nat → Bool} : ∀ {l : List Nat}, (∀ c ∈ l, p c = true) → l.takeWhile p = l
  | [], _ => rfl
  | c :: l, h => by rw [List.takeWhile_cons, if_pos (h c List.mem_cons_self), tw_all fun d hd => h d (List.mem_cons_of_mem _ hd)]
theorem strip_letters {u : List Nat} (h : ∀ c ∈ u, 97 ≤ c ∧ c ≤ 100) : Txt.stripChars (S u) "abcd" = "" := by
  have hc : ∀ c, 97 ≤ c ∧ c ≤ 100 → ("abcd" : Str).cps.contains c = true := fun c hc => by
    obtain ⟨a, b⟩ := hc
    rcases (by omega : c = 97 ∨ c = 98 ∨ c = 99 ∨ c = 100) with e | e | e | e <;> subst e <;> decide +kernel
  have e1 : PySem.stripLo ("abcd" : Str).cps.contains true (S u) = u.length := by
    show ((S u).cps.toList.takeWhile _).length = _
    rw [S_list, tw_all (fun c hm => hc c (h c hm))]
  have e2 : PySem.stripHi ("abcd" : Str).cps.contains true (S u) u.length = u.length := by
    show (S u).length - (((S u).cps.toList.drop u.length).reverse.takeWhile _).length = _
    rw [S_len, S_list, List.drop_length]
    rfl
  unfold Txt.stripChars Txt.stripBy PySem.stripSame PySem.stripped
  rw [e1, e2]
  by_cases z : u.length = 0
  · have : u = [] := List.length_eq_zero_iff.1 z
    subst this
    rfl
  · rw [if_neg (fun c => by simp at c; exact z (by rw [c.1]; rfl))]
    unfold Builtin.Str.strSub
    rw [Array.extract_eq_empty_of_le (by omega)]
    rfl
def spLetters : Sp := fun vs H Q _ => ∃ u : List Nat, vs = [.str (S u)] ∧ u.length ≤ 40 ∧ (∀ c ∈ u, 97 ≤ c ∧ c ≤ 100) ∧ Q (.bl true) H
theorem ok_letters {f : Addr} {fd : FuncData} {k : Nat} (F : Fun K "is_letters" "is_letters" sLetters f fd) (M : PMg mg) : FnOk P w K mg base CX0 (k + 1) f fd ["value"] spLetters := by
  refine F.ok scLetters (fun vs H Q E h => ?_) (fun cdv A outer s H vs Q E hr h => ?_)
  · obtain ⟨u, rfl, _⟩ := h
    rfl
  · obtain ⟨u, rfl, hl, hu, q⟩ := h
    obtain ⟨t, mgL⟩ := M.letters
    refine ⟨_, pss_one (ps_ret (pe_and (pe_callB call_is1 (by rfl) M.isinstance (by decide +kernel) (pa_cons (pv 0) (pa_cons (pe_bltn (v := .ty "str") (by rfl) M.str (by decide +kernel) rfl) pa_nil)))
      (pe_one (pe_cmpR op_eq (pe_m1 PySem.F.slot_str_strip PySem.F.type_str_strip mt_stripChars (pv 0) (pe_glob (v := .str "abcd") (by rfl) mgL ⟨_, rfl⟩)) pe_str (nomark _))))), ?_⟩
    refine ⟨(.str (S u)), rfl, (.str (S u)), .ty "str", .type "str", _, true, rfl, .ty _, (.base (.base (.str _))), (kit_ty (by decide +kernel)), _, rfl, iteT ?_⟩
    refine ⟨.str (S u), rfl, ⟨_, rfl⟩, S u, "abcd", rfl, rfl, by rw [S_len]; exact Nat.le_trans hl (by decide), ?_⟩
    rw [strip_letters hu]
    exact ⟨rfl, q⟩
def spPair : Sp := fun vs H Q _ => ∃ (a : Addr) (u : List Nat) (n : Nat), vs = [.ref a] ∧ H a = some (.tup [.str (S u), .int (n : Int)]) ∧ WordOk u ∧ 1 ≤ n ∧ n ≤ 10 ^ 30 ∧ Q (.bl true) H
theorem S_ne {u : List Nat} (h : u ≠ []) : S u ≠ "" := fun e => h (S_inj (v := []) e)
theorem ok_pair {f g l : Addr} {fd gd ld : FuncData} {k : Nat} (F : Fun K "_is_pair" "_is_pair" sPair f fd) (M : PMg mg) (G : FnOk P w K mg base CX0 (k + 2) g gd ["value", "low", "high"] spNumIn) (gm : mg "is_number_in" = some (.ref g)) (kp : PySem.W.keepIn K (.ref g) = true) (bd : Binds K gd ["value", "low", "high"] [])
    (L : FnOk P w K mg base CX0 (k + 1) l ld ["value"] spLetters) (lm : mg "is_letters" = some (.ref l)) (lp : PySem.W.keepIn K (.ref l) = true) (ld' : Binds K ld ["value"] []) : FnOk P w K mg base CX0 (k + 3) f fd ["value"] spPair := by
  refine F.ok scPair (fun vs H Q E h => ?_) (fun cdv A outer s H vs Q E hr h => ?_)
  · obtain ⟨a, u, n, rfl, _⟩ := h
    rfl
  · obtain ⟨a, u, n, rfl, ha, hw, h1, h2, q⟩ := h
    obtain ⟨t, mgM⟩ := M.most
    refine ⟨_, pss_cons (ps_if (PW.pt (pw_or (pt_not (pt_val (pe_callB call_is1 (by rfl) M.isinstance (by decide +kernel) (pa_cons (pv 0) (pa_cons (pe_bltn (v := .ty "tuple") (by rfl) M.tuple (by decide +kernel) rfl) pa_nil))))) (pw_or1 (pt_cmpR op_ne (pe_callB call_len (by rfl) M.len PySem.boot_len (pa_cons (pv 0) pa_nil)) pe_int (nomark _))))) (pss_one (ps_ret pe_bl)) pss_nil)
      (pss_one (ps_ret (pe_and (pe_call L (hr.mono (by omega)) (by rfl) lm lp ld' .nil pass0 (pa_cons (pe_ix ix_seq (pv 0) pe_int (fun _ _ => rfl)) pa_nil)) (pe_and (pe_cmpR op_ne (pe_ix ix_seq (pv 0) pe_int (fun _ _ => rfl)) pe_str (nomark _)) (pe_one (pe_call G hr (by rfl) gm kp bd .nil pass0 (pa_cons (pe_ix ix_seq (pv 0) pe_int (fun _ _ => rfl)) (pa_cons pe_int (pa_cons (pe_glob (v := .int (10 ^ 30)) (by rfl) mgM ⟨_, rfl⟩) pa_nil))))))))), ?_⟩
    have hs : SqT K H a [.str (S u), .int (n : Int)] := .inl (.inl ha)
    refine ⟨.ref a, rfl, .ref a, .ty "tuple", .type "tuple", _, true, rfl, .ty _, tyT hs, (kit_ty (by decide +kernel)), _, rfl, iteF ?_⟩
    refine ⟨.ref a, rfl, .ref a, 2, rfl, .inr ⟨_, hs, rfl⟩, rfl, _, rfl, ?_⟩
    rw [show (!decide (V.int ((2 : Nat) : Int) = V.int 2)) = false from rfl]
    refine iteF ?_
    refine ⟨.ref a, rfl, .inr (.inl ⟨a, _, 0, _, rfl, rfl, hs, rfl, ?_⟩)⟩
    refine ⟨u, rfl, hw.2.1, hw.2.2, _, rfl, iteT ?_⟩
    refine ⟨.ref a, rfl, .inr (.inl ⟨a, _, 0, _, rfl, rfl, hs, rfl, ?_⟩)⟩
    refine ⟨rfl, _, rfl, ?_⟩
    rw [show (!decide (V.str (S u) = V.str "")) = true by rw [decide_eq_false (fun z => S_ne hw.1 (V.str.inj z))]; rfl]
    refine iteT ?_
    refine ⟨.ref a, rfl, .inr (.inl ⟨a, _, 1, _, rfl, rfl, hs, rfl, ?_⟩)⟩
    exact ⟨(n : Int), 1, 10 ^ 30, rfl, by omega, by omega, q⟩
/-- a branch that is never taken -/
theorem pss_dead {X : Cx} {st : List Stmt} : PSs X st (fun _ _ _ => False) := ⟨fun _ _ _ _ _ _ h => h.elim⟩
def spIsFar (K : PySem.W.Frag) : Sp := fun vs H Q _ => ∃ (x : V) (row : Far), vs = [x] ∧ FarAt K H x row ∧ FarOk row ∧ ∀ H', Same H H' → Q (.bl true) H'
theorem ok_isFar {f g : Addr} {fd gd : FuncData} {k : Nat} (F : Fun K "is_far" "is_far" sIsFar f fd) (M : PMg mg) (G : FnOk P w K mg base CX0 (k + 3) g gd ["value"] spPair) (gm : mg "_is_pair" = some (.ref g)) (kp : PySem.W.keepIn K (.ref g) = true) (bd : Binds K gd ["value"] []) : FnOk P w K mg base CX0 (k + 4) f fd ["value"] (spIsFar K) := by
  refine F.ok scIsFar (fun vs H Q E h => ?_) (fun cdv A outer s H vs Q E hr h => ?_)
  · obtain ⟨x, row, rfl, _⟩ := h
    rfl
  · obtain ⟨x, row, rfl, ⟨a, ts, rfl, hs, hp⟩, hf, q⟩ := h
    refine ⟨_, pss_one (ps_ret (pe_and (pe_callB call_is1 (by rfl) M.isinstance (by decide +kernel) (pa_cons (pv 0) (pa_cons (pe_bltn (v := .ty "tuple") (by rfl) M.tuple (by decide +kernel) rfl) pa_nil)))
      (pe_one (pe_callB (cr_all rfl) (by rfl) M.all (by decide +kernel) (pa_cons
        (pe_lc (own := [("pair", 1)]) (g := gName 1) (tt := tYes) rfl scIsFar.nd (pi_tup (pv 0)) (blkOk_by (N := ["value", "pair"]) (sc := defScope sIsFar) (by decide +kernel)) (fun _ _ _ _ _ => pg_name (i := 1) scIsFar.nd rfl (Or.inl rfl)) (fun _ _ _ _ _ => pts_nil)
          (fun _ _ _ _ _ => pe_call G hr (by rfl) gm kp bd .nil pass0 (pa_cons (pv 1) pa_nil))) pa_nil))))), ?_⟩
    refine ⟨.ref a, rfl, .ref a, .ty "tuple", .type "tuple", _, true, rfl, .ty _, tyT hs, (kit_ty (by decide +kernel)), _, rfl, iteT ?_⟩
    refine ⟨.ref a, rfl, a, rfl, ⟨_, hs⟩, fun D hD => ?_⟩
    have hlen : ts.length = row.length := hp.len
    refine lc_tup (xs := ts.map V.ref) (fun i G => G D = some (.lst (List.replicate i (V.bl true))) ∧ Same H G) ⟨upd_same, same_new hD⟩ (fun i G _ z => same_sqt z.2 hs) ?_ ?_
    · rintro i x G hx ⟨zD, zS⟩
      rw [List.getElem?_map] at hx
      cases hr' : ts[i]? with
      | none => rw [hr'] at hx; cases hx
      | some r =>
        rw [hr'] at hx
        obtain rfl := (Option.some.inj hx).symm
        obtain ⟨p, hp1, hp2⟩ := hp.get hr'
        have hm : p ∈ row := List.mem_of_getElem? hp1
        have hi : i < 100 := by
          have := (List.getElem?_eq_some_iff.1 hr').1
          have := hf.len
          omega
        have ⟨w1, w2, w3⟩ := hf.each p hm
        refine ⟨rfl, ?_⟩
        show tCall spPair [] E0 (tCons (tVar 1) tNil) _ _ _
        refine ⟨.ref r, rfl, r, p.1, p.2, rfl, zS _ _ hp2, w1, w2, w3, ?_⟩
        refine ⟨_, zD, ?_, ?_, ?_⟩
        · rw [List.length_replicate]
          exact Nat.lt_of_lt_of_le hi (by decide)
        · rw [upd_same, List.replicate_succ']
        · intro c o e
          by_cases hc : c = D
          · subst hc
            rw [hD] at e
            cases e
          · rw [upd_ne hc]; exact zS c o e
    · rintro G ⟨zD, zS⟩
      rw [List.length_map] at zD
      refine ⟨D, List.replicate ts.length true, rfl, .inl (.inl (by rw [List.map_replicate]; exact zD)), ?_⟩
      rw [show (List.replicate ts.length true).all id = true from List.all_eq_true.mpr (fun z hz => List.eq_of_mem_replicate hz)]
      exact q _ zS
theorem ok_check {f g : Addr} {fd gd : FuncData} {k : Nat} (F : Fun K "check_far" "check_far" sCheck f fd) (G : FnOk P w K mg base CX0 (k + 4) g gd ["value"] (spIsFar K)) (gm : mg "is_far" = some (.ref g)) (kp : PySem.W.keepIn K (.ref g) = true) (bd : Binds K gd ["value"] []) :
    FnOk P w K mg base CX0 (k + 5) f fd ["value"] (fun vs H Q _ => ∃ (x : V) (row : Far), vs = [x] ∧ FarAt K H x row ∧ FarOk row ∧ ∀ H', Same H H' → Q .non H') := by
  refine F.ok scCheck (fun vs H Q E h => ?_) (fun cdv A outer s H vs Q E hr h => ?_)
  · obtain ⟨x, row, rfl, _⟩ := h
    rfl
  · obtain ⟨x, row, rfl, hx, hf, q⟩ := h
    refine ⟨_, pss_one (ps_if (pt_not (pt_val (pe_call G hr (by rfl) gm kp bd .nil pass0 (pa_cons (pv 0) pa_nil)))) pss_dead pss_nil), ?_⟩
    refine ⟨x, rfl, x, row, rfl, hx, hf, fun H' e => ⟨true, rfl, iteF (q H' e)⟩⟩
end
end Kc

set_option Elab.async false
set_option linter.all false
set_option maxRecDepth 100000
set_option maxHeartbeats 4000000
/-! the program: runs -/
namespace Kc
open PySem PySem.Spec PyProof.Rows L2 Ke RZ FarM
abbrev sRuns : Stmt := topS 11
abbrev sBehind : Stmt := topS 12
abbrev sFirstL : Stmt := topS 13
abbrev sCmpR : Stmt := topS 14
abbrev sFarLen : Stmt := topS 17
abbrev sFarLet : Stmt := topS 18
theorem scRuns : FnScope ["far", "word", "power"] ["far"] (defScope sRuns) := ⟨rfl, rfl, rfl, by decide +kernel, rfl, by decide +kernel, by decide +kernel⟩
theorem scBehind : FnScope ["run", "many", "word", "length", "turn"] ["run", "many"] (defScope sBehind) := ⟨rfl, rfl, rfl, by decide +kernel, rfl, by decide +kernel, by decide +kernel⟩
theorem scFirstL : FnScope ["word", "many"] ["word", "many"] (defScope sFirstL) := ⟨rfl, rfl, rfl, by decide +kernel, rfl, by decide +kernel, by decide +kernel⟩
theorem scCmpR : FnScope ["one", "other", "many", "left", "right"] ["one", "other"] (defScope sCmpR) := ⟨rfl, rfl, rfl, by decide +kernel, rfl, by decide +kernel, by decide +kernel⟩
theorem scFarLen : FnScope ["far", "word", "power"] ["far"] (defScope sFarLen) := ⟨rfl, rfl, rfl, by decide +kernel, rfl, by decide +kernel, by decide +kernel⟩
theorem scFarLet : FnScope ["far", "at", "word", "power"] ["far", "at"] (defScope sFarLet) := ⟨rfl, rfl, rfl, by decide +kernel, rfl, by decide +kernel, by decide +kernel⟩
theorem cut_to {u : List Nat} {k : Nat} : cutS (S u) none (some (k : Int)) = S (u.take k) := by
  unfold cutS
  rw [show HT.sIx (S u).length 0 none = 0 from HT.sIx_none _ _, show HT.sIx (S u).length (S u).length (some (k : Int)) = min k (S u).length from HT.sIx_nat (S u).length _ k, S_len, S_list, List.drop_zero, Nat.sub_zero]
  unfold S
  congr 2
  by_cases h : k ≤ u.length
  · rw [Nat.min_eq_left h]
  · rw [Nat.min_eq_right (by omega), List.take_of_length_le (Nat.le_refl _), List.take_of_length_le (by omega)]
theorem cut_from {u : List Nat} {k : Nat} : cutS (S u) (some (k : Int)) none = S (u.drop k) := by
  unfold cutS
  rw [show HT.sIx (S u).length (S u).length none = (S u).length from HT.sIx_none _ _, show HT.sIx (S u).length 0 (some (k : Int)) = min k (S u).length from HT.sIx_nat (S u).length _ k, S_len, S_list]
  unfold S
  congr 2
  by_cases h : k ≤ u.length
  · rw [Nat.min_eq_left h, List.take_of_length_le (by simp)]
  · rw [Nat.min_eq_right (by omega), List.drop_of_length_le (Nat.le_refl _), List.drop_of_length_le (by omega : u.length ≤ k)]
    simp
section
variable {P : Program} {w : World} {K : PySem.W.Frag} {mg : Str → Option Value} {base : Heap}
theorem small {n : Nat} (h : n ≤ 5000) : n ≤ sizeLine := Nat.le_trans h (by decide)
theorem lenS {K : PySem.W.Frag} {H : Hp} {u : List Nat} (h : u.length ≤ 5000) : LenV K (.str (S u)) H u.length := ⟨by rw [S_len]; exact small h, S_len u⟩
def spBehind : Sp := fun vs H Q _ => ∃ (a : Addr) (u : List Nat) (n m : Nat), vs = [.ref a, .int (m : Int)] ∧ H a = some (.tup [.str (S u), .int (n : Int)]) ∧ u ≠ [] ∧ u.length ≤ 40 ∧ m ≤ n ∧
  ∀ p, H p = none → Q (.ref p) (upd H p (.tup [.str (S (rot u (m % u.length))), .int ((n - m : Nat) : Int)]))
theorem ok_behind' {f : Addr} {fd : FuncData} {k : Nat} (F : Fun K "run_behind" "run_behind" sBehind f fd) (M : PMg mg) : FnOk P w K mg base CX0 (k + 1) f fd ["run", "many"] spBehind := by
  refine F.ok scBehind (fun vs H Q E h => ?_) (fun cdv A outer s H vs Q E hr h => ?_)
  · obtain ⟨a, u, n, m, rfl, _⟩ := h
    rfl
  · obtain ⟨a, u, n, m, rfl, ha, hu, hl, hm, q⟩ := h
    have hp : 0 < u.length := List.length_pos_iff.2 hu
    refine ⟨_, pss_cons (ps_asg (pv 0) (pg_tup rfl (pgs_cons (pg_name (i := 2) scBehind.nd rfl (Or.inl rfl)) (pgs_cons (pg_name (i := 3) scBehind.nd rfl (Or.inl rfl)) pgs_nil))))
      (pss_cons (ps_set (i := 4) scBehind.nd rfl (Or.inl rfl) (pe_op op_mod (pv 1) (pe_callB call_len (by rfl) M.len PySem.boot_len (pa_cons (pv 2) pa_nil))))
      (pss_one (ps_ret (pe_tup (pa_cons (pe_op op_add_str (pe_slice sl_str (pv 2) (po_some (pv 4)) po_none) (pe_slice sl_str (pv 2) po_none (po_some (pv 4)))) (pa_cons (pe_op op_sub (pv 3) (pv 1)) pa_nil)))))), ?_⟩
    refine ⟨.ref a, rfl, a, [.str (S u), .int n], rfl, .inl (.inl ha), rfl, .str (S u), [.int n], rfl, .int n, [], rfl, rfl, ?_⟩
    refine ⟨.int m, rfl, .str (S u), rfl, .str (S u), u.length, rfl, lenS (by omega), m, u.length, rfl, rfl, by show (0 : Int) < (u.length : Int); omega, ?_⟩
    refine ⟨.str (S u), rfl, .int ((m : Int) % (u.length : Int)), rfl, ((m % u.length : Nat) : Int), by rw [Int.natCast_emod], S u, rfl, by rw [S_len]; exact small (by omega), ?_⟩
    refine ⟨.str (S u), rfl, .int ((m : Int) % (u.length : Int)), rfl, ((m % u.length : Nat) : Int), by rw [Int.natCast_emod], S u, rfl, by rw [S_len]; exact small (by omega), ?_⟩
    rw [cut_from, cut_to]
    refine ⟨S (u.drop (m % u.length)), S (u.take (m % u.length)), rfl, rfl, ?_, ?_⟩
    · rw [S_len, S_len, List.length_drop, List.length_take]; exact small (by omega)
    rw [S_app]
    refine ⟨.int n, rfl, .int m, rfl, n, m, rfl, rfl, ?_⟩
    refine ⟨by show 2 ≤ sizeLine; decide, fun p np => ?_⟩
    have := q p np
    rw [Int.natCast_sub hm] at this
    exact this
def spFirstL : Sp := fun vs H Q _ => ∃ (u : List Nat) (n : Nat), vs = [.str (S u), .int (n : Int)] ∧ u ≠ [] ∧ u.length ≤ 40 ∧ n ≤ 1000 ∧ Q (.str (S (per u n))) H
theorem ok_firstL {f : Addr} {fd : FuncData} {k : Nat} (F : Fun K "first_letters" "first_letters" sFirstL f fd) (M : PMg mg) : FnOk P w K mg base CX0 (k + 1) f fd ["word", "many"] spFirstL := by
  refine F.ok scFirstL (fun vs H Q E h => ?_) (fun cdv A outer s H vs Q E hr h => ?_)
  · obtain ⟨u, n, rfl, _⟩ := h
    rfl
  · obtain ⟨u, n, rfl, hu, hl, hn, q⟩ := h
    have hp : 0 < u.length := List.length_pos_iff.2 hu
    refine ⟨_, pss_one (ps_ret (pe_slice sl_str (pe_op op_mulS (pv 0) (pe_op op_add (pe_op op_fdiv (pv 1) (pe_callB call_len (by rfl) M.len PySem.boot_len (pa_cons (pv 0) pa_nil))) pe_int)) po_none (po_some (pv 1)))), ?_⟩
    have hd : n / u.length ≤ n := Nat.div_le_self _ _
    refine ⟨.str (S u), rfl, .int n, rfl, .str (S u), rfl, .str (S u), u.length, rfl, lenS (by omega), n, u.length, rfl, rfl, ⟨by show (0 : Int) < (u.length : Int); omega, by show (u.length : Int) < 1073741824; omega⟩, _, 1, rfl, rfl, ?_⟩
    refine ⟨u, n / u.length + 1, rfl, ?_, by omega, by omega, ?_⟩
    · show V.int ((n : Int) / (u.length : Int) + 1) = _
      rw [Int.natCast_add, Int.natCast_ediv]
      rfl
    refine ⟨.int n, rfl, n, rfl, S (rp u (n / u.length + 1)), rfl, ?_, ?_⟩
    · rw [S_len, rp_len]
      have := Nat.div_add_mod n u.length
      rw [Nat.mul_add]
      exact small (by omega)
    · rw [cut_to, rp_take hu]
      exact q
theorem lt_S {u v : List Nat} : ((S u).cps.toList < (S v).cps.toList) ↔ u < v := by rw [S_list, S_list]
def spCmpR : Sp := fun vs H Q _ => ∃ (a b : Addr) (u v : List Nat) (n m : Nat), vs = [.ref a, .ref b] ∧ H a = some (.tup [.str (S u), .int (n : Int)]) ∧ H b = some (.tup [.str (S v), .int (m : Int)]) ∧ u ≠ [] ∧ u.length ≤ 40 ∧ v ≠ [] ∧ v.length ≤ 40 ∧
  Q (.int (cmpT (per u (min (min n m) (u.length + v.length))) (per v (min (min n m) (u.length + v.length))))) H
theorem ok_cmpR {f g : Addr} {fd gd : FuncData} {k : Nat} (F : Fun K "compare_runs" "compare_runs" sCmpR f fd) (M : PMg mg) (G : FnOk P w K mg base CX0 (k + 1) g gd ["word", "many"] spFirstL) (gm : mg "first_letters" = some (.ref g)) (kp : PySem.W.keepIn K (.ref g) = true) (bd : Binds K gd ["word", "many"] []) :
    FnOk P w K mg base CX0 (k + 2) f fd ["one", "other"] spCmpR := by
  refine F.ok scCmpR (fun vs H Q E h => ?_) (fun cdv A outer s H vs Q E hr h => ?_)
  · obtain ⟨a, b, u, v, n, m, rfl, _⟩ := h
    rfl
  · obtain ⟨a, b, u, v, n, m, rfl, ha, hb, hu, hlu, hv, hlv, q⟩ := h
    have sa : SqT K H a [.str (S u), .int (n : Int)] := .inl (.inl ha)
    have sb : SqT K H b [.str (S v), .int (m : Int)] := .inl (.inl hb)
    refine ⟨_, pss_cons (ps_set (i := 2) scCmpR.nd rfl (Or.inl rfl) (pe_callB (min3 rfl) (by rfl) M.min (by decide +kernel) (pa_cons (pe_ix ix_seq (pv 0) pe_int (fun _ _ => rfl)) (pa_cons (pe_ix ix_seq (pv 1) pe_int (fun _ _ => rfl)) (pa_cons (pe_op op_add (pe_callB call_len (by rfl) M.len PySem.boot_len (pa_cons (pe_ix ix_seq (pv 0) pe_int (fun _ _ => rfl)) pa_nil)) (pe_callB call_len (by rfl) M.len PySem.boot_len (pa_cons (pe_ix ix_seq (pv 1) pe_int (fun _ _ => rfl)) pa_nil))) pa_nil)))))
      (pss_cons (ps_set (i := 3) scCmpR.nd rfl (Or.inl rfl) (pe_call G hr (by rfl) gm kp bd .nil pass0 (pa_cons (pe_ix ix_seq (pv 0) pe_int (fun _ _ => rfl)) (pa_cons (pv 2) pa_nil))))
      (pss_cons (ps_set (i := 4) scCmpR.nd rfl (Or.inl rfl) (pe_call G hr (by rfl) gm kp bd .nil pass0 (pa_cons (pe_ix ix_seq (pv 1) pe_int (fun _ _ => rfl)) (pa_cons (pv 2) pa_nil))))
      (pss_cons (ps_if (pt_cmpR op_eq (pv 3) (pv 4) (nomark _)) (pss_one (ps_ret pe_int)) pss_nil)
      (pss_one (ps_ret (pe_ifExp (pt_cmpR op_lt_str (pv 3) (pv 4) (nomark _)) (pe_un un_neg pe_int) pe_int)))))), ?_⟩
    have i0 : ∀ {x : V → Hp → Prop}, x (.str (S u)) H → rIx K (.ref a) (.int 0) H x := fun h => .inr (.inl ⟨a, _, 0, _, rfl, rfl, sa, rfl, h⟩)
    have i1 : ∀ {x : V → Hp → Prop}, x (.int n) H → rIx K (.ref a) (.int 1) H x := fun h => .inr (.inl ⟨a, _, 1, _, rfl, rfl, sa, rfl, h⟩)
    have j0 : ∀ {x : V → Hp → Prop}, x (.str (S v)) H → rIx K (.ref b) (.int 0) H x := fun h => .inr (.inl ⟨b, _, 0, _, rfl, rfl, sb, rfl, h⟩)
    have j1 : ∀ {x : V → Hp → Prop}, x (.int m) H → rIx K (.ref b) (.int 1) H x := fun h => .inr (.inl ⟨b, _, 1, _, rfl, rfl, sb, rfl, h⟩)
    refine ⟨.ref a, rfl, i1 ⟨.ref b, rfl, j1 ⟨.ref a, rfl, i0 ⟨.str (S u), u.length, rfl, lenS (by omega), .ref b, rfl, j0 ⟨.str (S v), v.length, rfl, lenS (by omega), _, _, rfl, rfl, ?_⟩⟩⟩⟩⟩
    refine ⟨n, m, u.length + v.length, rfl, ?_⟩
    generalize hk : min (min n m) (u.length + v.length) = k at *
    have hk1 : k ≤ 80 := by omega
    refine ⟨.ref a, rfl, i0 ⟨.int k, rfl, u, k, rfl, hu, hlu, by omega, ?_⟩⟩
    refine ⟨.ref b, rfl, j0 ⟨.int k, rfl, v, k, rfl, hv, hlv, by omega, ?_⟩⟩
    refine ⟨.str (S (per u k)), rfl, .str (S (per v k)), rfl, rfl, _, rfl, ?_⟩
    by_cases e : per u k = per v k
    · rw [decide_eq_true (by rw [e])]
      refine iteT ?_
      rw [e, cmp_same] at q
      exact q
    · rw [decide_eq_false (fun z => e (S_inj (V.str.inj z)))]
      refine iteF ⟨.str (S (per u k)), rfl, .str (S (per v k)), rfl, S (per u k), S (per v k), rfl, rfl, _, rfl, ?_⟩
      by_cases l : per u k < per v k
      · rw [decide_eq_true (lt_S.2 l)]
        refine iteT ⟨1, rfl, ?_⟩
        unfold cmpT at q
        rw [if_neg e, if_pos l] at q
        exact q
      · rw [decide_eq_false (fun z => l (lt_S.1 z))]
        refine iteF ?_
        unfold cmpT at q
        rw [if_neg e, if_neg l] at q
        exact q
def spRuns (K : PySem.W.Frag) : Sp := fun vs H Q _ => ∃ (x : V) (row : Far), vs = [x] ∧ FarAt K H x row ∧ FarOk row ∧ ∀ H' p rs, Same H H' → H p = none → H' p = some (.lst (rs.map V.ref)) → PairsAt H' rs (runsOf row) → Q (.ref p) H'
theorem PairsAt.snoc {H : Hp} {r : Addr} {p : List Nat × Nat} (e : H r = some (.tup [.str (S p.1), .int (p.2 : Int)])) : ∀ {rs : List Addr} {row : Far}, PairsAt H rs row → PairsAt H (rs ++ [r]) (row ++ [p])
  | _ :: _, _ :: _, h => ⟨h.1, PairsAt.snoc e h.2⟩
  | [], [], _ => ⟨e, trivial⟩
  | [], _ :: _, h => h.elim
  | _ :: _, [], h => h.elim
theorem PairsAt.upL {H : Hp} {D : Addr} {ys : List V} {o : HO} (hD : H D = some (.lst ys)) : ∀ {rs : List Addr} {row : Far}, PairsAt H rs row → PairsAt (upd H D o) rs row
  | r :: _, _ :: _, h => ⟨by rw [upd_ne (ne_of h.1 hD (fun z => nomatch z))]; exact h.1, PairsAt.upL hD h.2⟩
  | [], [], _ => trivial
  | [], _ :: _, h => h.elim
  | _ :: _, [], h => h.elim
theorem ok_runsOf {f : Addr} {fd : FuncData} {k : Nat} (F : Fun K "runs_of" "runs_of" sRuns f fd) (M : PMg mg) : FnOk P w K mg base CX0 (k + 1) f fd ["far"] (spRuns K) := by
  refine F.ok scRuns (fun vs H Q E h => ?_) (fun cdv A outer s H vs Q E hr h => ?_)
  · obtain ⟨x, row, rfl, _⟩ := h
    rfl
  · obtain ⟨x, row, rfl, ⟨a, ts, rfl, hs, hp⟩, hf, q⟩ := h
    refine ⟨_, pss_one (ps_ret (pe_lc (own := [("word", 1), ("power", 2)]) (g := gTup K 2 (gCons (gName 1) (gCons (gName 2) gNil))) (tt := tYes) rfl scRuns.nd (pi_tup (pv 0)) (blkOk_by (N := ["far", "word", "power"]) (sc := defScope sRuns) (by decide +kernel)) (fun _ _ _ _ _ => pg_tup rfl (pgs_cons (pg_name (i := 1) scRuns.nd rfl (Or.inl rfl)) (pgs_cons (pg_name (i := 2) scRuns.nd rfl (Or.inl rfl)) pgs_nil))) (fun _ _ _ _ _ => pts_nil)
        (fun _ _ _ _ _ => pe_tup (pa_cons (pv 1) (pa_cons (pe_op op_mul (pe_callB (r := fun xs H Q => ∃ x n, xs = [x] ∧ LenV K x H n ∧ Q (V.int (n : Nat)) H) call_len (by rfl) M.len PySem.boot_len (pa_cons (pv 1) pa_nil)) (pv 2)) pa_nil))))), ?_⟩
    refine ⟨.ref a, rfl, a, rfl, ⟨_, hs⟩, fun D hD => ?_⟩
    have hlen : ts.length = row.length := hp.len
    refine lc_tup (xs := ts.map V.ref) (fun i G => ∃ rs : List Addr, G D = some (.lst (rs.map V.ref)) ∧ PairsAt G rs (runsOf (row.take i)) ∧ Same H G ∧ rs.length = i) ⟨[], upd_same, by rw [List.take_zero]; trivial, same_new hD, rfl⟩ (fun i G _ z => same_sqt z.choose_spec.2.2.1 hs) ?_ ?_
    · rintro i x G hx ⟨rs, zD, zP, zS, zl⟩
      rw [List.getElem?_map] at hx
      cases hr' : ts[i]? with
      | none => rw [hr'] at hx; cases hx
      | some r =>
        rw [hr'] at hx
        obtain rfl := (Option.some.inj hx).symm
        obtain ⟨p, hp1, hp2⟩ := hp.get hr'
        have hm : p ∈ row := List.mem_of_getElem? hp1
        have hi : i < 100 := by
          have := (List.getElem?_eq_some_iff.1 hr').1
          have := hf.len
          omega
        have ⟨w1, w2, w3⟩ := hf.each p hm
        have w4 := w1.2.1
        refine ⟨r, [.str (S p.1), .int p.2], rfl, .inl (.inl (zS _ _ hp2)), rfl, .str (S p.1), [.int p.2], rfl, .int p.2, [], rfl, rfl, rfl, ?_⟩
        refine ⟨.str (S p.1), rfl, .str (S p.1), rfl, .str (S p.1), p.1.length, rfl, lenS (by omega), .int p.2, rfl, p.1.length, p.2, rfl, rfl, .inl ⟨by omega, by omega⟩, by show 2 ≤ sizeLine; decide, fun t nt => ?_⟩
        refine ⟨rs.map V.ref, by rw [upd_ne (ne_of_none zD nt)]; exact zD, by rw [List.length_map, zl]; exact Nat.lt_of_lt_of_le hi (by decide), rs ++ [t], ?_, ?_, ?_, by rw [List.length_append, zl]; rfl⟩
        · rw [upd_same, List.map_append]
          rfl
        · have e1 : runsOf (row.take (i + 1)) = runsOf (row.take i) ++ [(p.1, p.1.length * p.2)] := by
            rw [List.take_add_one, hp1]
            simp [runsOf]
          rw [e1]
          have zD' : upd G t (.tup [.str (S p.1), .int ((p.1.length : Int) * (p.2 : Int))]) D = some (.lst (rs.map V.ref)) := by rw [upd_ne (ne_of_none zD nt)]; exact zD
          refine PairsAt.upL zD' (PairsAt.snoc ?_ (zP.same (same_new nt)))
          rw [upd_same, Int.natCast_mul]
        · intro c o e
          by_cases hc : c = D
          · subst hc
            rw [hD] at e
            cases e
          · rw [upd_ne hc, upd_ne (ne_of_none (zS c o e) nt)]; exact zS c o e
    · rintro G ⟨rs, zD, zP, zS, zl⟩
      rw [List.length_map] at zP
      rw [List.take_of_length_le (by omega)] at zP
      exact q G D rs zS hD zD zP
end
end Kc

set_option Elab.async false
set_option linter.all false
set_option maxRecDepth 100000
set_option maxHeartbeats 4000000
/-! the program: lengths, letters, comparing -/
namespace Kc
open PySem PySem.Spec PyProof.Rows L2 Ke RZ FarM
section
variable {P : Program} {w : World} {K : PySem.W.Frag} {mg : Str → Option Value} {base : Heap}
def spCheck (K : PySem.W.Frag) : Sp := fun vs H Q _ => ∃ (x : V) (row : Far), vs = [x] ∧ FarAt K H x row ∧ FarOk row ∧ ∀ H', Same H H' → Q .non H'
def intsOf (row : Far) : List Int := row.map fun p => ((p.1.length * p.2 : Nat) : Int)
theorem ints_sum : ∀ row : Far, (intsOf row).sum = ((size row : Nat) : Int)
  | [] => rfl
  | (u, a) :: r => by
    have := ints_sum r
    unfold intsOf at this ⊢
    rw [List.map_cons, List.sum_cons, this, size, Int.natCast_add]
def spFarLen (K : PySem.W.Frag) : Sp := fun vs H Q _ => ∃ (x : V) (row : Far), vs = [x] ∧ FarAt K H x row ∧ FarOk row ∧ ∀ H', Same H H' → Q (.int ((size row : Nat) : Int)) H'
theorem ok_farLen {f g : Addr} {fd gd : FuncData} {k : Nat} (F : Fun K "far_length" "far_length" sFarLen f fd) (M : PMg mg) (G : FnOk P w K mg base CX0 (k + 5) g gd ["value"] (spCheck K)) (gm : mg "check_far" = some (.ref g)) (kp : PySem.W.keepIn K (.ref g) = true) (bd : Binds K gd ["value"] []) : FnOk P w K mg base CX0 (k + 6) f fd ["far"] (spFarLen K) := by
  refine F.ok scFarLen (fun vs H Q E h => ?_) (fun cdv A outer s H vs Q E hr h => ?_)
  · obtain ⟨x, row, rfl, _⟩ := h
    rfl
  · obtain ⟨x, row, rfl, hx, hf, q⟩ := h
    refine ⟨_, pss_cons (ps_expr (pe_call G hr (by rfl) gm kp bd .nil pass0 (pa_cons (pv 0) pa_nil))) (pss_one (ps_ret (pe_callB (cr_sum rfl) (by rfl) M.sum (by decide +kernel) (pa_cons (pe_lc (own := [("word", 1), ("power", 2)]) (g := gTup K 2 (gCons (gName 1) (gCons (gName 2) gNil))) (tt := tYes) rfl scFarLen.nd (pi_tup (pv 0)) (blkOk_by (N := ["far", "word", "power"]) (sc := defScope sFarLen) (by decide +kernel)) (fun _ _ _ _ _ => pg_tup rfl (pgs_cons (pg_name (i := 1) scFarLen.nd rfl (Or.inl rfl)) (pgs_cons (pg_name (i := 2) scFarLen.nd rfl (Or.inl rfl)) pgs_nil))) (fun _ _ _ _ _ => pts_nil)
        (fun _ _ _ _ _ => pe_op op_mul (pe_callB (r := fun xs H Q => ∃ x n, xs = [x] ∧ LenV K x H n ∧ Q (V.int (n : Nat)) H) call_len (by rfl) M.len PySem.boot_len (pa_cons (pv 1) pa_nil)) (pv 2))) pa_nil)))), ?_⟩
    refine ⟨x, rfl, x, row, rfl, hx, hf, fun H1 S1 => ?_⟩
    obtain ⟨a, ts, rfl, hs, hp⟩ := hx.same S1
    refine ⟨.ref a, rfl, a, rfl, ⟨_, hs⟩, fun D hD => ?_⟩
    have hlen : ts.length = row.length := hp.len
    refine lc_tup (xs := ts.map V.ref) (fun i G => G D = some (.lst ((intsOf (row.take i)).map V.int)) ∧ Same H1 G) ⟨by rw [List.take_zero]; exact upd_same, same_new hD⟩ (fun i G _ z => same_sqt z.2 hs) ?_ ?_
    · rintro i x G hx ⟨zD, zS⟩
      rw [List.getElem?_map] at hx
      cases hr' : ts[i]? with
      | none => rw [hr'] at hx; cases hx
      | some r =>
        rw [hr'] at hx
        obtain rfl := (Option.some.inj hx).symm
        obtain ⟨p, hp1, hp2⟩ := hp.get hr'
        have hm : p ∈ row := List.mem_of_getElem? hp1
        have hi : i < 100 := by
          have := (List.getElem?_eq_some_iff.1 hr').1
          have := hf.len
          omega
        have ⟨w1, w2, w3⟩ := hf.each p hm
        have w4 := w1.2.1
        refine ⟨r, [.str (S p.1), .int p.2], rfl, .inl (.inl (zS _ _ hp2)), rfl, .str (S p.1), [.int p.2], rfl, .int p.2, [], rfl, rfl, rfl, ?_⟩
        refine ⟨.str (S p.1), rfl, .str (S p.1), p.1.length, rfl, lenS (by omega), .int p.2, rfl, p.1.length, p.2, rfl, rfl, .inl ⟨by omega, by omega⟩, ?_⟩
        refine ⟨_, zD, ?_, ?_, ?_⟩
        · rw [List.length_map]
          unfold intsOf
          rw [List.length_map, List.length_take]
          exact Nat.lt_of_le_of_lt (Nat.min_le_left _ _) (Nat.lt_of_lt_of_le hi (by decide))
        · rw [upd_same]
          have e1 : intsOf (row.take (i + 1)) = intsOf (row.take i) ++ [((p.1.length * p.2 : Nat) : Int)] := by
            rw [List.take_add_one, hp1]
            simp [intsOf]
          rw [e1, List.map_append, Int.natCast_mul]
          rfl
        · intro c o e
          by_cases hc : c = D
          · subst hc
            rw [hD] at e
            cases e
          · rw [upd_ne hc]; exact zS c o e
    · rintro G ⟨zD, zS⟩
      rw [List.length_map, hlen, List.take_length] at zD
      refine ⟨D, intsOf row, rfl, .inl (.inl zD), ?_⟩
      rw [ints_sum]
      exact q _ (S1.trans zS)
def letS (row : Far) (n : Nat) : Str := S (match letAt row n with | some c => [c] | none => [])
def spFarLet (K : PySem.W.Frag) : Sp := fun vs H Q _ => ∃ (x : V) (row : Far) (n : Nat), vs = [x, .int (n : Int)] ∧ FarAt K H x row ∧ FarOk row ∧ ∀ H', Same H H' → Q (.str (letS row n)) H'
theorem getD_at {u : List Nat} {k : Nat} (hk : k < u.length) : atI (S u).cps.toList (k : Int) = some (u.getD k 0) := by
  rw [S_list]
  exact atI_nat (by rw [List.getD_eq_getElem?_getD, List.getElem?_eq_getElem hk]; rfl)
theorem ok_farLet {f g : Addr} {fd gd : FuncData} {k : Nat} (F : Fun K "far_letter" "far_letter" sFarLet f fd) (M : PMg mg) (G : FnOk P w K mg base CX0 (k + 5) g gd ["value"] (spCheck K)) (gm : mg "check_far" = some (.ref g)) (kp : PySem.W.keepIn K (.ref g) = true) (bd : Binds K gd ["value"] []) : FnOk P w K mg base CX0 (k + 6) f fd ["far", "at"] (spFarLet K) := by
  refine F.ok scFarLet (fun vs H Q E h => ?_) (fun cdv A outer s H vs Q E hr h => ?_)
  · obtain ⟨x, row, n, rfl, _⟩ := h
    rfl
  · obtain ⟨x, row, n, rfl, hx, hf, q⟩ := h
    refine ⟨_, pss_cons (ps_expr (pe_call G hr (by rfl) gm kp bd .nil pass0 (pa_cons (pv 0) pa_nil))) (pss_cons (ps_for PassesOwn.never rfl (pi_tup (pv 0)) (pg_tup rfl (pgs_cons (pg_name (i := 2) scFarLet.nd rfl (Or.inl rfl)) (pgs_cons (pg_name (i := 3) scFarLet.nd rfl (Or.inl rfl)) pgs_nil)))
        (pss_cons (ps_if (pt_cmpR op_lt (pv 1) (pe_op op_mul (pe_callB call_len (by rfl) M.len PySem.boot_len (pa_cons (pv 2) pa_nil)) (pv 3)) (nomark _)) (pss_one (ps_ret (pe_ix ix_str (pv 2) (pe_op op_mod (pv 1) (pe_callB call_len (by rfl) M.len PySem.boot_len (pa_cons (pv 2) pa_nil))) (fun _ _ => rfl)))) pss_nil)
        (pss_one (ps_set (i := 1) scFarLet.nd rfl (Or.inl rfl) (pe_op op_sub (pv 1) (pe_op op_mul (pe_callB call_len (by rfl) M.len PySem.boot_len (pa_cons (pv 2) pa_nil)) (pv 3)))))))
      (pss_one (ps_ret pe_str))), ?_⟩
    refine ⟨x, rfl, x, row, rfl, hx, hf, fun H1 S1 => ?_⟩
    obtain ⟨a, ts, rfl, hs, hp⟩ := hx.same S1
    have hlen : ts.length = row.length := hp.len
    refine ⟨.ref a, rfl, a, rfl, ⟨_, hs⟩, for_tup (xs := ts.map V.ref) (fun i σ G => ∃ (r : Nat) (y2 y3 : Option V), σ = [some (.ref a), some (.int (r : Int)), y2, y3] ∧ G = H1 ∧ letAt row n = letAt (row.drop i) r) ⟨n, none, none, rfl, rfl, rfl⟩ (fun i σ G _ z => by obtain ⟨_, _, _, _, rfl, _⟩ := z; exact hs) ?_ ?_⟩
    · rintro i x σ G hx ⟨r, y2, y3, rfl, rfl, e⟩
      rw [List.getElem?_map] at hx
      cases hr' : ts[i]? with
      | none => rw [hr'] at hx; cases hx
      | some t =>
        rw [hr'] at hx
        obtain rfl := (Option.some.inj hx).symm
        obtain ⟨p, hp1, hp2⟩ := hp.get hr'
        have ⟨w1, w2, w3⟩ := hf.each p (List.mem_of_getElem? hp1)
        have w4 := w1.2.1
        have w0 : 0 < p.1.length := List.length_pos_iff.2 w1.1
        have ed : row.drop i = p :: row.drop (i + 1) := by
          have hi := (List.getElem?_eq_some_iff.1 hp1)
          obtain ⟨h1, h2⟩ := hi
          rw [List.drop_eq_getElem_cons h1, h2]
        rw [ed] at e
        have e2 : letAt (p :: row.drop (i + 1)) r = if r < p.1.length * p.2 then some (p.1.getD (r % p.1.length) 0) else letAt (row.drop (i + 1)) (r - p.1.length * p.2) := rfl
        rw [e2] at e
        refine ⟨t, [.str (S p.1), .int p.2], rfl, .inl (.inl hp2), rfl, .str (S p.1), [.int p.2], rfl, .int p.2, [], rfl, rfl, ?_⟩
        refine ⟨.int r, rfl, .str (S p.1), rfl, .str (S p.1), p.1.length, rfl, lenS (by omega), .int p.2, rfl, p.1.length, p.2, rfl, rfl, .inl ⟨by omega, by omega⟩, _, _, rfl, rfl, _, rfl, ?_⟩
        by_cases c : r < p.1.length * p.2
        · have c' : (r : Int) < (p.1.length : Int) * (p.2 : Int) := by rw [← Int.natCast_mul]; omega
          rw [decide_eq_true c']
          rw [if_pos c] at e
          refine iteT ⟨.str (S p.1), rfl, .int r, rfl, .str (S p.1), rfl, .str (S p.1), p.1.length, rfl, lenS (by omega), r, p.1.length, rfl, rfl, by show (0 : Int) < (p.1.length : Int); omega, ?_⟩
          refine ⟨S p.1, ((r % p.1.length : Nat) : Int), _, rfl, by rw [Int.natCast_emod], by rw [S_len]; exact small (by omega), getD_at (Nat.mod_lt _ w0), ?_⟩
          have := q _ S1
          unfold letS at this
          rw [e] at this
          exact this
        · have c' : ¬ (r : Int) < (p.1.length : Int) * (p.2 : Int) := by rw [← Int.natCast_mul]; omega
          rw [decide_eq_false c']
          rw [if_neg c] at e
          refine iteF ⟨.int r, rfl, .str (S p.1), rfl, .str (S p.1), p.1.length, rfl, lenS (by omega), .int p.2, rfl, p.1.length, p.2, rfl, rfl, .inl ⟨by omega, by omega⟩, r, _, rfl, rfl, ?_⟩
          refine ⟨r - p.1.length * p.2, some (.str (S p.1)), some (.int p.2), ?_, rfl, e⟩
          rw [Int.natCast_sub (by omega), Int.natCast_mul]
          rfl
    · rintro σ G ⟨r, y2, y3, rfl, rfl, e⟩
      rw [List.length_map, hlen, List.drop_length] at e
      have := q _ S1
      unfold letS at this
      rw [e] at this
      exact this
end
end Kc

set_option Elab.async false
set_option linter.all false
set_option maxRecDepth 100000
set_option maxHeartbeats 4000000
/-! the program: two far words compared -/
namespace Kc
open PySem PySem.Spec PyProof.Rows L2 Ke RZ FarM
abbrev sCompare : Stmt := topS 19
theorem scCompare : FnScope ["one", "other", "left", "right", "ahead", "behind", "order", "many"] ["one", "other"] (defScope sCompare) := ⟨rfl, rfl, rfl, by decide +kernel, rfl, by decide +kernel, by decide +kernel⟩
/-- words of at most 40 signs, a letter at least -/
def RunsOk (L : Far) : Prop := ∀ p ∈ L, p.1 ≠ [] ∧ 1 ≤ p.2 ∧ p.1.length ≤ 40
theorem RunsOk.ok {L : Far} (h : RunsOk L) : Ok L := fun p hp => ⟨(h p hp).1, (h p hp).2.1⟩
theorem RunsOk.of {L : Far} (h : FarOk L) : RunsOk (runsOf L) := fun p hp => by
  refine ⟨(ok_runs h.ok p hp).1, (ok_runs h.ok p hp).2, ?_⟩
  simp only [runsOf, List.mem_map] at hp
  obtain ⟨q, hq, rfl⟩ := hp
  exact (h.each q hq).1.2.1
theorem RunsOk.behind {u : List Nat} {n m : Nat} {L : Far} (h : RunsOk ((u, n) :: L)) : RunsOk (behind u n m ++ L) := by
  intro p hp
  rcases List.mem_append.1 hp with z | z
  · have := ok_behind (m := m) (n := n) (h (u, n) List.mem_cons_self).1 p z
    refine ⟨this.1, this.2, ?_⟩
    unfold FarM.behind at z
    split at z
    · simp at z
      subst z
      rw [rot_len]
      exact (h (u, n) List.mem_cons_self).2.2
    · simp at z
  · exact h p (List.mem_cons_of_mem _ z)
/-- a stack of runs, its top first -/
structure StackAt (H : Hp) (l : Addr) (tl : List Addr) (L : Far) : Prop where
  lst : H l = some (.lst (tl.reverse.map V.ref))
  prs : PairsAt H tl L
theorem StackAt.sql {K : PySem.W.Frag} {H : Hp} {l : Addr} {tl : List Addr} {L : Far} (h : StackAt H l tl L) : SqL K H l (tl.reverse.map V.ref) := .inl (.inl h.lst)
theorem StackAt.other {H : Hp} {l a : Addr} {tl : List Addr} {L : Far} {ys : List V} {o : HO} (h : StackAt H l tl L) (hn : l ≠ a) (ha : H a = some (.lst ys)) : StackAt (upd H a o) l tl L :=
  ⟨by rw [upd_ne hn]; exact h.lst, PairsAt.upL ha h.prs⟩
theorem StackAt.add {H : Hp} {l a : Addr} {tl : List Addr} {L : Far} {o : HO} (h : StackAt H l tl L) (ha : H a = none) : StackAt (upd H a o) l tl L :=
  ⟨(same_new ha) _ _ h.lst, h.prs.same (same_new ha)⟩
theorem PairsAt.rev {H : Hp} : ∀ {rs : List Addr} {row : Far}, PairsAt H rs row → PairsAt H rs.reverse row.reverse
  | r :: rs, p :: row, h => by
    rw [List.reverse_cons, List.reverse_cons]
    exact PairsAt.snoc h.1 (PairsAt.rev h.2)
  | [], [], _ => trivial
  | [], _ :: _, h => h.elim
  | _ :: _, [], h => h.elim
/-- what stands at a turn of the comparing -/
abbrev CmpW (H : Hp) (x y : V) (la ra : Addr) (p q : Far) : Nat → L2.St → Hp → Prop := fun m σ G => ∃ (tl tr : List Addr) (L R : Far) (y4 y5 y6 y7 : Option V), σ = [some x, some y, some (.ref la), some (.ref ra), y4, y5, y6, y7] ∧ StackAt G la tl L ∧ StackAt G ra tr R ∧ RunsOk L ∧ RunsOk R ∧ L.length ≤ 7 ∧ R.length ≤ 7 ∧ m = L.length + R.length ∧ Same H G ∧ cmpT (rex L) (rex R) = cmpT (ex p) (ex q)
section
variable {P : Program} {w : World} {K : PySem.W.Frag} {mg : Str → Option Value} {base : Heap}
def spCompare (K : PySem.W.Frag) : Sp := fun vs H Q _ => ∃ (x y : V) (p q : Far), vs = [x, y] ∧ FarAt K H x p ∧ FarAt K H y q ∧ FarOk p ∧ FarOk q ∧ ∀ H', Same H H' → Q (.int (cmpT (ex p) (ex q))) H'
/-- a new object leaves what stood -/
theorem same_updN {H G : Hp} {a : Addr} {o : HO} (h : Same H G) (ha : H a = none) : Same H (upd G a o) := fun c u e => by rw [upd_ne (ne_of_none e ha)]; exact h c u e
theorem min_two {i j : Nat} : (if (j : Int) < (i : Int) then (j : Int) else (i : Int)) = ((min i j : Nat) : Int) := by
  by_cases h : j < i
  · rw [if_pos (by omega), Nat.min_eq_right (by omega)]
  · rw [if_neg (by omega), Nat.min_eq_left (by omega)]
theorem ok_compare {f : Addr} {fd : FuncData} {k : Nat} (F : Fun K "compare" "compare" sCompare f fd) (M : PMg mg)
    {g : Addr} {gd : FuncData} (G : FnOk P w K mg base CX0 (k + 5) g gd ["value"] (spCheck K)) (gm : mg "check_far" = some (.ref g)) (kp : PySem.W.keepIn K (.ref g) = true) (bd : Binds K gd ["value"] [])
    {g1 : Addr} {gd1 : FuncData} (G1 : FnOk P w K mg base CX0 (k + 1) g1 gd1 ["far"] (spRuns K)) (gm1 : mg "runs_of" = some (.ref g1)) (kp1 : PySem.W.keepIn K (.ref g1) = true) (bd1 : Binds K gd1 ["far"] [])
    {g2 : Addr} {gd2 : FuncData} (G2 : FnOk P w K mg base CX0 (k + 2) g2 gd2 ["one", "other"] spCmpR) (gm2 : mg "compare_runs" = some (.ref g2)) (kp2 : PySem.W.keepIn K (.ref g2) = true) (bd2 : Binds K gd2 ["one", "other"] [])
    {g3 : Addr} {gd3 : FuncData} (G3 : FnOk P w K mg base CX0 (k + 1) g3 gd3 ["run", "many"] spBehind) (gm3 : mg "run_behind" = some (.ref g3)) (kp3 : PySem.W.keepIn K (.ref g3) = true) (bd3 : Binds K gd3 ["run", "many"] []) :
    FnOk P w K mg base CX0 (k + 6) f fd ["one", "other"] (spCompare K) := by
  refine F.ok scCompare (fun vs H Q E h => ?_) (fun cdv A outer s H vs Q E hr h => ?_)
  · obtain ⟨x, y, p, q, rfl, _⟩ := h
    rfl
  · obtain ⟨x, y, p, q, rfl, hx, hy, hp, hq, done⟩ := h
    have hr1 := hr.mono (show k + 1 ≤ k + 5 by omega)
    have hr2 := hr.mono (show k + 2 ≤ k + 5 by omega)
    refine ⟨_, pss_cons (ps_expr (pe_call G hr (by rfl) gm kp bd .nil pass0 (pa_cons (pv 0) pa_nil)))
      (pss_cons (ps_expr (pe_call G hr (by rfl) gm kp bd .nil pass0 (pa_cons (pv 1) pa_nil)))
      (pss_cons (ps_par (i := 2) (j := 3) (by rfl) scCompare.nd rfl rfl (by decide) rfl rfl (pa_cons (pe_revL (pe_call G1 hr1 (by rfl) gm1 kp1 bd1 .nil pass0 (pa_cons (pv 0) pa_nil))) (pa_cons (pe_revL (pe_call G1 hr1 (by rfl) gm1 kp1 bd1 .nil pass0 (pa_cons (pv 1) pa_nil))) pa_nil)) (by rfl))
      (pss_cons (ps_while PassesOwn.never (PW.pt (pw_and (pt_truth (pv 2) (by intro _; rfl)) (pw_and1 (pt_truth (pv 3) (by intro _; rfl)))))
        (pss_cons (ps_par (i := 4) (j := 5) (by rfl) scCompare.nd rfl rfl (by decide) rfl rfl (pa_cons (pe_bm0 PySem.F.plainAttrs_list PySem.F.slot_list_pop PySem.F.type_list_pop mt_pop (pv 2)) (pa_cons (pe_bm0 PySem.F.plainAttrs_list PySem.F.slot_list_pop PySem.F.type_list_pop mt_pop (pv 3)) pa_nil)) (by rfl))
        (pss_cons (ps_set (i := 6) scCompare.nd rfl (Or.inl rfl) (pe_call G2 hr2 (by rfl) gm2 kp2 bd2 .nil pass0 (pa_cons (pv 4) (pa_cons (pv 5) pa_nil))))
        (pss_cons (ps_if (pt_cmpR op_ne (pv 6) pe_int (nomark _)) (pss_one (ps_ret (pv 6))) pss_nil)
        (pss_cons (ps_set (i := 7) scCompare.nd rfl (Or.inl rfl) (pe_callB (call_min2 rfl) (by rfl) M.min (by decide +kernel) (pa_cons (pe_ix ix_seq (pv 4) pe_int (fun _ _ => rfl)) (pa_cons (pe_ix ix_seq (pv 5) pe_int (fun _ _ => rfl)) pa_nil))))
        (pss_cons (ps_if (pt_cmpR op_gt (pe_ix ix_seq (pv 4) pe_int (fun _ _ => rfl)) (pv 7) (nomark _)) (pss_one (ps_expr (pe_bm PySem.F.plainAttrs_list PySem.F.slot_list_append PySem.F.type_list_append mt_append (pv 2) (pa_cons (pe_call G3 hr1 (by rfl) gm3 kp3 bd3 .nil pass0 (pa_cons (pv 4) (pa_cons (pv 7) pa_nil))) pa_nil)))) pss_nil)
        (pss_one (ps_if (pt_cmpR op_gt (pe_ix ix_seq (pv 5) pe_int (fun _ _ => rfl)) (pv 7) (nomark _)) (pss_one (ps_expr (pe_bm PySem.F.plainAttrs_list PySem.F.slot_list_append PySem.F.type_list_append mt_append (pv 3) (pa_cons (pe_call G3 hr1 (by rfl) gm3 kp3 bd3 .nil pass0 (pa_cons (pv 5) (pa_cons (pv 7) pa_nil))) pa_nil)))) pss_nil))))))))
      (pss_one (ps_ret (pe_op op_sub (pe_ifExp (pt_truth (pv 2) (by intro _; rfl)) pe_int pe_int) (pe_ifExp (pt_truth (pv 3) (by intro _; rfl)) pe_int pe_int))))))), ?_⟩
    refine ⟨x, rfl, x, p, rfl, hx, hp, fun H1 S1 => ?_⟩
    refine ⟨y, rfl, y, q, rfl, hy.same S1, hq, fun H2 S2 => ?_⟩
    have S02 := S1.trans S2
    refine ⟨x, rfl, x, p, rfl, hx.same S02, hp, fun H3 l1 ls S3 n1 h1 hp1 => ⟨l1, _, rfl, .inl (.inl h1), fun la na => ?_⟩⟩
    have S03 := S02.trans S3
    refine ⟨y, rfl, y, q, rfl, hy.same (S03.trans (same_new na)), hq, fun H4 l2 rs S4 n2 h2 hp2 => ⟨l2, _, rfl, .inl (.inl h2), fun ra nb => ?_⟩⟩
    have S04 := S03.trans ((same_new na).trans S4)
    have a1 : H4 la = some (.lst (ls.map V.ref).reverse) := S4 _ _ upd_same
    have a2 : PairsAt H4 ls (runsOf p) := (hp1.same (same_new na)).same S4
    have nla : H la = none := S03.free na
    have nra : H ra = none := S04.free nb
    have hlr : la ≠ ra := ne_of_none a1 nb
    have eL : cmpT (rex (runsOf p)) (rex (runsOf q)) = cmpT (ex p) (ex q) := by rw [rex_runs hp.ok, rex_runs hq.ok]
    rw [← List.map_reverse] at a1
    refine ⟨_, _, rfl, ⟨CmpW H x y la ra p q, ?_, ?_⟩⟩
    · refine ⟨_, ls, rs, runsOf p, runsOf q, none, none, none, none, rfl, ⟨?_, ?_⟩, ⟨?_, ?_⟩, .of hp, .of hq, ?_, ?_, rfl, same_updN S04 nra, eL⟩
      · rw [upd_ne hlr]; exact a1
      · exact a2.same (same_new nb)
      · rw [upd_same, List.map_reverse]
      · exact hp2.same (same_new nb)
      · unfold runsOf; rw [List.length_map]; exact hp.len
      · unfold runsOf; rw [List.length_map]; exact hq.len
    · rintro m σ G ⟨tl, tr, L, R, y4, y5, y6, y7, rfl, sl, sr, okL, okR, lL, lR, rfl, SG, e⟩
      have lenL := sl.prs.len
      have lenR := sr.prs.len
      refine ⟨.ref la, rfl, _, .inl ⟨_, sl.sql, rfl⟩, ?_⟩
      cases L with
      | nil =>
        have : tl = [] := List.length_eq_zero_iff.1 (by simpa using lenL)
        subst this
        refine iteF ?_
        refine ⟨.ref la, rfl, _, .inl ⟨_, sl.sql, rfl⟩, iteF ?_⟩
        refine ⟨.ref ra, rfl, _, .inl ⟨_, sr.sql, rfl⟩, ?_⟩
        cases R with
        | nil =>
          have : tr = [] := List.length_eq_zero_iff.1 (by simpa using lenR)
          subst this
          refine iteF ⟨0, 0, rfl, rfl, ?_⟩
          rw [cmp_same] at e
          have := done G SG
          rw [← e] at this
          exact this
        | cons r R =>
          cases tr with
          | nil => simp at lenR
          | cons t tr =>
            rw [show (!(((t :: tr).reverse.map V.ref).isEmpty)) = true by simp]
            refine iteT ⟨0, 1, rfl, rfl, ?_⟩
            rw [show rex [] = [] from rfl, cmp_nil_l (rex_len_pos okR.ok)] at e
            have := done G SG
            rw [← e] at this
            exact this
      | cons l L =>
        cases tl with
        | nil => simp at lenL
        | cons t tl =>
          rw [show (!(((t :: tl).reverse.map V.ref).isEmpty)) = true by simp]
          refine iteT ?_
          refine ⟨.ref ra, rfl, _, .inl ⟨_, sr.sql, rfl⟩, ?_⟩
          cases R with
          | nil =>
            have : tr = [] := List.length_eq_zero_iff.1 (by simpa using lenR)
            subst this
            refine iteF ?_
            refine ⟨.ref la, rfl, _, .inl ⟨_, sl.sql, rfl⟩, ?_⟩
            rw [show (!(((t :: tl).reverse.map V.ref).isEmpty)) = true by simp]
            refine iteT ⟨.ref ra, rfl, _, .inl ⟨_, sr.sql, rfl⟩, iteF ⟨1, 0, rfl, rfl, ?_⟩⟩
            rw [show rex [] = [] from rfl, cmp_nil_r (rex_len_pos okL.ok)] at e
            have := done G SG
            rw [← e] at this
            exact this
          | cons r R =>
            cases tr with
            | nil => simp at lenR
            | cons t' tr =>
              rw [show (!(((t' :: tr).reverse.map V.ref).isEmpty)) = true by simp]
              obtain ⟨u, n⟩ := l
              obtain ⟨v, m⟩ := r
              have ⟨hu, hn, hlu⟩ := okL (u, n) List.mem_cons_self
              have ⟨hv, hm, hlv⟩ := okR (v, m) List.mem_cons_self
              simp only at hu hn hlu hv hm hlv
              have lastL : ((t :: tl).reverse.map V.ref)[((t :: tl).reverse.map V.ref).length - 1]? = some (.ref t) := by simp
              have lastR : ((t' :: tr).reverse.map V.ref)[((t' :: tr).reverse.map V.ref).length - 1]? = some (.ref t') := by simp
              have dropL : ((t :: tl).reverse.map V.ref).dropLast = tl.reverse.map V.ref := by simp
              have dropR : ((t' :: tr).reverse.map V.ref).dropLast = tr.reverse.map V.ref := by simp
              refine iteT ⟨fun σ' G' => ∃ m', m' < ((u, n) :: L).length + ((v, m) :: R).length ∧ CmpW H x y la ra p q m' σ' G', fun σ' G' h => h, ?_⟩
              refine ⟨.ref la, rfl, .inl ⟨rfl, _, sl.sql⟩, la, _, .ref t, rfl, rfl, sl.lst, lastL, ?_⟩
              rw [dropL]
              have sr1 : StackAt (upd G la (.lst (tl.reverse.map V.ref))) ra (t' :: tr) ((v, m) :: R) := sr.other (Ne.symm hlr) sl.lst
              have pl1 : PairsAt (upd G la (.lst (tl.reverse.map V.ref))) (t :: tl) ((u, n) :: L) := PairsAt.upL sl.lst sl.prs
              have ll1 : upd G la (.lst (tl.reverse.map V.ref)) la = some (.lst (tl.reverse.map V.ref)) := upd_same
              have SG1 : Same H (upd G la (.lst (tl.reverse.map V.ref))) := same_updN SG nla
              generalize upd G la (.lst (tl.reverse.map V.ref)) = G1 at *
              refine ⟨.ref ra, rfl, .inl ⟨rfl, _, sr1.sql⟩, ra, _, .ref t', rfl, rfl, sr1.lst, lastR, ?_⟩
              rw [dropR]
              have pr2 : PairsAt (upd G1 ra (.lst (tr.reverse.map V.ref))) (t' :: tr) ((v, m) :: R) := PairsAt.upL sr1.lst sr1.prs
              have pl2 : PairsAt (upd G1 ra (.lst (tr.reverse.map V.ref))) (t :: tl) ((u, n) :: L) := PairsAt.upL sr1.lst pl1
              have ll2 : upd G1 ra (.lst (tr.reverse.map V.ref)) la = some (.lst (tl.reverse.map V.ref)) := by rw [upd_ne hlr]; exact ll1
              have rr2 : upd G1 ra (.lst (tr.reverse.map V.ref)) ra = some (.lst (tr.reverse.map V.ref)) := upd_same
              have SG2 : Same H (upd G1 ra (.lst (tr.reverse.map V.ref))) := same_updN SG1 nra
              generalize upd G1 ra (.lst (tr.reverse.map V.ref)) = G2 at *
              refine ⟨.ref t, .ref t', rfl, ?_⟩
              have ht : G2 t = some (.tup [.str (S u), .int (n : Int)]) := pl2.1
              have ht' : G2 t' = some (.tup [.str (S v), .int (m : Int)]) := pr2.1
              refine ⟨.ref t, rfl, .ref t', rfl, t, t', u, v, n, m, rfl, ht, ht', hu, hlu, hv, hlv, ?_⟩
              have stp := runs_step okL.ok okR.ok
              rw [e] at stp
              have i1 : ∀ {G : Hp} {z : V → Hp → Prop}, G t = some (.tup [.str (S u), .int (n : Int)]) → z (.int n) G → rIx K (.ref t) (.int 1) G z := fun hs h => .inr (.inl ⟨t, _, 1, _, rfl, rfl, .inl (.inl hs), rfl, h⟩)
              have j1 : ∀ {G : Hp} {z : V → Hp → Prop}, G t' = some (.tup [.str (S v), .int (m : Int)]) → z (.int m) G → rIx K (.ref t') (.int 1) G z := fun hs h => .inr (.inl ⟨t', _, 1, _, rfl, rfl, .inl (.inl hs), rfl, h⟩)
              by_cases c : per u (min (min n m) (u.length + v.length)) = per v (min (min n m) (u.length + v.length))
              · have st := stp.1 c
                rw [c, cmp_same]
                refine ⟨.int 0, rfl, rfl, _, rfl, iteF ?_⟩
                refine ⟨.ref t, rfl, i1 ht ⟨.ref t', rfl, j1 ht' ⟨n, m, rfl, ?_⟩⟩⟩
                rw [min_two]
                have g1 := Nat.min_le_left n m
                have g2 := Nat.min_le_right n m
                have g3 : min n m = n ∨ min n m = m := by omega
                generalize min n m = k' at *
                refine ⟨.ref t, rfl, i1 ht ⟨.int k', rfl, n, k', rfl, rfl, _, rfl, ite2 (fun e1 => ?_) (fun e1 => ?_)⟩⟩
                · have e1' : (k' : Int) < n := of_decide_eq_true e1
                  have b1 : behind u n k' = [(rot u (k' % u.length), n - k')] := if_pos (by omega)
                  have b2 : behind v m k' = [] := if_neg (by omega)
                  rw [b1, b2] at st
                  have okL' : RunsOk ((rot u (k' % u.length), n - k') :: L) := by have := okL.behind (m := k'); rw [b1] at this; exact this
                  refine ⟨.ref la, rfl, .inl ⟨rfl, _, .inl (.inl ll2)⟩, .ref t, rfl, .int k', rfl, t, u, n, k', rfl, ht, hu, hlu, by omega, fun N nN => ⟨la, _, _, rfl, rfl, same_new nN _ _ ll2, ?_, ?_⟩⟩
                  · rw [List.length_map, List.length_reverse]
                    simp at lenL lL
                    exact Nat.lt_of_lt_of_le (show tl.length < 100 by omega) (by decide)
                  have ll3 : upd G2 N (.tup [.str (S (rot u (k' % u.length))), .int ((n - k' : Nat) : Int)]) la = some (.lst (tl.reverse.map V.ref)) := same_new nN _ _ ll2
                  have rr3 : upd G2 N (.tup [.str (S (rot u (k' % u.length))), .int ((n - k' : Nat) : Int)]) ra = some (.lst (tr.reverse.map V.ref)) := same_new nN _ _ rr2
                  have hN : upd G2 N (.tup [.str (S (rot u (k' % u.length))), .int ((n - k' : Nat) : Int)]) N = some (.tup [.str (S (rot u (k' % u.length))), .int ((n - k' : Nat) : Int)]) := upd_same
                  have pl3 := pl2.same (same_new nN (o := .tup [.str (S (rot u (k' % u.length))), .int ((n - k' : Nat) : Int)]))
                  have pr3 := pr2.same (same_new nN (o := .tup [.str (S (rot u (k' % u.length))), .int ((n - k' : Nat) : Int)]))
                  have SG3 : Same H (upd G2 N (.tup [.str (S (rot u (k' % u.length))), .int ((n - k' : Nat) : Int)])) := same_updN SG2 (SG2.free nN)
                  generalize upd G2 N (.tup [.str (S (rot u (k' % u.length))), .int ((n - k' : Nat) : Int)]) = G3' at *
                  have pp : PairsAt G3' (N :: tl) ((rot u (k' % u.length), n - k') :: L) := ⟨hN, pl3.2⟩
                  have pl4 := PairsAt.upL (o := .lst (tl.reverse.map V.ref ++ [.ref N])) ll3 pp
                  have pr4 := PairsAt.upL (o := .lst (tl.reverse.map V.ref ++ [.ref N])) ll3 pr3
                  refine ⟨.ref t', rfl, j1 pr4.1 ⟨.int k', rfl, m, k', rfl, rfl, _, rfl, ite2 (fun e2 => ?_) (fun e2 => ?_)⟩⟩
                  · have : (k' : Int) < m := of_decide_eq_true e2
                    omega
                  · refine ⟨_, ?_, N :: tl, tr, (rot u (k' % u.length), n - k') :: L, R, _, _, _, _, rfl, ⟨?_, pl4⟩, ⟨?_, pr4.2⟩, okL', fun z hz => okR z (List.mem_cons_of_mem _ hz), lL, ?_, rfl, same_updN SG3 nla, st.symm⟩
                    · simp
                    · rw [upd_same]; simp
                    · rw [upd_ne hlr.symm]; exact rr3
                    · simp at lR; omega
                · have e1' : ¬ (k' : Int) < n := fun z => e1 (decide_eq_true z)
                  have b1 : behind u n k' = [] := if_neg (by omega)
                  rw [b1] at st
                  refine ⟨.ref t', rfl, j1 ht' ⟨.int k', rfl, m, k', rfl, rfl, _, rfl, ite2 (fun e2 => ?_) (fun e2 => ?_)⟩⟩
                  · have e2' : (k' : Int) < m := of_decide_eq_true e2
                    have b2 : behind v m k' = [(rot v (k' % v.length), m - k')] := if_pos (by omega)
                    rw [b2] at st
                    have okR' : RunsOk ((rot v (k' % v.length), m - k') :: R) := by have := okR.behind (m := k'); rw [b2] at this; exact this
                    refine ⟨.ref ra, rfl, .inl ⟨rfl, _, .inl (.inl rr2)⟩, .ref t', rfl, .int k', rfl, t', v, m, k', rfl, ht', hv, hlv, by omega, fun N nN => ⟨ra, _, _, rfl, rfl, same_new nN _ _ rr2, ?_, ?_⟩⟩
                    · rw [List.length_map, List.length_reverse]
                      simp at lenR lR
                      exact Nat.lt_of_lt_of_le (show tr.length < 100 by omega) (by decide)
                    have ll3 : upd G2 N (.tup [.str (S (rot v (k' % v.length))), .int ((m - k' : Nat) : Int)]) la = some (.lst (tl.reverse.map V.ref)) := same_new nN _ _ ll2
                    have rr3 : upd G2 N (.tup [.str (S (rot v (k' % v.length))), .int ((m - k' : Nat) : Int)]) ra = some (.lst (tr.reverse.map V.ref)) := same_new nN _ _ rr2
                    have hN : upd G2 N (.tup [.str (S (rot v (k' % v.length))), .int ((m - k' : Nat) : Int)]) N = some (.tup [.str (S (rot v (k' % v.length))), .int ((m - k' : Nat) : Int)]) := upd_same
                    have pl3 := pl2.same (same_new nN (o := .tup [.str (S (rot v (k' % v.length))), .int ((m - k' : Nat) : Int)]))
                    have pr3 := pr2.same (same_new nN (o := .tup [.str (S (rot v (k' % v.length))), .int ((m - k' : Nat) : Int)]))
                    have SG3 : Same H (upd G2 N (.tup [.str (S (rot v (k' % v.length))), .int ((m - k' : Nat) : Int)])) := same_updN SG2 (SG2.free nN)
                    generalize upd G2 N (.tup [.str (S (rot v (k' % v.length))), .int ((m - k' : Nat) : Int)]) = G3' at *
                    have pp : PairsAt G3' (N :: tr) ((rot v (k' % v.length), m - k') :: R) := ⟨hN, pr3.2⟩
                    have pr4 := PairsAt.upL (o := .lst (tr.reverse.map V.ref ++ [.ref N])) rr3 pp
                    have pl4 := PairsAt.upL (o := .lst (tr.reverse.map V.ref ++ [.ref N])) rr3 pl3
                    refine ⟨_, ?_, tl, N :: tr, L, (rot v (k' % v.length), m - k') :: R, _, _, _, _, rfl, ⟨?_, pl4.2⟩, ⟨?_, pr4⟩, fun z hz => okL z (List.mem_cons_of_mem _ hz), okR', ?_, lR, rfl, same_updN SG3 nra, st.symm⟩
                    · simp
                    · rw [upd_ne hlr]; exact ll3
                    · rw [upd_same]; simp
                    · simp at lL; omega
                  · have e2' : ¬ (k' : Int) < m := fun z => e2 (decide_eq_true z)
                    have b2 : behind v m k' = [] := if_neg (by omega)
                    rw [b2] at st
                    refine ⟨_, ?_, tl, tr, L, R, _, _, _, _, rfl, ⟨ll2, pl2.2⟩, ⟨rr2, pr2.2⟩, fun z hz => okL z (List.mem_cons_of_mem _ hz), fun z hz => okR z (List.mem_cons_of_mem _ hz), ?_, ?_, rfl, SG2, st.symm⟩
                    · simp; omega
                    · simp at lL; omega
                    · simp at lR; omega
              · have st := stp.2 c
                have nz : cmpT (per u (min (min n m) (u.length + v.length))) (per v (min (min n m) (u.length + v.length))) ≠ 0 := fun z => c (cmp_zero.1 z)
                rw [← st] at nz ⊢
                refine ⟨.int _, rfl, rfl, _, rfl, ?_⟩
                rw [show (!decide (V.int (cmpT (ex p) (ex q)) = V.int 0)) = true by rw [decide_eq_false (fun z => nz (V.int.inj z))]; rfl]
                exact iteT ⟨.int _, rfl, done G2 SG2⟩
end
end Kc

set_option Elab.async false
set_option linter.all false
set_option maxRecDepth 100000
set_option maxHeartbeats 4000000
/-! the law's helpers: rows that stand, empty or not; words drawn -/
namespace Kc
open PySem PySem.Spec PyProof.Rows L2 Ke RZ FarM
theorem join_S : ∀ us : List (List Nat), Txt.join "" (us.map S) = S us.flatten := by
  intro us
  show Builtin.Str.glued "" (us.map S) = _
  rw [StrLaws.glued_eq_join]
  induction us with
  | nil => rfl
  | cons u us ih =>
    cases us with
    | nil => simp [Str.join]
    | cons v us =>
      rw [List.map_cons, List.map_cons]
      show S u ++ "" ++ Str.join "" (S v :: us.map S) = _
      rw [List.map_cons] at ih
      rw [ih, show S u ++ "" = S u from by show S u ++ S [] = S u; rw [S_app, List.append_nil], S_app]
      rfl
def LetOk (u : List Nat) : Prop := ∀ c ∈ u, 97 ≤ c ∧ c ≤ 100
theorem strOk_S {u : List Nat} (h : LetOk u) : PyData.strOk (S u) = true := by
  show (S u).cps.all (· < 0x110000) = true
  rw [Array.all_eq_true_iff_forall_mem]
  intro c hc
  have : c ∈ u := by simpa [S] using hc
  have := h c this
  simp
  omega
def dRow (row : Far) : List PyData := row.map fun p => .tuple [.str (S p.1), .int (p.2 : Int)]
theorem dRow_dp {K : PySem.W.Frag} {H : Hp} : ∀ {ts : List Addr} {row : Far}, PairsAt H ts row → DpAll K H (ts.map V.ref) (dRow row)
  | _ :: _, _ :: _, h => .cons (.tup (.inl (.inl h.1)) (.cons (.str _) (.cons (.int _) .nil))) (dRow_dp h.2)
  | [], [], _ => .nil
  | [], _ :: _, h => h.elim
  | _ :: _, [], h => h.elim
theorem dRow_lay : ∀ {row : Far}, (∀ p ∈ row, LetOk p.1) → PyData.canLayAll0 (dRow row) = true ∧ PyData.depthAll (dRow row) ≤ 1
  | [], _ => ⟨rfl, Nat.zero_le _⟩
  | p :: row, h => by
    have ⟨a, b⟩ := dRow_lay fun q hq => h q (List.mem_cons_of_mem _ hq)
    refine ⟨?_, ?_⟩
    · show (PyData.canLay0 (.tuple [.str (S p.1), .int (p.2 : Int)]) && PyData.canLayAll0 (dRow row)) = true
      rw [a, Bool.and_true]
      show (PyData.strOk (S p.1) && (true && true)) = true
      rw [strOk_S (h p List.mem_cons_self)]
      rfl
    · show max 1 (PyData.depthAll (dRow row)) ≤ 1
      omega
theorem dRow_shaped {row : Far} (h : ∀ p ∈ row, LetOk p.1) : SeqAt.shaped (.list (dRow row)) = true := by
  have ⟨a, b⟩ := dRow_lay h
  show (PyData.canLayAll0 (dRow row) && decide (PyData.depthAll (dRow row) + 1 ≤ 64)) = true
  rw [a, decide_eq_true (by omega)]
  rfl
/-- what changes is the bag -/
def Keep (b : Addr) (H H' : Hp) : Prop := ∀ a o, a ≠ b → H a = some o → H' a = some o
theorem Keep.rfl' {b : Addr} {H : Hp} : Keep b H H := fun _ _ _ h => h
theorem Keep.trans {b : Addr} {H G J : Hp} (h : Keep b H G) (k : Keep b G J) : Keep b H J := fun a o n e => k a o n (h a o n e)
theorem Keep.upd {b : Addr} {H G : Hp} {o : HO} (h : Keep b H G) : Keep b H (L2.upd G b o) := fun a u n e => by rw [upd_ne n]; exact h a u n e
theorem Keep.new {b a : Addr} {H G : Hp} {o : HO} (h : Keep b H G) (ha : G a = none) : Keep b H (L2.upd G a o) := fun c u n e => by rw [upd_ne (ne_of_none (h c u n e) ha)]; exact h c u n e
theorem Keep.of {b : Addr} {H G : Hp} (h : Same H G) : Keep b H G := fun a o _ e => h a o e
theorem PairsAt.keep {b : Addr} {H G : Hp} {ys : List V} (hb : H b = some (.lst ys)) (k : Keep b H G) : ∀ {rs : List Addr} {row : Far}, PairsAt H rs row → PairsAt G rs row
  | r :: _, _ :: _, h => ⟨k _ _ (ne_of h.1 hb (fun z => nomatch z)) h.1, PairsAt.keep hb k h.2⟩
  | [], [], _ => trivial
  | [], _ :: _, h => h.elim
  | _ :: _, [], h => h.elim
theorem BagAt.lst {H : Hp} {b l : Addr} {n : Nat} (h : BagAt H b l n) : ∃ ys, H b = some (.lst ys) := by
  obtain ⟨ns, p, r, m, c, h1, _⟩ := h
  exact ⟨_, h1⟩
theorem BagAt.same {H H' : Hp} {b l : Addr} {n : Nat} (e : Same H H') (h : BagAt H b l n) : BagAt H' b l n := by
  obtain ⟨ns, p, r, m, c, h1, h2, h3⟩ := h
  exact ⟨ns, p, r, m, c, e _ _ h1, e _ _ h2, h3⟩
theorem BagAt.ne {H : Hp} {b l p : Addr} {n : Nat} (h : BagAt H b l n) (hp : H p = none) : p ≠ b := by
  obtain ⟨ns, q, r, m, c, h1, _⟩ := h
  exact (ne_of_none h1 hp).symm
theorem BagAt.neL {H : Hp} {b l p : Addr} {n : Nat} (h : BagAt H b l n) (hp : H p = none) : p ≠ l := by
  obtain ⟨ns, q, r, m, c, h1, h2, _⟩ := h
  exact (ne_of_none h2 hp).symm
theorem BagAt.add {H : Hp} {b l p : Addr} {n : Nat} {o : HO} (h : BagAt H b l n) (hp : H p = none) : BagAt (upd H p o) b l n := h.same (same_new hp)
theorem BagAt.upD {H : Hp} {b l p : Addr} {n : Nat} {o : HO} (h : BagAt H b l n) (h1 : p ≠ b) (h2 : p ≠ l) : BagAt (upd H p o) b l n := by
  obtain ⟨ns, q, r, m, c, e1, e2, e3⟩ := h
  exact ⟨ns, q, r, m, c, by rw [upd_ne (Ne.symm h1)]; exact e1, by rw [upd_ne (Ne.symm h2)]; exact e2, e3⟩
theorem Keep.none {b D : Addr} {H G : Hp} (h : Keep b H G) (hD : G D = none) (hn : D ≠ b) : H D = none := by
  cases e : H D with
  | none => rfl
  | some o => rw [h D o hn e] at hD; cases hD
theorem Keep.upD {b D : Addr} {H G : Hp} {o : HO} (h : Keep b H G) (hD : H D = Option.none) : Keep b H (L2.upd G D o) := fun c u n e => by rw [upd_ne (ne_of_none e hD)]; exact h c u n e
/-- a list of pairs, not the bag -/
def RowL (H : Hp) (b : Addr) (x : V) (row : Far) : Prop := ∃ (p : Addr) (ts : List Addr), x = .ref p ∧ p ≠ b ∧ H p = some (.lst (ts.map V.ref)) ∧ PairsAt H ts row
theorem RowL.keep {b l : Addr} {H G : Hp} {x : V} {row : Far} {n : Nat} (hb : BagAt H b l n) (k : Keep b H G) (h : RowL H b x row) : RowL G b x row := by
  obtain ⟨p, ts, rfl, h1, h2, h3⟩ := h
  obtain ⟨ys, hy⟩ := hb.lst
  exact ⟨p, ts, rfl, h1, k _ _ h1 h2, h3.keep hy k⟩
abbrev sWord : Stmt := topS 27
abbrev sPower : Stmt := topS 31
theorem scWord : FnScope ["bag", "most_y", "some", "k"] ["bag", "most_y"] (defScope sWord) := ⟨rfl, rfl, rfl, by decide +kernel, rfl, by decide +kernel, by decide +kernel⟩
theorem scPower : FnScope ["bag"] ["bag"] (defScope sPower) := ⟨rfl, rfl, rfl, by decide +kernel, rfl, by decide +kernel, by decide +kernel⟩
end Kc

set_option Elab.async false
set_option linter.all false
set_option maxRecDepth 100000
set_option maxHeartbeats 4000000
/-! the law: words, powers, pieces cut, letters -/
namespace Kc
open PySem PySem.Spec PyProof.Rows L2 Ke RZ FarM
section
variable {P : Program} {w : World} {K : PySem.W.Frag} {mg : Str → Option Value} {base : Heap}
theorem topOk {t : Int} (h : t.natAbs < 2 ^ 200) : t.natAbs < 2 ^ tops := Nat.lt_of_lt_of_le h (Nat.pow_le_pow_right (by decide) (by decide))
theorem nOk {n : Nat} (h : n < 100000) : n < 2 ^ 40 := Nat.lt_of_lt_of_le h (by decide)
def spWord (K : PySem.W.Frag) : Sp := fun vs H Q _ => ∃ (b l : Addr) (n m : Nat), vs = [.ref b, .int (m : Int)] ∧ BagAt H b l n ∧ n < 50000 ∧ m ≤ 5 ∧
  ∀ H' u, Keep b H H' → BagAt H' b l (n + 7) → u.length ≤ m → LetOk u → Q (.str (S u)) H'
theorem BagAt.up {H : Hp} {b l : Addr} {n m : Nat} (h : BagAt H b l n) (hm : n ≤ m) : BagAt H b l m := by
  obtain ⟨ns, p, r, x, c, h1, h2, h3⟩ := h
  exact ⟨ns, p, r, x, c, h1, h2, h3.len, h3.p0, h3.r0, h3.m0, h3.m1, h3.c0, by have := h3.c1; omega⟩
theorem flat_let : ∀ {us : List (List Nat)}, (∀ u ∈ us, u.length = 1 ∧ LetOk u) → us.flatten.length = us.length ∧ LetOk us.flatten
  | [], _ => ⟨rfl, fun _ h => by simp at h⟩
  | u :: us, h => by
    have ⟨a, b⟩ := flat_let fun v hv => h v (List.mem_cons_of_mem _ hv)
    have ⟨c, d⟩ := h u List.mem_cons_self
    refine ⟨by rw [List.flatten_cons, List.length_append, a, c, List.length_cons]; omega, fun x hx => ?_⟩
    rw [List.flatten_cons] at hx
    rcases List.mem_append.1 hx with z | z
    · exact d x z
    · exact b x z
theorem ok_word {f gO gD : Addr} {fd dO dD : FuncData} {k : Nat} (F : Fun K "_law_word" "_law_word" sWord f fd) (mr : mg "range" = none) (GO : FnOk P w K mg base CX0 (k + 2) gO dO ["bag", "some"] (spOf K)) (mO : mg "_law_of" = some (.ref gO)) (kO : PySem.W.keepIn K (.ref gO) = true) (bO : Binds K dO ["bag", "some"] [])
    (GD : FnOk P w K mg base CX0 (k + 1) gD dD ["bag", "top"] spDraw) (mD : mg "_law_draw" = some (.ref gD)) (kD : PySem.W.keepIn K (.ref gD) = true) (bD : Binds K dD ["bag", "top"] []) : FnOk P w K mg base CX0 (k + 3) f fd ["bag", "most_y"] (spWord K) := by
  refine F.ok scWord (fun vs H Q E h => ?_) (fun cdv A outer s H vs Q E hr h => ?_)
  · obtain ⟨b, l, n, m, rfl, _⟩ := h
    rfl
  · obtain ⟨b, l, n, m, rfl, hb, hn, hm, q⟩ := h
    have hr1 := hr.mono (show k + 1 ≤ k + 2 by omega)
    refine ⟨_, pss_cons (ps_set (i := 2) scWord.nd rfl (Or.inr rfl) (pe_call GO hr (by rfl) mO kO bO .nil pass0 (pa_cons (pv 0) (pa_cons (pe_lst (pa_cons pe_str (pa_cons pe_str (pa_cons pe_str (pa_cons pe_str (pa_cons pe_str pa_nil)))))) pa_nil))))
      (pss_one (ps_ret (pe_join pe_str (pe_lc (own := [("k", 3)]) (g := gName 3) (tt := tYes) rfl scWord.nd (pi_range1 rfl mr (pa_cons (pe_call GD hr1 (by rfl) mD kD bD .nil pass0 (pa_cons (pv 0) (pa_cons (pe_op op_add (pv 1) pe_int) pa_nil))) pa_nil)) (blkOk_by (N := ["bag", "most_y", "some", "k"]) (sc := defScope sWord) (by decide +kernel)) (fun _ _ _ _ _ => pg_name (i := 3) scWord.nd rfl (Or.inl rfl)) (fun _ _ _ _ _ => pts_nil)
        (fun _ _ _ _ _ => pe_call GO hr (by rfl) mO kO bO .nil pass0 (pa_cons (pv 0) (pa_cons (pv 2) pa_nil))))))), ?_⟩
    refine ⟨.ref b, rfl, by show 5 ≤ sizeLine; decide, fun p np => ⟨b, l, n, .ref p, rfl, hb.add np, nOk (by omega), .inl ⟨p, _, rfl, .inl (.inl upd_same), hb.ne np, by show 0 < 5; decide, by show 5 < 2 ^ 60; decide, fun o v hb1 _ hv => ?_⟩⟩⟩
    have ⟨z, ez, z0, z1, z2⟩ : ∃ z : List Nat, v = .str (S z) ∧ 0 < z.length ∧ z.length ≤ 4 ∧ LetOk z := by
      have h4 : ∀ z : List Nat, (z.all fun c => decide (97 ≤ c ∧ c ≤ 100)) = true → LetOk z := fun z h c hc => of_decide_eq_true (List.all_eq_true.1 h c hc)
      simp only [List.mem_cons, List.not_mem_nil, or_false] at hv
      rcases hv with rfl | rfl | rfl | rfl | rfl
      · exact ⟨[97, 98], rfl, by decide, by decide, h4 _ rfl⟩
      · exact ⟨[97, 98, 99], rfl, by decide, by decide, h4 _ rfl⟩
      · exact ⟨[97, 98, 99, 100], rfl, by decide, by decide, h4 _ rfl⟩
      · exact ⟨[98, 100], rfl, by decide, by decide, h4 _ rfl⟩
      · exact ⟨[97, 98], rfl, by decide, by decide, h4 _ rfl⟩
    subst ez
    have K1 : Keep b H (upd (upd H p (.lst [.str "ab", .str "abc", .str "abcd", .str "bd", .str "ab"])) b o) := (Keep.rfl'.new np).upd
    generalize upd (upd H p (.lst [.str "ab", .str "abc", .str "abcd", .str "bd", .str "ab"])) b o = G1 at *
    refine ⟨⟨_, rfl⟩, .ref b, rfl, .int m, rfl, m, 1, rfl, rfl, b, l, n + 1, _, rfl, hb1, nOk (by omega), by omega, topOk (Nat.lt_of_lt_of_le (show ((m : Int) + 1).natAbs < 100 by omega) (by decide)), fun o2 j hb2 _ j0 j1 => ?_⟩
    have K2 : Keep b H (upd G1 b o2) := K1.upd
    generalize upd G1 b o2 = G2 at *
    refine ⟨j, rfl, by omega, by omega, fun D hD => ?_⟩
    have hnb := hb2.ne hD
    have hnl := hb2.neL hD
    have hHD := K2.none hD hnb
    refine lc_range (n := j.toNat) (fun i G => ∃ us : List (List Nat), G D = some (.lst ((us.map S).map V.str)) ∧ us.length = i ∧ (∀ u ∈ us, u.length = 1 ∧ LetOk u) ∧ BagAt G b l (n + 2 + i) ∧ Keep b H G) ⟨[], upd_same, rfl, fun _ h => by simp at h, hb2.add hD, K2.upD hHD⟩ ?_ ?_
    · rintro i G hi ⟨us, gD, ul, uo, gb, gk⟩
      refine ⟨rfl, ?_⟩
      show tCall (spOf K) [] E0 (tCons (tVar 0) (tCons (tVar 2) tNil)) _ _ _
      refine ⟨.ref b, rfl, .str (S z), rfl, b, l, n + 2 + i, .str (S z), rfl, gb, nOk (by omega), .inr ⟨S z, rfl, ?_, ?_, fun o3 c hb3 _ hc => ?_⟩⟩
      · show 0 < (S z).length; rw [S_len]; exact z0
      · show (S z).length ≤ 1000; rw [S_len]; omega
      · rw [S_list] at hc
        refine ⟨(us.map S).map V.str, by rw [upd_ne hnb]; exact gD, by rw [List.length_map, List.length_map, ul]; exact Nat.lt_of_lt_of_le (show i < 100 by omega) (by decide), us ++ [[c]], ?_, ?_, ?_, ?_, ?_⟩
        · rw [upd_same, List.map_append, List.map_append]; rfl
        · rw [List.length_append, ul]; rfl
        · intro u hu
          rcases List.mem_append.1 hu with h | h
          · exact uo u h
          · simp at h
            subst h
            exact ⟨rfl, fun d hd => by simp at hd; subst hd; exact z2 _ hc⟩
        · exact hb3.upD hnb hnl
        · exact gk.upd.upD hHD
    · rintro G ⟨us, gD, ul, uo, gb, gk⟩
      have ⟨f1, f2⟩ := flat_let uo
      refine ⟨"", D, us.map S, rfl, rfl, .inl (.inl (.inl gD)), ?_, ?_⟩
      · have : ∀ {us : List (List Nat)}, (∀ u ∈ us, u.length = 1 ∧ LetOk u) → ((us.map S).map (·.length)).sum = us.length := fun {us} => by
          induction us with
          | nil => intro _; rfl
          | cons u us ih =>
            intro h
            rw [List.map_cons, List.map_cons, List.sum_cons, ih fun v hv => h v (List.mem_cons_of_mem _ hv), S_len, (h u List.mem_cons_self).1, List.length_cons]
            omega
        rw [this uo, ul]
        show j.toNat + (us.map S).length * 0 ≤ 16777216
        omega
      · rw [join_S]
        exact q G us.flatten gk (gb.up (by omega)) (by rw [f1, ul]; omega) f2
end
end Kc

set_option Elab.async false
set_option linter.all false
set_option maxRecDepth 100000
set_option maxHeartbeats 4000000
/-! the law: powers, pieces cut, letters -/
namespace Kc
open PySem PySem.Spec PyProof.Rows L2 Ke RZ FarM
abbrev sShift : Stmt := topS 28
abbrev sLetter : Stmt := topS 30
theorem scShift : FnScope ["row", "many", "u", "a", "rest", "left", "found"] ["row", "many"] (defScope sShift) := ⟨rfl, rfl, rfl, by decide +kernel, rfl, by decide +kernel, by decide +kernel⟩
theorem scLetter : FnScope ["row", "at_y", "rest", "u", "a"] ["row", "at_y"] (defScope sLetter) := ⟨rfl, rfl, rfl, by decide +kernel, rfl, by decide +kernel, by decide +kernel⟩
section
variable {P : Program} {w : World} {K : PySem.W.Frag} {mg : Str → Option Value} {base : Heap}
def spPower (K : PySem.W.Frag) : Sp := fun vs H Q _ => ∃ (b l : Addr) (n : Nat), vs = [.ref b] ∧ BagAt H b l n ∧ n < 50000 ∧
  ∀ H' (m : Nat), Keep b H H' → BagAt H' b l (n + 5) → 1 ≤ m → m ≤ 10 ^ 30 → Q (.int (m : Int)) H'
theorem ok_power {f gO gD : Addr} {fd dO dD : FuncData} {k : Nat} (F : Fun K "_law_power" "_law_power" sPower f fd) (GO : FnOk P w K mg base CX0 (k + 2) gO dO ["bag", "some"] (spOf K)) (mO : mg "_law_of" = some (.ref gO)) (kO : PySem.W.keepIn K (.ref gO) = true) (bO : Binds K dO ["bag", "some"] [])
    (GD : FnOk P w K mg base CX0 (k + 1) gD dD ["bag", "top"] spDraw) (mD : mg "_law_draw" = some (.ref gD)) (kD : PySem.W.keepIn K (.ref gD) = true) (bD : Binds K dD ["bag", "top"] []) : FnOk P w K mg base CX0 (k + 3) f fd ["bag"] (spPower K) := by
  refine F.ok scPower (fun vs H Q E h => ?_) (fun cdv A outer s H vs Q E hr h => ?_)
  · obtain ⟨b, l, n, rfl, _⟩ := h
    rfl
  · obtain ⟨b, l, n, rfl, hb, hn, q⟩ := h
    have hr1 := hr.mono (show k + 1 ≤ k + 2 by omega)
    refine ⟨_, pss_one (ps_ret (pe_call GO hr (by rfl) mO kO bO .nil pass0 (pa_cons (pv 0) (pa_cons (pe_lst (pa_cons pe_int (pa_cons pe_int (pa_cons pe_int (pa_cons pe_int
      (pa_cons (pe_op op_add pe_int (pe_call GD hr1 (by rfl) mD kD bD .nil pass0 (pa_cons (pv 0) (pa_cons pe_int pa_nil))))
      (pa_cons (pe_op op_add pe_int (pe_call GD hr1 (by rfl) mD kD bD .nil pass0 (pa_cons (pv 0) (pa_cons pe_int pa_nil))))
      (pa_cons (pe_op op_pow pe_int pe_int) (pa_cons (pe_op op_sub (pe_op op_pow pe_int pe_int) pe_int)
      (pa_cons (pe_op op_add pe_int (pe_call GD hr1 (by rfl) mD kD bD .nil pass0 (pa_cons (pv 0) (pa_cons (pe_op op_pow pe_int pe_int) pa_nil))))
      (pa_cons (pe_op op_add (pe_op op_pow pe_int pe_int) (pe_call GD hr1 (by rfl) mD kD bD .nil pass0 (pa_cons (pv 0) (pa_cons pe_int pa_nil)))) pa_nil))))))))))) pa_nil)))), ?_⟩
    refine ⟨.ref b, rfl, .ref b, rfl, b, l, n, _, rfl, hb, nOk (by omega), by decide, topOk (by decide), fun o1 j1 hb1 _ a1 c1 => ⟨1, j1, rfl, rfl, ?_⟩⟩
    have K1 : Keep b H (upd H b o1) := Keep.rfl'.upd
    generalize upd H b o1 = G1 at *
    refine ⟨.ref b, rfl, b, l, n + 1, _, rfl, hb1, nOk (by omega), by decide, topOk (by decide), fun o2 j2 hb2 _ a2 c2 => ⟨1, j2, rfl, rfl, ?_⟩⟩
    have K2 : Keep b H (upd G1 b o2) := K1.upd
    generalize upd G1 b o2 = G2 at *
    refine ⟨10, 30, rfl, rfl, ⟨by decide, by decide, by decide⟩, 10, 30, rfl, rfl, ⟨by decide, by decide, by decide⟩, _, 1, rfl, rfl, ?_⟩
    refine ⟨.ref b, rfl, 10, 30, rfl, rfl, ⟨by decide, by decide, by decide⟩, b, l, n + 2, _, rfl, hb2, nOk (by omega), by decide, topOk (by decide), fun o3 j3 hb3 _ a3 c3 => ⟨1, j3, rfl, rfl, ?_⟩⟩
    have K3 : Keep b H (upd G2 b o3) := K2.upd
    generalize upd G2 b o3 = G3 at *
    refine ⟨10, 15, rfl, rfl, ⟨by decide, by decide, by decide⟩, .ref b, rfl, b, l, n + 3, _, rfl, hb3, nOk (by omega), by decide, topOk (by decide), fun o4 j4 hb4 _ a4 c4 => ⟨_, j4, rfl, rfl, ?_⟩⟩
    have K4 : Keep b H (upd G3 b o4) := K3.upd
    generalize upd G3 b o4 = G4 at *
    refine ⟨by show 10 ≤ sizeLine; decide, fun p np => ⟨b, l, n + 4, .ref p, rfl, hb4.add np, nOk (by omega), .inl ⟨p, _, rfl, .inl (.inl upd_same), hb4.ne np, by show 0 < 10; decide, by show 10 < 2 ^ 60; decide, fun o5 v hb5 _ hv => ?_⟩⟩⟩
    have hv' : ∃ m : Nat, v = .int (m : Int) ∧ 1 ≤ m ∧ m ≤ 10 ^ 30 := by
      have t30 : (10 : Nat) ^ 30 = 1000000000000000000000000000000 := by decide +kernel
      have e30 : ((10 : Int) ^ (30 : Int).toNat) = 1000000000000000000000000000000 := by decide +kernel
      have e15 : ((10 : Int) ^ (15 : Int).toNat) = 1000000000000000 := by decide +kernel
      simp only [List.mem_cons, List.not_mem_nil, or_false] at hv
      have fin : ∀ z : Int, v = .int z → 1 ≤ z → z ≤ 1000000000000000000000000000000 → ∃ m : Nat, v = .int (m : Int) ∧ 1 ≤ m ∧ m ≤ 10 ^ 30 := fun z e h1 h2 => ⟨z.toNat, by rw [e, Int.toNat_of_nonneg (by omega)], by omega, by rw [t30]; omega⟩
      rw [e30] at c3 hv
      rw [e15] at hv
      rcases hv with e | e | e | e | e | e | e | e | e | e <;> exact fin _ e (by omega) (by omega)
    obtain ⟨m, rfl, m1, m2⟩ := hv'
    exact q _ m (K4.new np).upd hb5 m1 m2
theorem left_int {a m u : Nat} (hu : 0 < u) (h : m ≤ u * a) : (a : Int) - (m : Int) / (u : Int) - (if 0 < m % u then 1 else 0) = ((a - m / u - (if 0 < m % u then 1 else 0) : Nat) : Int) := by
  have dm := Nat.div_add_mod m u
  have q1 : m / u ≤ a := by
    rcases Nat.lt_or_ge a (m / u) with z | z
    · have := Nat.mul_le_mul_left u (Nat.succ_le_of_lt z)
      rw [Nat.mul_succ] at this
      omega
    · exact z
  rw [← Int.natCast_ediv]
  by_cases hz : 0 < m % u
  · have q2 : m / u < a := by
      rcases Nat.lt_or_ge (m / u) a with z | z
      · exact z
      · have := Nat.mul_le_mul_left u z; omega
    rw [if_pos hz, if_pos hz]
    omega
  · rw [if_neg hz, if_neg hz]
    omega
theorem cut_list {xs : List V} {k : Nat} : cutV xs (some (k : Int)) none = xs.drop k := by
  unfold cutV
  rw [show HT.sIx xs.length xs.length none = xs.length from HT.sIx_none _ _, show HT.sIx xs.length 0 (some (k : Int)) = min k xs.length from HT.sIx_nat xs.length _ k]
  by_cases h : k ≤ xs.length
  · rw [Nat.min_eq_left h, List.take_of_length_le (by simp)]
  · rw [Nat.min_eq_right (by omega), List.drop_of_length_le (Nat.le_refl _), List.drop_of_length_le (by omega : xs.length ≤ k)]
    simp
theorem cut_listTo {xs : List V} {k : Nat} : cutV xs none (some (k : Int)) = xs.take k := by
  unfold cutV
  rw [show HT.sIx xs.length 0 none = 0 from HT.sIx_none _ _, show HT.sIx xs.length xs.length (some (k : Int)) = min k xs.length from HT.sIx_nat xs.length _ k, List.drop_zero, Nat.sub_zero]
  by_cases h : k ≤ xs.length
  · rw [Nat.min_eq_left h]
  · rw [Nat.min_eq_right (by omega), List.take_of_length_le (Nat.le_refl _), List.take_of_length_le (by omega)]
def spShift : Sp := fun vs H Q _ => ∃ (p : Addr) (ts : List Addr) (u : List Nat) (a m : Nat) (r : Far), vs = [.ref p, .int (m : Int)] ∧ H p = some (.lst (ts.map V.ref)) ∧ PairsAt H ts ((u, a) :: r) ∧ u ≠ [] ∧ u.length ≤ 40 ∧ m ≤ u.length * a ∧ ts.length ≤ 4000 ∧
  ∀ H' p' ts', Same H H' → H p' = none → H' p' = some (.lst (ts'.map V.ref)) → PairsAt H' ts' (shiftL ((u, a) :: r) m) → Q (.ref p') H'
theorem PairsAt.app {H : Hp} {ss : List Addr} {q : Far} (h2 : PairsAt H ss q) : ∀ {rs : List Addr} {p : Far}, PairsAt H rs p → PairsAt H (rs ++ ss) (p ++ q)
  | _ :: _, _ :: _, h => ⟨h.1, PairsAt.app h2 h.2⟩
  | [], [], _ => h2
  | [], _ :: _, h => h.elim
  | _ :: _, [], h => h.elim
theorem ok_shift' {f : Addr} {fd : FuncData} {k : Nat} (F : Fun K "_law_shift" "_law_shift" sShift f fd) (M : PMg mg) : FnOk P w K mg base CX0 (k + 1) f fd ["row", "many"] spShift := by
  refine F.ok scShift (fun vs H Q E h => ?_) (fun cdv A outer s H vs Q E hr h => ?_)
  · obtain ⟨p, ts, u, a, m, r, rfl, _⟩ := h
    rfl
  · obtain ⟨p, ts, u, a, m, r, rfl, hp, hts, hu, hlu, hm, hlt, q⟩ := h
    have h0 : 0 < u.length := List.length_pos_iff.2 hu
    cases ts with
    | nil => exact hts.elim
    | cons t ts =>
      have ht := hts.1
      refine ⟨_, pss_cons (ps_asg (pe_ix ix_list (pv 0) pe_int (fun _ _ => rfl)) (pg_tup rfl (pgs_cons (pg_name (i := 2) scShift.nd rfl (Or.inl rfl)) (pgs_cons (pg_name (i := 3) scShift.nd rfl (Or.inl rfl)) pgs_nil))))
        (pss_cons (ps_set (i := 4) scShift.nd rfl (Or.inl rfl) (pe_op op_mod (pe_callTy call_int1 (by rfl) M.int (by decide +kernel) (pa_cons (pv 1) pa_nil)) (pe_callB call_len (by rfl) M.len PySem.boot_len (pa_cons (pv 2) pa_nil))))
        (pss_cons (ps_set (i := 5) scShift.nd rfl (Or.inl rfl) (pe_op op_sub (pe_op op_sub (pv 3) (pe_op op_fdiv (pv 1) (pe_callB call_len (by rfl) M.len PySem.boot_len (pa_cons (pv 2) pa_nil)))) (pe_callTy call_int1 (by rfl) M.int (by decide +kernel) (pa_cons (pe_cmpR op_gt (pv 4) pe_int (nomark _)) pa_nil))))
        (C8.pss_cut (ps_set (i := 6) scShift.nd rfl (Or.inl rfl) (pe_ifExp (pt_cmpR op_gt (pv 5) pe_int (nomark _)) (pe_lst (pa_cons (pe_tup (pa_cons (pe_op op_add_str (pe_slice sl_str (pv 2) (po_some (pv 4)) po_none) (pe_slice sl_str (pv 2) po_none (po_some (pv 4)))) (pa_cons (pv 5) pa_nil))) pa_nil)) (pe_lst pa_nil)))
        (C8.pss_cut (ps_if (pt_cmpR op_gt (pv 4) pe_int (nomark _)) (pss_one (ps_expr (pe_bm PySem.F.plainAttrs_list PySem.F.slot_list_append PySem.F.type_list_append mt_append (pv 6) (pa_cons (pe_tup (pa_cons (pe_slice sl_str (pv 2) (po_some (pv 4)) po_none) (pa_cons pe_int pa_nil))) pa_nil)))) pss_nil)
        (pss_one (ps_ret (pe_op op_cat (pv 6) (pe_slice sl_list (pv 0) (po_some pe_int) po_none)))))))), ?_⟩
      refine ⟨.ref p, rfl, p, _, 0, .ref t, rfl, rfl, .inl (.inl hp), (show atI (List.map V.ref (t :: ts)) ((0 : Nat) : Int) = some (V.ref t) from atI_nat rfl), t, [.str (S u), .int a], rfl, .inl (.inl ht), rfl, .str (S u), [.int a], rfl, .int a, [], rfl, rfl, ?_⟩
      refine ⟨.int m, rfl, .inl ⟨m, rfl, .str (S u), rfl, .str (S u), u.length, rfl, lenS (by omega), m, u.length, rfl, rfl, by show (0 : Int) < (u.length : Int); omega, ?_⟩⟩
      refine ⟨.int a, rfl, .int m, rfl, .str (S u), rfl, .str (S u), u.length, rfl, lenS (by omega), m, u.length, rfl, rfl, ⟨by show (0 : Int) < (u.length : Int); omega, by show (u.length : Int) < 1073741824; omega⟩, a, _, rfl, rfl, ?_⟩
      have eR : ((m : Int) % (u.length : Int)) = ((m % u.length : Nat) : Int) := (Int.natCast_emod ..).symm
      refine ⟨.int ((m % u.length : Nat) : Int), congrArg (fun z : Int => some (some (V.int z))) eR, _, 0, rfl, rfl, .inr ⟨_, rfl, _, _, rfl, rfl, ?_⟩⟩
      have eL : (a : Int) - (m : Int) / (u.length : Int) - (if decide ((0 : Int) < ((m % u.length : Nat) : Int)) = true then 1 else 0) = ((a - m / u.length - (if 0 < m % u.length then 1 else 0) : Nat) : Int) := by
        have := left_int h0 hm
        by_cases z : 0 < m % u.length
        · rw [if_pos z, if_pos z] at this
          rw [if_pos (decide_eq_true (by omega)), if_pos z]
          exact this
        · rw [if_neg z, if_neg z] at this
          rw [if_neg (fun c => z (by have := of_decide_eq_true c; omega)), if_neg z]
          exact this
      have hk : m % u.length < u.length := Nat.mod_lt _ h0
      have cP : cutP u a m = (if 0 < a - m / u.length - (if 0 < m % u.length then 1 else 0) then [(rot u (m % u.length), a - m / u.length - (if 0 < m % u.length then 1 else 0))] else []) ++ (if 0 < m % u.length then [(u.drop (m % u.length), 1)] else []) := rfl
      generalize hL : a - m / u.length - (if 0 < m % u.length then 1 else 0) = left at *
      generalize m % u.length = rest at *
      refine ⟨fun σ G => ∃ (fp : Addr) (fts : List Addr) (y5 : Option V), σ = [some (.ref p), some (.int m), some (.str (S u)), some (.int a), some (.int (rest : Int)), y5, some (.ref fp)] ∧ G fp = some (.lst (fts.map V.ref)) ∧ PairsAt G fts (if 0 < left then [(rot u rest, left)] else []) ∧ Same H G ∧ H fp = none ∧ fts.length ≤ 1, ?_, ?_⟩
      · refine ⟨.int (left : Int), congrArg (fun z : Int => some (some (V.int z))) eL, _, 0, rfl, rfl, _, rfl, ite2 (fun e => ?_) (fun e => ?_)⟩
        · have e' : (0 : Int) < left := of_decide_eq_true e
          refine ⟨.str (S u), rfl, .int rest, congrArg (fun z : Int => some (some (V.int z))) eR, rest, rfl, S u, rfl, by rw [S_len]; exact small (by omega), ?_⟩
          refine ⟨.str (S u), rfl, .int rest, congrArg (fun z : Int => some (some (V.int z))) eR, rest, rfl, S u, rfl, by rw [S_len]; exact small (by omega), ?_⟩
          rw [cut_from, cut_to]
          refine ⟨S (u.drop rest), S (u.take rest), rfl, rfl, by rw [S_len, S_len, List.length_drop, List.length_take]; exact small (by omega), ?_⟩
          rw [S_app]
          refine ⟨.int (left : Int), congrArg (fun z : Int => some (some (V.int z))) eL, by show 2 ≤ sizeLine; decide, fun N nN => ⟨by show 1 ≤ sizeLine; decide, fun fp nf => ?_⟩⟩
          refine ⟨fp, [N], some (.int (left : Int)), ?_, upd_same, ?_, (same_new nN).trans (same_new nf), (same_new nN).free nf, Nat.le_refl _⟩
          · show [some (V.ref p), some (V.int (m : Int)), some (V.str (S u)), some (V.int (a : Int)), some (V.int ((m : Int) % (u.length : Int))), some (V.int ((a : Int) - (m : Int) / (u.length : Int) - (if decide ((0 : Int) < (rest : Int)) = true then 1 else 0))), some (V.ref fp)] = _
            rw [eR, eL]
          · rw [if_pos (by omega)]
            exact ⟨same_new nf _ _ upd_same, trivial⟩
        · have e' : ¬ (0 : Int) < left := fun z => e (decide_eq_true z)
          refine ⟨by show 0 ≤ sizeLine; decide, fun fp nf => ?_⟩
          refine ⟨fp, [], some (.int (left : Int)), ?_, upd_same, ?_, same_new nf, nf, Nat.zero_le _⟩
          · show [some (V.ref p), some (V.int (m : Int)), some (V.str (S u)), some (V.int (a : Int)), some (V.int ((m : Int) % (u.length : Int))), some (V.int ((a : Int) - (m : Int) / (u.length : Int) - (if decide ((0 : Int) < (rest : Int)) = true then 1 else 0))), some (V.ref fp)] = _
            rw [eR, eL]
          · rw [if_neg (by omega)]
            trivial
      · rintro σ G ⟨fp, fts, y5, rfl, gF, gP, gS, gN, gl⟩
        refine ⟨fun σ G => ∃ (fts : List Addr) (y5 : Option V), σ = [some (.ref p), some (.int m), some (.str (S u)), some (.int a), some (.int (rest : Int)), y5, some (.ref fp)] ∧ G fp = some (.lst (fts.map V.ref)) ∧ PairsAt G fts (cutP u a m) ∧ Same H G ∧ fts.length ≤ 2, ?_, ?_⟩
        · refine ⟨.int (rest : Int), rfl, _, 0, rfl, rfl, _, rfl, ite2 (fun e => ?_) (fun e => ?_)⟩
          · have e' : (0 : Int) < rest := of_decide_eq_true e
            refine ⟨.ref fp, rfl, .inl ⟨rfl, _, .inl (.inl gF)⟩, .str (S u), rfl, .int rest, rfl, rest, rfl, S u, rfl, by rw [S_len]; exact small (by omega), ?_⟩
            rw [cut_from]
            refine ⟨by show 2 ≤ sizeLine; decide, fun N nN => ⟨fp, _, _, rfl, rfl, same_new nN _ _ gF, by rw [List.length_map]; exact Nat.lt_of_lt_of_le (show fts.length < 100 by omega) (by decide), ?_⟩⟩
            refine ⟨fts ++ [N], _, rfl, ?_, ?_, same_updN (gS.trans (same_new nN)) gN, by rw [List.length_append]; show fts.length + 1 ≤ 2; omega⟩
            · rw [upd_same, List.map_append]; rfl
            · rw [cP, if_pos (show 0 < rest by omega)]
              refine PairsAt.upL (same_new nN _ _ gF) (PairsAt.snoc ?_ (gP.same (same_new nN)))
              rw [upd_same]
              rfl
          · have e' : ¬ (0 : Int) < rest := fun z => e (decide_eq_true z)
            refine ⟨fts, _, rfl, gF, ?_, gS, by omega⟩
            rw [cP, if_neg (show ¬ 0 < rest by omega), List.append_nil]
            exact gP
        · rintro σ G ⟨fts, y5, rfl, gF, gP, gS, gl⟩
          refine ⟨.ref fp, rfl, .ref p, rfl, 1, rfl, p, _, rfl, .inl (.inl (gS _ _ hp)), fun c nc => ?_⟩
          refine ⟨fp, c, _, _, rfl, rfl, same_new nc _ _ gF, upd_same, ?_, fun d nd => ?_⟩
          · rw [show (1 : Int) = ((1 : Nat) : Int) from rfl, cut_list]
            simp only [List.length_map, List.map_cons, List.drop_succ_cons, List.drop_zero]
            simp at hlt
            exact small (by omega)
          · have gS2 := gS.trans (same_new nc (o := .lst (cutV ((t :: ts).map V.ref) (some 1) none)))
            refine q _ d (fts ++ ts) (gS2.trans (same_new nd)) (gS2.free nd) ?_ ?_
            · rw [upd_same, show (1 : Int) = ((1 : Nat) : Int) from rfl, cut_list, List.map_append]
              rfl
            · have e1 : shiftL ((u, a) :: r) m = cutP u a m ++ r := rfl
              rw [e1]
              exact ((PairsAt.app (hts.2.same gS) gP).same (same_new nc)).same (same_new nd)
end
end Kc

set_option Elab.async false
set_option linter.all false
set_option maxRecDepth 100000
set_option maxHeartbeats 8000000
/-! the law: letters, its own comparing -/
namespace FarM
theorem law_step {u v : T} {a b : Nat} {l r : Far} (hl : Ok ((u, a) :: l)) (hr : Ok ((v, b) :: r)) :
    (per u (min (min (u.length * a) (v.length * b)) (u.length + v.length)) = per v (min (min (u.length * a) (v.length * b)) (u.length + v.length)) → cmpT (ex ((u, a) :: l)) (ex ((v, b) :: r)) = cmpT (ex (shiftL ((u, a) :: l) (min (u.length * a) (v.length * b)))) (ex (shiftL ((v, b) :: r) (min (u.length * a) (v.length * b))))) ∧
    (per u (min (min (u.length * a) (v.length * b)) (u.length + v.length)) ≠ per v (min (min (u.length * a) (v.length * b)) (u.length + v.length)) → cmpT (ex ((u, a) :: l)) (ex ((v, b) :: r)) = cmpT (per u (min (min (u.length * a) (v.length * b)) (u.length + v.length))) (per v (min (min (u.length * a) (v.length * b)) (u.length + v.length)))) := by
  have hu := hl.head.1
  have hv := hr.head.1
  simp only at hu hv
  have s1 := Nat.min_le_left (u.length * a) (v.length * b)
  have s2 := Nat.min_le_right (u.length * a) (v.length * b)
  generalize min (u.length * a) (v.length * b) = size at *
  rw [ex_shift (r := l) hu s1, ex_shift (r := r) hv s2]
  constructor
  · intro e
    rw [per_probe hu hv e, cmp_pre]
  · intro e
    have f1 := per_split u size (min size (u.length + v.length)) (Nat.min_le_left ..)
    have f2 := per_split v size (min size (u.length + v.length)) (Nat.min_le_left ..)
    rw [f1, f2, List.append_assoc, List.append_assoc, cmp_app (by simp [per_len]) e]
theorem cutP_mem {u : T} {a m : Nat} {p : T × Nat} (h : p ∈ cutP u a m) : p.1.length ≤ u.length ∧ ∀ c ∈ p.1, c ∈ u := by
  unfold cutP at h
  generalize m % u.length = j at *
  generalize m / u.length = k at *
  rcases List.mem_append.1 h with h | h
  · generalize a - k - (if 0 < j then 1 else 0) = d at *
    by_cases z : 0 < d
    · rw [if_pos z, List.mem_singleton] at h
      subst h
      refine ⟨by rw [rot_len]; exact Nat.le_refl _, fun c hc => ?_⟩
      rcases List.mem_append.1 hc with y | y
      · exact List.mem_of_mem_drop y
      · exact List.mem_of_mem_take y
    · rw [if_neg z] at h; simp at h
  · by_cases z : 0 < j
    · rw [if_pos z, List.mem_singleton] at h
      subst h
      exact ⟨by simp, fun c hc => List.mem_of_mem_drop hc⟩
    · rw [if_neg z] at h; simp at h
theorem cutP_le {u : T} {a m : Nat} : (cutP u a m).length ≤ 2 := by
  unfold cutP
  rw [List.length_append]
  split <;> split <;> simp
end FarM
namespace Kc
open PySem PySem.Spec PyProof.Rows L2 Ke RZ FarM
abbrev sCompared : Stmt := topS 29
theorem scCompared : FnScope ["p", "q", "left", "right", "turn", "u", "v", "size", "probe", "s", "t"] ["p", "q"] (defScope sCompared) := ⟨rfl, rfl, rfl, by decide +kernel, rfl, by decide +kernel, by decide +kernel⟩
def WOk (L : Far) : Prop := ∀ p ∈ L, p.1 ≠ [] ∧ 1 ≤ p.2 ∧ p.1.length ≤ 40 ∧ LetOk p.1
theorem WOk.ok {L : Far} (h : WOk L) : Ok L := fun p hp => ⟨(h p hp).1, (h p hp).2.1⟩
theorem FarOk.w {L : Far} (h : FarOk L) : WOk L := fun p hp => ⟨(h.each p hp).1.1, (h.each p hp).2.1, (h.each p hp).1.2.1, (h.each p hp).1.2.2⟩
theorem WOk.shift {u : List Nat} {a m : Nat} {L : Far} (h : WOk ((u, a) :: L)) : WOk (shiftL ((u, a) :: L) m) := by
  intro p hp
  have hu := h (u, a) List.mem_cons_self
  rcases List.mem_append.1 (show p ∈ cutP u a m ++ L from hp) with z | z
  · have ⟨o1, o2⟩ := cutP_ok hu.1 p z
    have ⟨c1, c2⟩ := cutP_mem z
    exact ⟨o1, o2, Nat.le_trans c1 hu.2.2.1, fun c hc => hu.2.2.2 c (c2 c hc)⟩
  · exact h p (List.mem_cons_of_mem _ z)
theorem shift_len {u : List Nat} {a m : Nat} {L : Far} : (shiftL ((u, a) :: L) m).length ≤ L.length + 2 := by
  show (cutP u a m ++ L).length ≤ _
  rw [List.length_append]
  have := cutP_le (u := u) (a := a) (m := m)
  omega
section
variable {P : Program} {w : World} {K : PySem.W.Frag} {mg : Str → Option Value} {base : Heap}
def spLetter : Sp := fun vs H Q _ => ∃ (p : Addr) (ts : List Addr) (row : Far) (n : Nat), vs = [.ref p, .int (n : Int)] ∧ H p = some (.lst (ts.map V.ref)) ∧ PairsAt H ts row ∧ FarOk row ∧ Q (.str (letS row n)) H
theorem ok_letter {f : Addr} {fd : FuncData} {k : Nat} (F : Fun K "_law_letter" "_law_letter" sLetter f fd) (M : PMg mg) : FnOk P w K mg base CX0 (k + 1) f fd ["row", "at_y"] spLetter := by
  refine F.ok scLetter (fun vs H Q E h => ?_) (fun cdv A outer s H vs Q E hr h => ?_)
  · obtain ⟨p, ts, row, n, rfl, _⟩ := h
    rfl
  · obtain ⟨a, ts, row, n, rfl, ha, hp, hf, q⟩ := h
    have hs : SqL K H a (ts.map V.ref) := .inl (.inl ha)
    refine ⟨_, pss_cons (ps_set (i := 2) scLetter.nd rfl (Or.inl rfl) (pv 1)) (pss_cons (ps_for PassesOwn.never rfl (pi_list (pv 0)) (pg_tup rfl (pgs_cons (pg_name (i := 3) scLetter.nd rfl (Or.inl rfl)) (pgs_cons (pg_name (i := 4) scLetter.nd rfl (Or.inl rfl)) pgs_nil)))
        (pss_cons (ps_if (pt_cmpR op_lt (pv 2) (pe_op op_mul (pe_callB call_len (by rfl) M.len PySem.boot_len (pa_cons (pv 3) pa_nil)) (pv 4)) (nomark _)) (pss_one (ps_ret (pe_ix ix_str (pv 3) (pe_op op_mod (pe_callTy call_int1 (by rfl) M.int (by decide +kernel) (pa_cons (pv 2) pa_nil)) (pe_callB call_len (by rfl) M.len PySem.boot_len (pa_cons (pv 3) pa_nil))) (fun _ _ => rfl)))) pss_nil)
        (pss_one (ps_set (i := 2) scLetter.nd rfl (Or.inl rfl) (pe_op op_sub (pv 2) (pe_op op_mul (pe_callB call_len (by rfl) M.len PySem.boot_len (pa_cons (pv 3) pa_nil)) (pv 4)))))))
      (pss_one (ps_ret pe_str))), ?_⟩
    have hlen : ts.length = row.length := hp.len
    refine ⟨.int n, rfl, .ref a, rfl, a, rfl, ⟨_, hs⟩, for_list (xs := ts.map V.ref) (fun i σ G => ∃ (r : Nat) (y3 y4 : Option V), σ = [some (.ref a), some (.int (n : Int)), some (.int (r : Int)), y3, y4] ∧ G = H ∧ letAt row n = letAt (row.drop i) r) ⟨n, none, none, rfl, rfl, rfl⟩ (fun i σ G _ z => by obtain ⟨_, _, _, _, rfl, _⟩ := z; exact hs) ?_ ?_⟩
    · rintro i x σ G hx ⟨r, y3, y4, rfl, rfl, e⟩
      rw [List.getElem?_map] at hx
      cases hr' : ts[i]? with
      | none => rw [hr'] at hx; cases hx
      | some t =>
        rw [hr'] at hx
        obtain rfl := (Option.some.inj hx).symm
        obtain ⟨p, hp1, hp2⟩ := hp.get hr'
        have ⟨w1, w2, w3⟩ := hf.each p (List.mem_of_getElem? hp1)
        have w4 := w1.2.1
        have w0 : 0 < p.1.length := List.length_pos_iff.2 w1.1
        have ed : row.drop i = p :: row.drop (i + 1) := by
          have hi := (List.getElem?_eq_some_iff.1 hp1)
          obtain ⟨h1, h2⟩ := hi
          rw [List.drop_eq_getElem_cons h1, h2]
        rw [ed] at e
        have e2 : letAt (p :: row.drop (i + 1)) r = if r < p.1.length * p.2 then some (p.1.getD (r % p.1.length) 0) else letAt (row.drop (i + 1)) (r - p.1.length * p.2) := rfl
        rw [e2] at e
        refine ⟨t, [.str (S p.1), .int p.2], rfl, .inl (.inl hp2), rfl, .str (S p.1), [.int p.2], rfl, .int p.2, [], rfl, rfl, ?_⟩
        refine ⟨.int r, rfl, .str (S p.1), rfl, .str (S p.1), p.1.length, rfl, lenS (by omega), .int p.2, rfl, p.1.length, p.2, rfl, rfl, .inl ⟨by omega, by omega⟩, _, _, rfl, rfl, _, rfl, ?_⟩
        by_cases c : r < p.1.length * p.2
        · have c' : (r : Int) < (p.1.length : Int) * (p.2 : Int) := by rw [← Int.natCast_mul]; omega
          rw [decide_eq_true c']
          rw [if_pos c] at e
          refine iteT ⟨.str (S p.1), rfl, .int r, rfl, .inl ⟨r, rfl, .str (S p.1), rfl, .str (S p.1), p.1.length, rfl, lenS (by omega), r, p.1.length, rfl, rfl, by show (0 : Int) < (p.1.length : Int); omega, ?_⟩⟩
          refine ⟨S p.1, ((r % p.1.length : Nat) : Int), _, rfl, by rw [Int.natCast_emod], by rw [S_len]; exact small (by omega), getD_at (Nat.mod_lt _ w0), ?_⟩
          unfold letS at q
          rw [e] at q
          exact q
        · have c' : ¬ (r : Int) < (p.1.length : Int) * (p.2 : Int) := by rw [← Int.natCast_mul]; omega
          rw [decide_eq_false c']
          rw [if_neg c] at e
          refine iteF ⟨.int r, rfl, .str (S p.1), rfl, .str (S p.1), p.1.length, rfl, lenS (by omega), .int p.2, rfl, p.1.length, p.2, rfl, rfl, .inl ⟨by omega, by omega⟩, r, _, rfl, rfl, ?_⟩
          refine ⟨r - p.1.length * p.2, some (.str (S p.1)), some (.int p.2), ?_, rfl, e⟩
          rw [Int.natCast_sub (by omega), Int.natCast_mul]
          rfl
    · rintro σ G ⟨r, y3, y4, rfl, rfl, e⟩
      rw [List.length_map, hlen, List.drop_length] at e
      unfold letS at q
      rw [e] at q
      exact q
def spCompared (K : PySem.W.Frag) : Sp := spCompare K
theorem ok_compared {f g : Addr} {fd gd : FuncData} {k : Nat} (F : Fun K "_law_compared" "_law_compared" sCompared f fd) (M : PMg mg) (ml : mg "list" = none) (mr : mg "range" = none) (G : FnOk P w K mg base CX0 (k + 1) g gd ["row", "many"] spShift) (gm : mg "_law_shift" = some (.ref g)) (kp : PySem.W.keepIn K (.ref g) = true) (bd : Binds K gd ["row", "many"] []) :
    FnOk P w K mg base CX0 (k + 2) f fd ["p", "q"] (spCompared K) := by
  refine F.ok scCompared (fun vs H Q E h => ?_) (fun cdv A outer s H vs Q E hr h => ?_)
  · obtain ⟨x, y, p, q, rfl, _⟩ := h
    rfl
  · obtain ⟨x, y, p, q, rfl, ⟨xa, xs, rfl, hxs, hxp⟩, ⟨ya, ys, rfl, hys, hyp⟩, hp, hq, done⟩ := h
    refine ⟨_, pss_cons (ps_par (i := 2) (j := 3) (by rfl) scCompared.nd rfl rfl (by decide) rfl rfl (pa_cons (pe_callTy call_list_of (by rfl) ml (by decide +kernel) (pa_cons (pv 0) pa_nil)) (pa_cons (pe_callTy call_list_of (by rfl) ml (by decide +kernel) (pa_cons (pv 1) pa_nil)) pa_nil)) (by rfl))
      (pss_cons (ps_for PassesOwn.never rfl (pi_range1 rfl mr (pa_cons (pe_op op_add (pe_op op_pow (pe_op op_add (pe_op op_add (pe_callB call_len (by rfl) M.len PySem.boot_len (pa_cons (pv 0) pa_nil)) (pe_callB call_len (by rfl) M.len PySem.boot_len (pa_cons (pv 1) pa_nil))) pe_int) pe_int) pe_int) pa_nil)) (pg_name (i := 4) scCompared.nd rfl (Or.inl rfl))
        (pss_cons (ps_if (PW.pt (pw_or (pt_cmpR (op_eqD hr.units) (pv 2) (pe_lst pa_nil) (nomark _)) (pw_or1 (pt_cmpR (op_eqD hr.units) (pv 3) (pe_lst pa_nil) (nomark _))))) (pss_one (ps_ret (pe_op op_sub (pe_callTy call_int1 (by rfl) M.int (by decide +kernel) (pa_cons (pe_cmpR (op_neD hr.units) (pv 2) (pe_lst pa_nil) (nomark _)) pa_nil)) (pe_callTy call_int1 (by rfl) M.int (by decide +kernel) (pa_cons (pe_cmpR (op_neD hr.units) (pv 3) (pe_lst pa_nil) (nomark _)) pa_nil))))) pss_nil)
        (pss_cons (ps_par (i := 5) (j := 6) (by rfl) scCompared.nd rfl rfl (by decide) rfl rfl (pa_cons (pe_ix ix_seq (pe_ix ix_seq (pv 2) pe_int (fun _ _ => rfl)) pe_int (fun _ _ => rfl)) (pa_cons (pe_ix ix_seq (pe_ix ix_seq (pv 3) pe_int (fun _ _ => rfl)) pe_int (fun _ _ => rfl)) pa_nil)) (by rfl))
        (pss_cons (ps_set (i := 7) scCompared.nd rfl (Or.inl rfl) (pe_callB (call_min2 rfl) (by rfl) M.min (by decide +kernel) (pa_cons (pe_op op_mul (pe_callB call_len (by rfl) M.len PySem.boot_len (pa_cons (pv 5) pa_nil)) (pe_ix ix_seq (pe_ix ix_seq (pv 2) pe_int (fun _ _ => rfl)) pe_int (fun _ _ => rfl))) (pa_cons (pe_op op_mul (pe_callB call_len (by rfl) M.len PySem.boot_len (pa_cons (pv 6) pa_nil)) (pe_ix ix_seq (pe_ix ix_seq (pv 3) pe_int (fun _ _ => rfl)) pe_int (fun _ _ => rfl))) pa_nil))))
        (pss_cons (ps_set (i := 8) scCompared.nd rfl (Or.inl rfl) (pe_callB (call_min2 rfl) (by rfl) M.min (by decide +kernel) (pa_cons (pv 7) (pa_cons (pe_op op_add (pe_callB call_len (by rfl) M.len PySem.boot_len (pa_cons (pv 5) pa_nil)) (pe_callB call_len (by rfl) M.len PySem.boot_len (pa_cons (pv 6) pa_nil))) pa_nil))))
        (pss_cons (ps_par (i := 9) (j := 10) (by rfl) scCompared.nd rfl rfl (by decide) rfl rfl (pa_cons (pe_slice sl_str (pe_op op_mulS (pv 5) (pe_op op_add (pe_op op_fdiv (pv 8) (pe_callB call_len (by rfl) M.len PySem.boot_len (pa_cons (pv 5) pa_nil))) pe_int)) po_none (po_some (pv 8))) (pa_cons (pe_slice sl_str (pe_op op_mulS (pv 6) (pe_op op_add (pe_op op_fdiv (pv 8) (pe_callB call_len (by rfl) M.len PySem.boot_len (pa_cons (pv 6) pa_nil))) pe_int)) po_none (po_some (pv 8))) pa_nil)) (by rfl))
        (pss_cons (ps_if (pt_cmpR op_ne (pv 9) (pv 10) (nomark _)) (pss_one (ps_ret (pe_ifExp (pt_cmpR op_lt_str (pv 9) (pv 10) (nomark _)) (pe_un un_neg pe_int) pe_int))) pss_nil)
        (pss_one (ps_par (i := 2) (j := 3) (by rfl) scCompared.nd rfl rfl (by decide) rfl rfl (pa_cons (pe_call G hr (by rfl) gm kp bd .nil pass0 (pa_cons (pv 2) (pa_cons (pv 7) pa_nil))) (pa_cons (pe_call G hr (by rfl) gm kp bd .nil pass0 (pa_cons (pv 3) (pa_cons (pv 7) pa_nil))) pa_nil)) (by rfl))))))))))
      (pss_one (ps_ret pe_int))), ?_⟩
    refine ⟨.ref xa, rfl, xa, _, rfl, .inr hxs, fun l0 n0 => ⟨.ref ya, rfl, ya, _, rfl, .inr (same_sqt (same_new n0) hys), fun r0 n1 => ⟨_, _, rfl, ?_⟩⟩⟩
    have hlx : (xs.map V.ref).length = p.length := by rw [List.length_map]; exact hxp.len
    have hly : (ys.map V.ref).length = q.length := by rw [List.length_map]; exact hyp.len
    have S0 : Same H (upd H l0 (.lst (xs.map V.ref))) := same_new n0
    have S1 : Same H (upd (upd H l0 (.lst (xs.map V.ref))) r0 (.lst (ys.map V.ref))) := S0.trans (same_new n1)
    have hl0 : upd (upd H l0 (.lst (xs.map V.ref))) r0 (.lst (ys.map V.ref)) l0 = some (.lst (xs.map V.ref)) := same_new n1 _ _ upd_same
    have hr0 : upd (upd H l0 (.lst (xs.map V.ref))) r0 (.lst (ys.map V.ref)) r0 = some (.lst (ys.map V.ref)) := upd_same
    generalize upd (upd H l0 (.lst (xs.map V.ref))) r0 (.lst (ys.map V.ref)) = G1 at *
    have lp := hp.len
    have lq := hq.len
    refine ⟨.ref xa, rfl, .ref xa, p.length, rfl, .inr ⟨_, same_sqt S1 hxs, hlx.symm⟩, .ref ya, rfl, .ref ya, q.length, rfl, .inr ⟨_, same_sqt S1 hys, hly.symm⟩, p.length, q.length, rfl, rfl, _, 2, rfl, rfl, _, 2, rfl, rfl, ⟨by omega, by omega, by omega⟩, _, 9, rfl, rfl, ?_⟩
    have eN : (((p.length : Int) + (q.length : Int) + 2) ^ (2 : Int).toNat + 9) = (((p.length + q.length + 2) ^ 2 + 9 : Nat) : Int) := by
      rw [Int.natCast_add, Int.natCast_pow]
      rfl
    have hN : (p.length + q.length + 2) ^ 2 + 9 ≤ 1000 := by
      have : (p.length + q.length + 2) ^ 2 ≤ 16 ^ 2 := Nat.pow_le_pow_left (by omega) 2
      omega
    have phi0 := phi_bound p q
    generalize hNN : (p.length + q.length + 2) ^ 2 + 9 = N at *
    refine ⟨(N : Int), congrArg (fun z => [V.int z]) eN, by omega, by omega, for_range (n := ((N : Nat) : Int).toNat) (fun i σ G => ∃ (la ra : Addr) (tl tr : List Addr) (L R : Far) (y4 y5 y6 y7 y8 y9 y10 : Option V), σ = [some (.ref xa), some (.ref ya), some (.ref la), some (.ref ra), y4, y5, y6, y7, y8, y9, y10] ∧ G la = some (.lst (tl.map V.ref)) ∧ G ra = some (.lst (tr.map V.ref)) ∧ PairsAt G tl L ∧ PairsAt G tr R ∧ WOk L ∧ WOk R ∧ L.length ≤ 7 + i ∧ R.length ≤ 7 + i ∧ Same H G ∧ Phi L R + i ≤ Phi p q ∧ cmpT (ex L) (ex R) = cmpT (ex p) (ex q)) ⟨l0, r0, xs, ys, p, q, none, none, none, none, none, none, none, rfl, hl0, hr0, hxp.same S1, hyp.same S1, hp.w, hq.w, by omega, by omega, S1, Nat.le_refl _, rfl⟩ ?_ ?_⟩
    · rintro i σ G hi ⟨la, ra, tl, tr, L, R, y4, y5, y6, y7, y8, y9, y10, rfl, hla, hra, hpl, hpr, okL, okR, lL, lR, SG, ph, e⟩
      rw [Int.toNat_natCast] at hi
      have dL : ∀ {G' : Hp}, Same G G' → Dp K G' (.ref la) (.list (dRow L)) := fun s => .lst (.inl (.inl (s _ _ hla))) (dRow_dp (hpl.same s))
      have dR : ∀ {G' : Hp}, Same G G' → Dp K G' (.ref ra) (.list (dRow R)) := fun s => .lst (.inl (.inl (s _ _ hra))) (dRow_dp (hpr.same s))
      have sL := dRow_shaped fun p hp => (okL p hp).2.2.2
      have sR := dRow_shaped fun p hp => (okR p hp).2.2.2
      have dE : ∀ {G' : Hp} {c : Addr}, G' c = some (.lst []) → Dp K G' (.ref c) (.list []) := fun h => .lst (.inl (.inl h)) .nil
      refine ⟨.ref la, rfl, by show 0 ≤ sizeLine; decide, fun c1 nc1 => ⟨_, _, dL (same_new nc1), dE upd_same, sL, rfl, _, rfl, ?_⟩⟩
      have T1 : Same G (upd G c1 (.lst [])) := same_new nc1
      generalize upd G c1 (.lst []) = G2 at *
      cases L with
      | nil =>
        refine iteT ?_
        refine iteT ?_
        refine ⟨.ref la, rfl, by show 0 ≤ sizeLine; decide, fun c2 nc2 => ⟨_, _, dL (T1.trans (same_new nc2)), dE upd_same, sL, rfl, .inr ⟨_, rfl, ?_⟩⟩⟩
        have T2 := T1.trans (same_new nc2 (o := .lst []))
        generalize upd G2 c2 (.lst []) = G3 at *
        refine ⟨.ref ra, rfl, by show 0 ≤ sizeLine; decide, fun c3 nc3 => ⟨_, _, dR (T2.trans (same_new nc3)), dE upd_same, sR, rfl, .inr ⟨_, rfl, ?_⟩⟩⟩
        have T3 := SG.trans (T2.trans (same_new nc3 (o := .lst [])))
        cases R with
        | nil =>
          refine ⟨0, 0, rfl, rfl, ?_⟩
          rw [cmp_same] at e
          have := done _ T3
          rw [← e] at this
          exact this
        | cons r R =>
          refine ⟨0, 1, rfl, rfl, ?_⟩
          rw [show ex [] = [] from rfl, cmp_nil_l (ex_ne okR.ok)] at e
          have := done _ T3
          rw [← e] at this
          exact this
      | cons l L =>
        refine iteF ?_
        refine ⟨.ref ra, rfl, by show 0 ≤ sizeLine; decide, fun c2 nc2 => ⟨_, _, dR (T1.trans (same_new nc2)), dE upd_same, sR, rfl, _, rfl, ?_⟩⟩
        have T2 : Same G (upd G2 c2 (.lst [])) := T1.trans (same_new nc2)
        generalize upd G2 c2 (.lst []) = G3 at *
        cases R with
        | nil =>
          refine iteT ?_
          refine ⟨.ref la, rfl, by show 0 ≤ sizeLine; decide, fun c3 nc3 => ⟨_, _, dL (T2.trans (same_new nc3)), dE upd_same, sL, rfl, .inr ⟨_, rfl, ?_⟩⟩⟩
          have T3 := T2.trans (same_new nc3 (o := .lst []))
          generalize upd G3 c3 (.lst []) = G4 at *
          refine ⟨.ref ra, rfl, by show 0 ≤ sizeLine; decide, fun c4 nc4 => ⟨_, _, dR (T3.trans (same_new nc4)), dE upd_same, sR, rfl, .inr ⟨_, rfl, ?_⟩⟩⟩
          have T4 := SG.trans (T3.trans (same_new nc4 (o := .lst [])))
          refine ⟨1, 0, rfl, rfl, ?_⟩
          rw [show ex [] = [] from rfl, cmp_nil_r (ex_ne okL.ok)] at e
          have := done _ T4
          rw [← e] at this
          exact this
        | cons r R =>
          refine iteF ?_
          obtain ⟨u, a⟩ := l
          obtain ⟨v, b⟩ := r
          cases tl with
          | nil => exact hpl.elim
          | cons t tl =>
          cases tr with
          | nil => exact hpr.elim
          | cons t' tr =>
          have ⟨hu, ha, hlu, hcu⟩ := okL (u, a) List.mem_cons_self
          have ⟨hv, hb, hlv, hcv⟩ := okR (v, b) List.mem_cons_self
          simp only at hu ha hlu hcu hv hb hlv hcv
          have h0u : 0 < u.length := List.length_pos_iff.2 hu
          have h0v : 0 < v.length := List.length_pos_iff.2 hv
          have hpl3 := hpl.same T2
          have hpr3 := hpr.same T2
          have hla3 := T2 _ _ hla
          have hra3 := T2 _ _ hra
          have A0 : ∀ {z : V → Hp → Prop}, z (.ref t) G3 → rIx K (.ref la) (.int 0) G3 z := fun h => .inl ⟨la, _, 0, _, rfl, rfl, .inl (.inl hla3), (show atI (List.map V.ref (t :: tl)) ((0 : Nat) : Int) = some (V.ref t) from atI_nat rfl), h⟩
          have B0 : ∀ {z : V → Hp → Prop}, z (.ref t') G3 → rIx K (.ref ra) (.int 0) G3 z := fun h => .inl ⟨ra, _, 0, _, rfl, rfl, .inl (.inl hra3), (show atI (List.map V.ref (t' :: tr)) ((0 : Nat) : Int) = some (V.ref t') from atI_nat rfl), h⟩
          have U0 : ∀ {z : V → Hp → Prop}, z (.str (S u)) G3 → rIx K (.ref t) (.int 0) G3 z := fun h => .inr (.inl ⟨t, _, 0, _, rfl, rfl, .inl (.inl hpl3.1), rfl, h⟩)
          have U1 : ∀ {z : V → Hp → Prop}, z (.int a) G3 → rIx K (.ref t) (.int 1) G3 z := fun h => .inr (.inl ⟨t, _, 1, _, rfl, rfl, .inl (.inl hpl3.1), rfl, h⟩)
          have V0 : ∀ {z : V → Hp → Prop}, z (.str (S v)) G3 → rIx K (.ref t') (.int 0) G3 z := fun h => .inr (.inl ⟨t', _, 0, _, rfl, rfl, .inl (.inl hpr3.1), rfl, h⟩)
          have V1 : ∀ {z : V → Hp → Prop}, z (.int b) G3 → rIx K (.ref t') (.int 1) G3 z := fun h => .inr (.inl ⟨t', _, 1, _, rfl, rfl, .inl (.inl hpr3.1), rfl, h⟩)
          refine ⟨.ref la, rfl, A0 (U0 ⟨.ref ra, rfl, B0 (V0 ⟨_, _, rfl, ?_⟩)⟩)⟩
          refine ⟨.str (S u), rfl, .str (S u), u.length, rfl, lenS (by omega), .ref la, rfl, A0 (U1 ⟨u.length, a, rfl, rfl, .inl ⟨by omega, by omega⟩, .str (S v), rfl, .str (S v), v.length, rfl, lenS (by omega), .ref ra, rfl, B0 (V1 ⟨v.length, b, rfl, rfl, .inl ⟨by omega, by omega⟩, _, _, rfl, ?_⟩)⟩)⟩
          have eS : (if ((v.length : Int) * (b : Int)) < ((u.length : Int) * (a : Int)) then ((v.length : Int) * (b : Int)) else ((u.length : Int) * (a : Int))) = ((min (u.length * a) (v.length * b) : Nat) : Int) := by
            rw [← Int.natCast_mul, ← Int.natCast_mul]
            exact min_two
          have stp := law_step okL.ok okR.ok
          have pd := phi_drop (l := L) (r := R) hu hv ha hb
          have z1 := Nat.min_le_left (u.length * a) (v.length * b)
          have z2 := Nat.min_le_right (u.length * a) (v.length * b)
          generalize min (u.length * a) (v.length * b) = size at *
          refine ⟨.int (size : Int), congrArg (fun z : Int => some (some (V.int z))) eS, .str (S u), rfl, .str (S u), u.length, rfl, lenS (by omega), .str (S v), rfl, .str (S v), v.length, rfl, lenS (by omega), _, _, rfl, rfl, size, _, rfl, ?_⟩
          have eP : (if ((u.length : Int) + (v.length : Int)) < (size : Int) then ((u.length : Int) + (v.length : Int)) else (size : Int)) = ((min size (u.length + v.length) : Nat) : Int) := by
            rw [← Int.natCast_add]
            exact min_two
          have z3 := Nat.min_le_right size (u.length + v.length)
          generalize min size (u.length + v.length) = pr at *
          have du : pr / u.length ≤ pr := Nat.div_le_self _ _
          have dv : pr / v.length ≤ pr := Nat.div_le_self _ _
          have cst : ∀ w : List Nat, V.int ((pr : Int) / (w.length : Int) + 1) = V.int ((pr / w.length + 1 : Nat) : Int) := fun w => by
            rw [Int.natCast_add, Int.natCast_ediv]
            rfl
          have lrp : ∀ w : List Nat, w.length ≤ 40 → (S (rp w (pr / w.length + 1))).length ≤ sizeLine := fun w hw => by
            rw [S_len, rp_len]
            have := Nat.div_add_mod pr w.length
            rw [Nat.mul_add]
            exact small (by omega)
          have ePs := congrArg (fun z : Int => some (some (V.int z))) eP
          have eSs := congrArg (fun z : Int => some (some (V.int z))) eS
          refine ⟨.str (S u), rfl, .int (pr : Int), ePs, .str (S u), rfl, .str (S u), u.length, rfl, lenS (by omega), pr, u.length, rfl, rfl, ⟨by show (0 : Int) < (u.length : Int); omega, by show (u.length : Int) < 1073741824; omega⟩, _, 1, rfl, rfl, ?_⟩
          refine ⟨u, pr / u.length + 1, rfl, cst u, by omega, by omega, .int (pr : Int), ePs, pr, rfl, S (rp u (pr / u.length + 1)), rfl, lrp u hlu, ?_⟩
          rw [cut_to, rp_take hu]
          refine ⟨.str (S v), rfl, .int (pr : Int), ePs, .str (S v), rfl, .str (S v), v.length, rfl, lenS (by omega), pr, v.length, rfl, rfl, ⟨by show (0 : Int) < (v.length : Int); omega, by show (v.length : Int) < 1073741824; omega⟩, _, 1, rfl, rfl, ?_⟩
          refine ⟨v, pr / v.length + 1, rfl, cst v, by omega, by omega, .int (pr : Int), ePs, pr, rfl, S (rp v (pr / v.length + 1)), rfl, lrp v hlv, ?_⟩
          rw [cut_to, rp_take hv]
          refine ⟨_, _, rfl, .str (S (per u pr)), rfl, .str (S (per v pr)), rfl, rfl, _, rfl, ?_⟩
          by_cases c : per u pr = per v pr
          · rw [show (!decide (V.str (S (per u pr)) = V.str (S (per v pr)))) = false by rw [c, decide_eq_true rfl]; rfl]
            refine iteF ?_
            simp only [List.length_cons] at lL lR
            have lt1 := hpl3.len
            have lt2 := hpr3.len
            simp only [List.length_cons] at lt1 lt2
            refine ⟨.ref la, rfl, .int (size : Int), eSs, la, t :: tl, u, a, size, L, rfl, hla3, hpl3, hu, hlu, z1, by rw [List.length_cons]; omega, fun G4 l4 t4 S4 n4 h4 p4 => ?_⟩
            refine ⟨.ref ra, rfl, .int (size : Int), eSs, ra, t' :: tr, v, b, size, R, rfl, S4 _ _ hra3, hpr3.same S4, hv, hlv, z2, by rw [List.length_cons]; omega, fun G5 l5 t5 S5 n5 h5 p5 => ?_⟩
            have q1 := shift_len (u := u) (a := a) (m := size) (L := L)
            have q2 := shift_len (u := v) (a := b) (m := size) (L := R)
            exact ⟨_, _, rfl, l4, l5, t4, t5, _, _, _, _, _, _, _, _, _, rfl, S5 _ _ h4, h5, p4.same S5, p5, okL.shift, okR.shift, by omega, by omega, SG.trans (T2.trans (S4.trans S5)), by omega, (stp.1 c).symm.trans e⟩
          · rw [show (!decide (V.str (S (per u pr)) = V.str (S (per v pr)))) = true by rw [decide_eq_false (fun z => c (S_inj (V.str.inj z)))]; rfl]
            refine iteT ⟨.str (S (per u pr)), rfl, .str (S (per v pr)), rfl, S (per u pr), S (per v pr), rfl, rfl, _, rfl, ?_⟩
            have dn := done _ (SG.trans T2)
            rw [← e, stp.2 c] at dn
            unfold cmpT at dn
            rw [if_neg c] at dn
            by_cases l : per u pr < per v pr
            · rw [decide_eq_true (lt_S.2 l)]
              rw [if_pos l] at dn
              exact iteT ⟨1, rfl, dn⟩
            · rw [decide_eq_false (fun z => l (lt_S.1 z))]
              rw [if_neg l] at dn
              exact iteF dn
    · rintro σ G ⟨la, ra, tl, tr, L, R, y4, y5, y6, y7, y8, y9, y10, rfl, hla, hra, hpl, hpr, okL, okR, lL, lR, SG, ph, e⟩
      rw [Int.toNat_natCast] at ph
      omega
end
end Kc

set_option Elab.async false
set_option linter.all false
set_option maxRecDepth 100000
set_option maxHeartbeats 8000000
/-! the law: a far word drawn -/
namespace Kc
open PySem PySem.Spec PyProof.Rows L2 Ke RZ FarM
abbrev sFirst : Stmt := topS 32
theorem scFirst : FnScope ["bag", "stem", "words_y", "k"] ["bag"] (defScope sFirst) := ⟨rfl, rfl, rfl, by decide +kernel, rfl, by decide +kernel, by decide +kernel⟩
section
variable {P : Program} {w : World} {K : PySem.W.Frag} {mg : Str → Option Value} {base : Heap}
def spFirst (K : PySem.W.Frag) : Sp := fun vs H Q _ => ∃ (b l : Addr) (n : Nat), vs = [.ref b] ∧ BagAt H b l n ∧ n < 30000 ∧
  ∀ H' x row, Keep b H H' → BagAt H' b l (n + 50) → RowL H' b x row → FarOk row → Q x H'
theorem abcd_mem {c : Nat} (h : c ∈ (Str.ofString "abcd").cps.toList) : 97 ≤ c ∧ c ≤ 100 := by
  have e : (Str.ofString "abcd").cps.toList = [97, 98, 99, 100] := by decide +kernel
  rw [e] at h
  simp at h
  omega
theorem LetOk.app {u v : List Nat} (h : LetOk u) (k : LetOk v) : LetOk (u ++ v) := fun c hc => (List.mem_append.1 hc).elim (h c) (k c)
theorem ok_first {f gO gW gP : Addr} {fd dO dW dP : FuncData} {k : Nat} (F : Fun K "_law_first" "_law_first" sFirst f fd) (mr : mg "range" = none) (GO : FnOk P w K mg base CX0 (k + 2) gO dO ["bag", "some"] (spOf K)) (mO : mg "_law_of" = some (.ref gO)) (kO : PySem.W.keepIn K (.ref gO) = true) (bO : Binds K dO ["bag", "some"] [])
    (GW : FnOk P w K mg base CX0 (k + 3) gW dW ["bag", "most_y"] (spWord K)) (mW : mg "_law_word" = some (.ref gW)) (kW : PySem.W.keepIn K (.ref gW) = true) (bW : Binds K dW ["bag", "most_y"] [])
    (GP : FnOk P w K mg base CX0 (k + 3) gP dP ["bag"] (spPower K)) (mP : mg "_law_power" = some (.ref gP)) (kP : PySem.W.keepIn K (.ref gP) = true) (bP : Binds K dP ["bag"] []) : FnOk P w K mg base CX0 (k + 4) f fd ["bag"] (spFirst K) := by
  refine F.ok scFirst (fun vs H Q E h => ?_) (fun cdv A outer s H vs Q E hr h => ?_)
  · obtain ⟨b, l, n, rfl, _⟩ := h
    rfl
  · obtain ⟨b, l, n, rfl, hb, hn, q⟩ := h
    have hr1 := hr.mono (show k + 2 ≤ k + 3 by omega)
    refine ⟨_, pss_cons (ps_set (i := 1) scFirst.nd rfl (Or.inl rfl) (pe_op op_add_str (pe_call GO hr1 (by rfl) mO kO bO .nil pass0 (pa_cons (pv 0) (pa_cons pe_str pa_nil))) (pe_call GW hr (by rfl) mW kW bW .nil pass0 (pa_cons (pv 0) (pa_cons pe_int pa_nil)))))
      (pss_cons (ps_set (i := 2) scFirst.nd rfl (Or.inr rfl) (pe_lst (pa_cons (pv 1) (pa_cons (pe_op op_add_str (pv 1) (pe_slice sl_str (pv 1) po_none (po_some pe_int))) (pa_cons (pv 1) (pa_cons (pe_op op_add_str (pe_call GO hr1 (by rfl) mO kO bO .nil pass0 (pa_cons (pv 0) (pa_cons pe_str pa_nil))) (pe_call GW hr (by rfl) mW kW bW .nil pass0 (pa_cons (pv 0) (pa_cons pe_int pa_nil)))) (pa_cons (pe_revS (pv 1)) pa_nil)))))))
      (pss_one (ps_ret (pe_lc (own := [("k", 3)]) (g := gName 3) (tt := tYes) rfl scFirst.nd (pi_range1 rfl mr (pa_cons (pe_call GO hr1 (by rfl) mO kO bO .nil pass0 (pa_cons (pv 0) (pa_cons (pe_lst (pa_cons pe_int (pa_cons pe_int (pa_cons pe_int (pa_cons pe_int (pa_cons pe_int (pa_cons pe_int pa_nil))))))) pa_nil))) pa_nil)) (blkOk_by (N := ["bag", "stem", "words_y", "k"]) (sc := defScope sFirst) (by decide +kernel)) (fun _ _ _ _ _ => pg_name (i := 3) scFirst.nd rfl (Or.inl rfl)) (fun _ _ _ _ _ => pts_nil)
        (fun _ _ _ _ _ => pe_tup (pa_cons (pe_call GO hr1 (by rfl) mO kO bO .nil pass0 (pa_cons (pv 0) (pa_cons (pv 2) pa_nil))) (pa_cons (pe_call GP hr (by rfl) mP kP bP .nil pass0 (pa_cons (pv 0) pa_nil)) pa_nil))))))), ?_⟩
    refine ⟨.ref b, rfl, b, l, n, .str "abcd", rfl, hb, nOk (by omega), .inr ⟨"abcd", rfl, by decide, by decide, fun o c hb1 _ hc => ?_⟩⟩
    have hc := abcd_mem hc
    have K1 : Keep b H (upd H b o) := Keep.rfl'.upd
    generalize upd H b o = G1 at *
    refine ⟨.ref b, rfl, b, l, n + 1, 2, rfl, hb1, by omega, by omega, fun G2 z1 k2 hb2 z1l z1o => ?_⟩
    have K2 := K1.trans k2
    refine ⟨S [c], S z1, rfl, rfl, by rw [S_len, S_len]; exact small (by show 1 + z1.length ≤ 5000; omega), ?_⟩
    rw [S_app]
    have stO : LetOk ([c] ++ z1) := LetOk.app (fun d hd => by simp at hd; subst hd; exact hc) z1o
    have stL : 0 < ([c] ++ z1).length ∧ ([c] ++ z1).length ≤ 3 := by simp; omega
    generalize [c] ++ z1 = st at *
    refine ⟨.str (S st), rfl, .str (S st), rfl, .str (S st), rfl, 1, rfl, S st, rfl, by rw [S_len]; exact small (by omega), ?_⟩
    rw [show (some (1 : Int)) = some ((1 : Nat) : Int) from rfl, cut_to]
    refine ⟨S st, S (st.take 1), rfl, rfl, by rw [S_len, S_len, List.length_take]; exact small (by omega), ?_⟩
    rw [S_app]
    refine ⟨.str (S st), rfl, .ref b, rfl, b, l, n + 8, .str "abcd", rfl, hb2, nOk (by omega), .inr ⟨"abcd", rfl, by decide, by decide, fun o3 c3 hb3 _ hc3 => ?_⟩⟩
    have hc3 := abcd_mem hc3
    have K3 : Keep b H (upd G2 b o3) := K2.upd
    generalize upd G2 b o3 = G3 at *
    refine ⟨.ref b, rfl, b, l, n + 9, 3, rfl, hb3, by omega, by omega, fun G4 z2 k4 hb4 z2l z2o => ?_⟩
    have K4 := K3.trans k4
    refine ⟨S [c3], S z2, rfl, rfl, by rw [S_len, S_len]; exact small (by show 1 + z2.length ≤ 5000; omega), ?_⟩
    rw [S_app]
    have st2O : LetOk ([c3] ++ z2) := LetOk.app (fun d hd => by simp at hd; subst hd; exact hc3) z2o
    have st2L : 0 < ([c3] ++ z2).length ∧ ([c3] ++ z2).length ≤ 4 := by simp; omega
    generalize [c3] ++ z2 = st2 at *
    refine ⟨.str (S st), rfl, st, rfl, by omega, by show 5 ≤ sizeLine; decide, fun pw nw => ?_⟩
    have hW : upd G4 pw (.lst [.str (S st), .str (S (st ++ st.take 1)), .str (S st), .str (S st2), .str (S st.reverse)]) pw = some (.lst [.str (S st), .str (S (st ++ st.take 1)), .str (S st), .str (S st2), .str (S st.reverse)]) := upd_same
    have nwb := hb4.ne nw
    have hb5 := hb4.add nw (o := .lst [.str (S st), .str (S (st ++ st.take 1)), .str (S st), .str (S st2), .str (S st.reverse)])
    have K5 : Keep b H (upd G4 pw (.lst [.str (S st), .str (S (st ++ st.take 1)), .str (S st), .str (S st2), .str (S st.reverse)])) := K4.new nw
    have wW : ∀ v, v ∈ [V.str (S st), .str (S (st ++ st.take 1)), .str (S st), .str (S st2), .str (S st.reverse)] → ∃ z, v = .str (S z) ∧ WordOk z := by
      have mk : ∀ z : List Nat, 0 < z.length → z.length ≤ 40 → LetOk z → WordOk z := fun z h1 h2 h3 => ⟨List.length_pos_iff.1 h1, h2, h3⟩
      intro v hv
      simp only [List.mem_cons, List.not_mem_nil, or_false] at hv
      rcases hv with rfl | rfl | rfl | rfl | rfl
      · exact ⟨_, rfl, mk _ (by omega) (by omega) stO⟩
      · exact ⟨_, rfl, mk _ (by rw [List.length_append]; omega) (by rw [List.length_append, List.length_take]; omega) (stO.app fun d hd => stO d (List.mem_of_mem_take hd))⟩
      · exact ⟨_, rfl, mk _ (by omega) (by omega) stO⟩
      · exact ⟨_, rfl, mk _ (by omega) (by omega) st2O⟩
      · exact ⟨_, rfl, mk _ (by rw [List.length_reverse]; omega) (by rw [List.length_reverse]; omega) fun d hd => stO d (List.mem_reverse.1 hd)⟩
    generalize hWs : [V.str (S st), .str (S (st ++ st.take 1)), .str (S st), .str (S st2), .str (S st.reverse)] = Ws at *
    have lWs : Ws.length = 5 := by rw [← hWs]; rfl
    generalize upd G4 pw (.lst Ws) = G5 at *
    refine ⟨.ref b, rfl, by show 6 ≤ sizeLine; decide, fun pr nr => ⟨b, l, n + 16, .ref pr, rfl, hb5.add nr, nOk (by omega), .inl ⟨pr, _, rfl, .inl (.inl upd_same), hb5.ne nr, by show 0 < 6; decide, by show 6 < 2 ^ 60; decide, fun o6 v6 hb6 _ hv6 => ?_⟩⟩⟩
    have ⟨j, ej, jl⟩ : ∃ j : Nat, v6 = .int (j : Int) ∧ j ≤ 3 := by
      simp only [List.mem_cons, List.not_mem_nil, or_false] at hv6
      rcases hv6 with rfl | rfl | rfl | rfl | rfl | rfl
      · exact ⟨0, rfl, by omega⟩
      · exact ⟨1, rfl, by omega⟩
      · exact ⟨1, rfl, by omega⟩
      · exact ⟨2, rfl, by omega⟩
      · exact ⟨2, rfl, by omega⟩
      · exact ⟨3, rfl, by omega⟩
    subst ej
    have hW6 : upd (upd G5 pr (.lst [.int 0, .int 1, .int 1, .int 2, .int 2, .int 3])) b o6 pw = some (.lst Ws) := by rw [upd_ne nwb]; exact same_new nr _ _ hW
    have K6 : Keep b H (upd (upd G5 pr (.lst [.int 0, .int 1, .int 1, .int 2, .int 2, .int 3])) b o6) := (K5.new nr).upd
    generalize upd (upd G5 pr (.lst [.int 0, .int 1, .int 1, .int 2, .int 2, .int 3])) b o6 = G6 at *
    refine ⟨(j : Int), rfl, by omega, by omega, fun D hD => ?_⟩
    have hnb := hb6.ne hD
    have hnl := hb6.neL hD
    have hHD := K6.none hD hnb
    have hDW : D ≠ pw := (ne_of_none hW6 hD).symm
    refine lc_range (n := ((j : Nat) : Int).toNat) (fun i G => ∃ (rs : List Addr) (row : Far), G D = some (.lst (rs.map V.ref)) ∧ PairsAt G rs row ∧ row.length = i ∧ (∀ p ∈ row, WordOk p.1 ∧ 1 ≤ p.2 ∧ p.2 ≤ 10 ^ 30) ∧ BagAt G b l (n + 17 + 6 * i) ∧ Keep b H G ∧ G pw = some (.lst Ws)) ⟨[], [], upd_same, trivial, rfl, fun _ h => by simp at h, hb6.add hD, K6.upD hHD, by rw [upd_ne hDW.symm]; exact hW6⟩ ?_ ?_
    · rintro i G hi ⟨rs, row, gD, gP, gl, go, gb, gk, gW⟩
      rw [Int.toNat_natCast] at hi
      refine ⟨rfl, ?_⟩
      refine ⟨.ref b, rfl, .ref pw, rfl, b, l, n + 17 + 6 * i, .ref pw, rfl, gb, nOk (by omega), .inl ⟨pw, _, rfl, .inl (.inl gW), nwb, by omega, by rw [lWs]; decide, fun o7 v7 hb7 _ hv7 => ?_⟩⟩
      obtain ⟨z7, rfl, w7⟩ := wW v7 hv7
      obtain ⟨yb, hyb⟩ := gb.lst
      have gP7 : PairsAt (upd G b o7) rs row := PairsAt.upL hyb gP
      have gD7 : upd G b o7 D = some (.lst (rs.map V.ref)) := by rw [upd_ne hnb]; exact gD
      have gW7 : upd G b o7 pw = some (.lst Ws) := by rw [upd_ne nwb]; exact gW
      have gk7 : Keep b H (upd G b o7) := gk.upd
      generalize upd G b o7 = G7 at *
      refine ⟨.ref b, rfl, b, l, n + 17 + 6 * i + 1, rfl, hb7, by omega, fun G8 m8 k8 hb8 m1 m2 => ?_⟩
      obtain ⟨yb7, hyb7⟩ := hb7.lst
      have gP8 := gP7.keep hyb7 k8
      have gD8 := k8 _ _ hnb gD7
      have gW8 := k8 _ _ nwb gW7
      have gk8 := gk7.trans k8
      refine ⟨by show 2 ≤ sizeLine; decide, fun N nN => ⟨rs.map V.ref, same_new nN _ _ gD8, by rw [List.length_map, gP.len, gl]; exact Nat.lt_of_lt_of_le (show i < 100 by omega) (by decide), rs ++ [N], row ++ [(z7, m8)], ?_, ?_, ?_, ?_, ?_, ?_, ?_⟩⟩
      · rw [upd_same, List.map_append]; rfl
      · exact PairsAt.upL (same_new nN _ _ gD8) (PairsAt.snoc (p := (z7, m8)) upd_same (gP8.same (same_new nN)))
      · rw [List.length_append, gl]; rfl
      · intro p hp
        rcases List.mem_append.1 hp with h | h
        · exact go p h
        · simp at h
          subst h
          exact ⟨w7, m1, m2⟩
      · exact ((hb8.add nN).upD hnb hnl).up (by omega)
      · exact (gk8.new nN).upD hHD
      · rw [upd_ne hDW.symm]; exact same_new nN _ _ gW8
    · rintro G ⟨rs, row, gD, gP, gl, go, gb, gk, gW⟩
      rw [Int.toNat_natCast] at gl gb
      exact q G _ row gk (gb.up (by omega)) ⟨D, rs, rfl, hnb, gD, gP⟩ ⟨by omega, go⟩
end
end Kc

set_option Elab.async false
set_option linter.all false
set_option maxRecDepth 100000
set_option maxHeartbeats 16000000
/-! the law: a far word told in another way -/
namespace FarM
theorem rp_dbl (u : T) : ∀ k, rp (u ++ u) k = rp u (2 * k)
  | 0 => rfl
  | k + 1 => by rw [Nat.mul_add, Nat.add_comm, rp_add, rp, rp_dbl u k]; simp [rp]
theorem rp_turn (x y : T) : ∀ k, x ++ rp (y ++ x) k ++ y = rp (x ++ y) (k + 1)
  | 0 => by simp [rp]
  | k + 1 => by
    have := rp_turn x y k
    rw [rp, rp, ← this]
    simp
theorem rp_one (u : T) : rp u 1 = u := by simp [rp]
end FarM
namespace Kc
open PySem PySem.Spec PyProof.Rows L2 Ke RZ FarM
abbrev sRetold : Stmt := topS 33
theorem scRetold : FnScope ["bag", "row", "way", "k", "u", "a", "found", "n", "later"] ["bag", "row"] (defScope sRetold) := ⟨rfl, rfl, rfl, by decide +kernel, rfl, by decide +kernel, by decide +kernel⟩
section
variable {P : Program} {w : World} {K : PySem.W.Frag} {mg : Str → Option Value} {base : Heap}
def EachOk (F : Far) : Prop := ∀ p ∈ F, WordOk p.1 ∧ 1 ≤ p.2 ∧ p.2 ≤ 10 ^ 30
def spRetold (K : PySem.W.Frag) : Sp := fun vs H Q _ => ∃ (b l : Addr) (n : Nat) (x : V) (row : Far), vs = [.ref b, x] ∧ BagAt H b l n ∧ n < 30000 ∧ RowL H b x row ∧ FarOk row ∧
  ∀ H' y row', Keep b H H' → BagAt H' b l (n + 8) → RowL H' b y row' → FarOk row' → ex row' = ex row → Q y H'
/-- what stands between the ways of the telling -/
def RetW (H : Hp) (b l : Addr) (n : Nat) (x : V) (way k : Nat) (u : List Nat) (a : Nat) : L2.St → Hp → Prop := fun σ G => ∃ (fp : Addr) (fts : List Addr) (F : Far) (y7 : Option V), σ = [some (.ref b), some x, some (.int (way : Int)), some (.int (k : Int)), some (.str (S u)), some (.int (a : Int)), some (.ref fp), y7, none] ∧ fp ≠ b ∧ G fp = some (.lst (fts.map V.ref)) ∧ PairsAt G fts F ∧ ex F = rp u a ∧ EachOk F ∧ F.length ≤ 3 ∧ BagAt G b l n ∧ Keep b H G
theorem RetW.up {H G : Hp} {b l : Addr} {n m : Nat} {x : V} {way k : Nat} {u : List Nat} {a : Nat} {σ : L2.St} (h : RetW H b l n x way k u a σ G) (hm : n ≤ m) : RetW H b l m x way k u a σ G := by
  obtain ⟨fp, fts, F, y7, h1, h2, h3, h4, h5, h6, h7, h8, h9⟩ := h
  exact ⟨fp, fts, F, y7, h1, h2, h3, h4, h5, h6, h7, h8.up hm, h9⟩
theorem at_split {α : Type} {xs : List α} {k : Nat} {x : α} (h : xs[k]? = some x) : xs = xs.take k ++ x :: xs.drop (k + 1) := by
  obtain ⟨h1, h2⟩ := List.getElem?_eq_some_iff.1 h
  rw [← h2, List.getElem_cons_drop, List.take_append_drop]
theorem PairsAt.take {H : Hp} : ∀ {k : Nat} {rs : List Addr} {row : Far}, PairsAt H rs row → PairsAt H (rs.take k) (row.take k)
  | 0, _, _, _ => trivial
  | k + 1, _ :: _, _ :: _, h => ⟨h.1, PairsAt.take h.2⟩
  | _ + 1, [], [], _ => trivial
  | _ + 1, [], _ :: _, h => h.elim
  | _ + 1, _ :: _, [], h => h.elim
theorem PairsAt.drop {H : Hp} : ∀ {k : Nat} {rs : List Addr} {row : Far}, PairsAt H rs row → PairsAt H (rs.drop k) (row.drop k)
  | 0, _, _, h => h
  | k + 1, _ :: _, _ :: _, h => PairsAt.drop (k := k) h.2
  | _ + 1, [], [], _ => trivial
  | _ + 1, [], _ :: _, h => h.elim
  | _ + 1, _ :: _, [], h => h.elim
theorem at_nat {xs : List V} {k : Nat} {v : V} (h : xs[k]? = some v) : atI xs (k : Int) = some v := atI_nat h
theorem ok_retold {f gO gD : Addr} {fd dO dD : FuncData} {k : Nat} (F : Fun K "_law_retold" "_law_retold" sRetold f fd) (M : PMg mg) (GO : FnOk P w K mg base CX0 (k + 2) gO dO ["bag", "some"] (spOf K)) (mO : mg "_law_of" = some (.ref gO)) (kO : PySem.W.keepIn K (.ref gO) = true) (bO : Binds K dO ["bag", "some"] [])
    (GD : FnOk P w K mg base CX0 (k + 1) gD dD ["bag", "top"] spDraw) (mD : mg "_law_draw" = some (.ref gD)) (kD : PySem.W.keepIn K (.ref gD) = true) (bD : Binds K dD ["bag", "top"] []) : FnOk P w K mg base CX0 (k + 3) f fd ["bag", "row"] (spRetold K) := by
  refine F.ok scRetold (fun vs H Q E h => ?_) (fun cdv A outer s H vs Q E hr h => ?_)
  · obtain ⟨b, l, n, x, row, rfl, _⟩ := h
    rfl
  · obtain ⟨b, l, n, x, row, rfl, hb, hn, ⟨rp', rts, rfl, hrb, hrl, hrp⟩, hf, q⟩ := h
    have hr1 := hr.mono (show k + 1 ≤ k + 2 by omega)
    refine ⟨_, pss_cons (ps_if (pt_cmpR (op_eqD hr.units) (pv 1) (pe_lst pa_nil) (nomark _)) (pss_one (ps_ret (pv 1))) pss_nil)
      (pss_cons (ps_par (i := 2) (j := 3) (by rfl) scRetold.nd rfl rfl (by decide) rfl rfl (pa_cons (pe_call GD hr1 (by rfl) mD kD bD .nil pass0 (pa_cons (pv 0) (pa_cons pe_int pa_nil))) (pa_cons (pe_call GD hr1 (by rfl) mD kD bD .nil pass0 (pa_cons (pv 0) (pa_cons (pe_callB call_len (by rfl) M.len PySem.boot_len (pa_cons (pv 1) pa_nil)) pa_nil))) pa_nil)) (by rfl))
      (pss_cons (ps_asg (pe_ix ix_list (pv 1) (pv 3) (fun _ _ => rfl)) (pg_tup rfl (pgs_cons (pg_name (i := 4) scRetold.nd rfl (Or.inl rfl)) (pgs_cons (pg_name (i := 5) scRetold.nd rfl (Or.inl rfl)) pgs_nil))))
      (C8.pss_cut (ps_set (i := 6) scRetold.nd rfl (Or.inl rfl) (pe_lst (pa_cons (pe_tup (pa_cons (pv 4) (pa_cons (pv 5) pa_nil))) pa_nil)))
      (C8.pss_cut (ps_if (PW.pt (pw_and (pt_cmpR op_eq (pv 2) pe_int (nomark _)) (pw_and1 (pt_cmpR op_gt (pv 5) pe_int (nomark _)))))
        (pss_cons (ps_set (i := 7) scRetold.nd rfl (Or.inl rfl) (pe_call GO hr (by rfl) mO kO bO .nil pass0 (pa_cons (pv 0) (pa_cons (pe_lst (pa_cons pe_int (pa_cons (pe_op op_sub (pv 5) pe_int) (pa_cons (pe_op op_fdiv (pv 5) pe_int) (pa_cons (pe_op op_add pe_int (pe_call GD hr1 (by rfl) mD kD bD .nil pass0 (pa_cons (pv 0) (pa_cons (pe_op op_sub (pv 5) pe_int) pa_nil)))) pa_nil))))) pa_nil))))
        (pss_one (ps_set (i := 6) scRetold.nd rfl (Or.inl rfl) (pe_lst (pa_cons (pe_tup (pa_cons (pv 4) (pa_cons (pv 7) pa_nil))) (pa_cons (pe_tup (pa_cons (pv 4) (pa_cons (pe_op op_sub (pv 5) (pv 7)) pa_nil))) pa_nil)))))) pss_nil)
      (C8.pss_cut (ps_if (PW.pt (pw_and (pt_cmpR op_eq (pv 2) pe_int (nomark _)) (pw_and (pt_cmpR op_gt (pv 5) pe_int (nomark _)) (pw_and1 (pt_cmpR op_lt (pe_callB call_len (by rfl) M.len PySem.boot_len (pa_cons (pv 4) pa_nil)) pe_int (nomark _))))))
        (pss_one (ps_set (i := 6) scRetold.nd rfl (Or.inl rfl) (pe_op op_cat (pe_lst (pa_cons (pe_tup (pa_cons (pe_op op_add_str (pv 4) (pv 4)) (pa_cons (pe_op op_fdiv (pv 5) pe_int) pa_nil))) pa_nil)) (pe_ifExp (pt_cmpR op_eq (pe_op op_mod (pe_callTy call_int1 (by rfl) M.int (by decide +kernel) (pa_cons (pv 5) pa_nil)) pe_int) pe_int (nomark _)) (pe_lst (pa_cons (pe_tup (pa_cons (pv 4) (pa_cons pe_int pa_nil))) pa_nil)) (pe_lst pa_nil))))) pss_nil)
      (C8.pss_cut (ps_if (PW.pt (pw_and (pt_cmpR op_eq (pv 2) pe_int (nomark _)) (pw_and (pt_cmpR op_gt (pv 5) pe_int (nomark _)) (pw_and1 (pt_cmpR op_gt (pe_callB call_len (by rfl) M.len PySem.boot_len (pa_cons (pv 4) pa_nil)) pe_int (nomark _))))))
        (pss_cons (ps_set (i := 7) scRetold.nd rfl (Or.inl rfl) (pe_op op_add pe_int (pe_call GD hr1 (by rfl) mD kD bD .nil pass0 (pa_cons (pv 0) (pa_cons (pe_op op_sub (pe_callB call_len (by rfl) M.len PySem.boot_len (pa_cons (pv 4) pa_nil)) pe_int) pa_nil)))))
        (pss_one (ps_set (i := 6) scRetold.nd rfl (Or.inl rfl) (pe_lst (pa_cons (pe_tup (pa_cons (pe_slice sl_str (pv 4) po_none (po_some (pv 7))) (pa_cons pe_int pa_nil))) (pa_cons (pe_tup (pa_cons (pe_op op_add_str (pe_slice sl_str (pv 4) (po_some (pv 7)) po_none) (pe_slice sl_str (pv 4) po_none (po_some (pv 7)))) (pa_cons (pe_op op_sub (pv 5) pe_int) pa_nil))) (pa_cons (pe_tup (pa_cons (pe_slice sl_str (pv 4) (po_some (pv 7)) po_none) (pa_cons pe_int pa_nil))) pa_nil))))))) pss_nil)
      (C8.pss_cut (ps_if (PW.pt (pw_and (pt_cmpR op_eq (pv 2) pe_int (nomark _)) (pw_and1 (pt_cmpR op_le (pe_op op_mul (pe_callB call_len (by rfl) M.len PySem.boot_len (pa_cons (pv 4) pa_nil)) (pv 5)) pe_int (nomark _)))))
        (pss_one (ps_set (i := 6) scRetold.nd rfl (Or.inl rfl) (pe_lst (pa_cons (pe_tup (pa_cons (pe_op op_mulS (pv 4) (pv 5)) (pa_cons pe_int pa_nil))) pa_nil)))) pss_nil)
      (C8.pss_cut (ps_if (PW.pt (pw_and (pt_cmpR op_eq (pv 2) pe_int (nomark _)) (pw_and (pt_cmpR op_lt (pe_op op_add (pv 3) pe_int) (pe_callB call_len (by rfl) M.len PySem.boot_len (pa_cons (pv 1) pa_nil)) (nomark _)) (pw_and (pt_cmpR op_eq (pe_ix ix_seq (pe_ix ix_seq (pv 1) (pe_op op_add (pv 3) pe_int) (fun _ _ => rfl)) pe_int (fun _ _ => rfl)) (pv 4) (nomark _)) (pw_and1 (pt_cmpR op_le (pe_op op_add (pe_ix ix_seq (pe_ix ix_seq (pv 1) (pe_op op_add (pv 3) pe_int) (fun _ _ => rfl)) pe_int (fun _ _ => rfl)) (pv 5)) (pe_op op_pow pe_int pe_int) (nomark _)))))))
        (pss_one (ps_ret (pe_op op_cat (pe_op op_cat (pe_slice sl_list (pv 1) po_none (po_some (pv 3))) (pe_lst (pa_cons (pe_tup (pa_cons (pv 4) (pa_cons (pe_op op_add (pe_ix ix_seq (pe_ix ix_seq (pv 1) (pe_op op_add (pv 3) pe_int) (fun _ _ => rfl)) pe_int (fun _ _ => rfl)) (pv 5)) pa_nil))) pa_nil))) (pe_slice sl_list (pv 1) (po_some (pe_op op_add (pv 3) pe_int)) po_none)))) pss_nil)
      (pss_cons (ps_set (i := 8) scRetold.nd rfl (Or.inl rfl) (pe_op op_cat (pe_op op_cat (pe_slice sl_list (pv 1) po_none (po_some (pv 3))) (pv 6)) (pe_slice sl_list (pv 1) (po_some (pe_op op_add (pv 3) pe_int)) po_none)))
      (pss_one (ps_ret (pe_ifExp (pt_cmpR op_lt (pe_callB call_len (by rfl) M.len PySem.boot_len (pa_cons (pv 8) pa_nil)) pe_int (nomark _)) (pv 8) (pv 1))))))))))))), ?_⟩
    have lrow := hf.len
    have lts := hrp.len
    refine ⟨.ref rp', rfl, by show 0 ≤ sizeLine; decide, fun c1 nc1 => ⟨_, _, .lst (.inl (.inl (same_new nc1 _ _ hrl))) (dRow_dp (hrp.same (same_new nc1))), .lst (.inl (.inl upd_same)) .nil, dRow_shaped (fun p hp => (hf.w p hp).2.2.2), rfl, _, rfl, ?_⟩⟩
    have K1 : Keep b H (upd H c1 (.lst [])) := Keep.rfl'.new nc1
    have hb1 := hb.add nc1 (o := .lst [])
    generalize upd H c1 (.lst []) = G1 at *
    have fin : ∀ {J : Hp}, Keep b H J → BagAt J b l (n + 8) → Q (.ref rp') J := fun kj bj => q _ _ row kj bj ⟨rp', rts, rfl, hrb, kj _ _ hrb hrl, (by obtain ⟨ys, hy⟩ := hb.lst; exact hrp.keep hy kj)⟩ hf rfl
    by_cases hne : row = []
    · rw [hne]
      exact iteT ⟨.ref rp', rfl, fin K1 (hb1.up (by omega))⟩
    have hpos : 0 < row.length := List.length_pos_iff.2 hne
    rw [show PyData.eqv (.list (dRow row)) (.list []) = false by cases row with | nil => exact absurd rfl hne | cons => rfl]
    refine iteF ?_
    refine ⟨.ref b, rfl, b, l, n, 5, rfl, hb1, nOk (by omega), by decide, topOk (by decide), fun o1 way' hb2 _ w0 w1 => ?_⟩
    obtain ⟨way, rfl⟩ : ∃ m : Nat, way' = (m : Int) := ⟨way'.toNat, (Int.toNat_of_nonneg w0).symm⟩
    have K2 : Keep b H (upd G1 b o1) := K1.upd
    generalize upd G1 b o1 = G2 at *
    refine ⟨.ref b, rfl, .ref rp', rfl, .ref rp', row.length, rfl, .inl ⟨_, .inl (.inl (K2 _ _ hrb hrl)), by rw [List.length_map, lts]⟩, b, l, n + 1, _, rfl, hb2, nOk (by omega), by omega, topOk (Nat.lt_of_lt_of_le (show ((row.length : Int)).natAbs < 100 by omega) (by decide)), fun o2 k' hb3 _ k0 k1 => ⟨_, _, rfl, ?_⟩⟩
    obtain ⟨kk, rfl⟩ : ∃ m : Nat, k' = (m : Int) := ⟨k'.toNat, (Int.toNat_of_nonneg k0).symm⟩
    have hk : kk < row.length := by omega
    have K3 : Keep b H (upd G2 b o2) := K2.upd
    generalize upd G2 b o2 = G3 at *
    have rowJ : ∀ {J : Hp}, Keep b H J → J rp' = some (.lst (rts.map V.ref)) ∧ PairsAt J rts row := fun kj => ⟨kj _ _ hrb hrl, (by obtain ⟨ys, hy⟩ := hb.lst; exact hrp.keep hy kj)⟩
    obtain ⟨t, ht⟩ : ∃ t, rts[kk]? = some t := ⟨_, List.getElem?_eq_getElem (by omega)⟩
    have ⟨hr3, hp3⟩ := rowJ K3
    obtain ⟨⟨u, a⟩, hua, hcell⟩ := hp3.get ht
    have ⟨wu, a1, a2⟩ := hf.each (u, a) (List.mem_of_getElem? hua)
    simp only at wu a1 a2 hcell
    have eTh : atI (rts.map V.ref) (kk : Int) = some (.ref t) := at_nat (by rw [List.getElem?_map, ht]; rfl)
    refine ⟨.ref rp', rfl, .int kk, rfl, rp', _, kk, .ref t, rfl, rfl, .inl (.inl hr3), eTh, t, [.str (S u), .int a], rfl, .inl (.inl hcell), rfl, .str (S u), [.int a], rfl, .int a, [], rfl, rfl, ?_⟩
    have hlu := wu.2.1
    have h0u : 0 < u.length := List.length_pos_iff.2 wu.1
    have t30 : (10 : Nat) ^ 30 = 1000000000000000000000000000000 := by decide +kernel
    have wsub : ∀ {v : List Nat}, v ≠ [] → v.length ≤ 40 → (∀ c ∈ v, c ∈ u) → WordOk v := fun h1 h2 h3 => ⟨h1, h2, fun c hc => wu.2.2 c (h3 c hc)⟩
    refine ⟨RetW H b l (n + 2) (.ref rp') way kk u a, ?_, ?_⟩
    · refine ⟨.str (S u), rfl, .int a, rfl, by show 2 ≤ sizeLine; decide, fun N nN => ⟨by show 1 ≤ sizeLine; decide, fun fp nf => ?_⟩⟩
      have hbN := hb3.add nN (o := .tup [.str (S u), .int (a : Int)])
      exact ⟨fp, [N], [(u, a)], none, rfl, hbN.ne nf, upd_same, ⟨same_new nf _ _ upd_same, trivial⟩, by simp [ex], fun p hp => by simp at hp; subst hp; exact ⟨wu, a1, a2⟩, by show 1 ≤ 3; decide, hbN.add nf, (K3.new nN).new nf⟩
    rintro σ G hW
    have hW0 := hW
    obtain ⟨fp, fts, F, y7, rfl, hfb, hfl, hfp, hfe, hfo, hfL, gb, gk⟩ := hW
    refine ⟨RetW H b l (n + 4) (.ref rp') way kk u a, ?_, ?_⟩
    · refine ⟨.int way, rfl, rfl, _, rfl, ite2 (fun e => ?_) (fun e => iteF (hW0.up (by omega)))⟩
      refine ⟨.int a, rfl, _, _, rfl, rfl, _, rfl, ite2 (fun e2 => ?_) (fun e2 => hW0.up (by omega))⟩
      have ha : (1 : Int) < a := of_decide_eq_true e2
      refine ⟨.ref b, rfl, .int a, rfl, a, 1, rfl, rfl, .int a, rfl, a, 2, rfl, rfl, ⟨by decide, by decide⟩, .ref b, rfl, .int a, rfl, a, 1, rfl, rfl, b, l, n + 2, _, rfl, gb, nOk (by omega), by omega, topOk (Nat.lt_of_le_of_lt (show ((a : Int) - 1).natAbs ≤ 10 ^ 30 by omega) (by decide +kernel)), fun o4 j hb4 _ j0 j1 => ⟨1, j, rfl, rfl, by show 4 ≤ sizeLine; decide, fun pn nn => ?_⟩⟩
      have K4 : Keep b H (upd G b o4) := gk.upd
      generalize upd G b o4 = G4 at *
      refine ⟨b, l, n + 3, .ref pn, rfl, hb4.add nn, nOk (by omega), .inl ⟨pn, _, rfl, .inl (.inl upd_same), hb4.ne nn, by show 0 < 4; decide, by show 4 < 2 ^ 60; decide, fun o5 v hb5 _ hv => ?_⟩⟩
      have ⟨m, em, m1, m2⟩ : ∃ m : Nat, v = .int (m : Int) ∧ 1 ≤ m ∧ m + 1 ≤ a := by
        have fin2 : ∀ z : Int, v = .int z → 1 ≤ z → z + 1 ≤ a → ∃ m : Nat, v = .int (m : Int) ∧ 1 ≤ m ∧ m + 1 ≤ a := fun z e h1 h2 => ⟨z.toNat, by rw [e, Int.toNat_of_nonneg (by omega)], by omega, by omega⟩
        simp only [List.mem_cons, List.not_mem_nil, or_false] at hv
        rcases hv with h | h | h | h
        · exact fin2 _ h (by omega) (by omega)
        · exact fin2 _ h (by omega) (by omega)
        · exact fin2 _ h (by omega) (by omega)
        · exact fin2 _ h (by omega) (by omega)
      subst em
      have K5 := (K4.new nn (o := .lst [.int 1, .int ((a : Int) - 1), .int ((a : Int) / 2), .int (1 + j)])).upd (o := o5)
      have hb5' : BagAt (upd (upd G4 pn (.lst [.int 1, .int ((a : Int) - 1), .int ((a : Int) / 2), .int (1 + j)])) b o5) b l (n + 4) := hb5
      refine ⟨.str (S u), rfl, .int m, rfl, by show 2 ≤ sizeLine; decide, fun N1 n1 => ⟨.str (S u), rfl, .int a, rfl, .int m, rfl, a, m, rfl, rfl, by show 2 ≤ sizeLine; decide, fun N2 n2 => ⟨by show 2 ≤ sizeLine; decide, fun fp2 nf => ?_⟩⟩⟩
      refine ⟨fp2, [N1, N2], [(u, m), (u, a - m)], _, rfl, ((hb5.add n1).add n2).ne nf, upd_same, ⟨same_new nf _ _ (same_new n2 _ _ upd_same), same_new nf _ _ ?_, trivial⟩, ?_, ?_, by show 2 ≤ 3; decide, ((hb5'.add n1).add n2).add nf, ((K5.new n1).new n2).new nf⟩
      · rw [Int.natCast_sub (by omega)]
        exact upd_same
      · simp only [ex, List.append_nil]
        rw [← rp_add, show m + (a - m) = a by omega]
      · intro p hp
        simp at hp
        rcases hp with rfl | rfl
        · exact ⟨wu, m1, by show m ≤ 10 ^ 30; omega⟩
        · exact ⟨wu, by show 1 ≤ a - m; omega, by show a - m ≤ 10 ^ 30; omega⟩
    clear hfb hfl hfp hfe hfo hfL gb gk hW0
    rintro σ G hW
    have hW0 := hW
    obtain ⟨fp, fts, F, y7, rfl, hfb, hfl, hfp, hfe, hfo, hfL, gb, gk⟩ := hW
    refine ⟨RetW H b l (n + 4) (.ref rp') way kk u a, ?_, ?_⟩
    · refine ⟨.int way, rfl, rfl, _, rfl, ite2 (fun e => ?_) (fun e => iteF hW0)⟩
      refine ⟨.int a, rfl, _, _, rfl, rfl, _, rfl, ite2 (fun e2 => ?_) (fun e2 => iteF hW0)⟩
      have ha : (1 : Int) < a := of_decide_eq_true e2
      refine ⟨.str (S u), rfl, .str (S u), u.length, rfl, lenS (by omega), _, _, rfl, rfl, _, rfl, ite2 (fun e3 => ?_) (fun e3 => hW0)⟩
      have h13 : (u.length : Int) < 13 := of_decide_eq_true e3
      refine ⟨.str (S u), rfl, .str (S u), rfl, S u, S u, rfl, rfl, by rw [S_len]; exact small (by omega), ?_⟩
      rw [S_app]
      refine ⟨.int a, rfl, a, 2, rfl, rfl, ⟨by decide, by decide⟩, by show 2 ≤ sizeLine; decide, fun N1 n1 => ⟨by show 1 ≤ sizeLine; decide, fun L1 nl1 => ?_⟩⟩
      have hN1 : upd (upd G N1 (.tup [.str (S (u ++ u)), .int ((a : Int) / 2)])) L1 (.lst [.ref N1]) N1 = some (.tup [.str (S (u ++ u)), .int ((a / 2 : Nat) : Int)]) := by
        rw [same_new nl1 _ _ upd_same, show ((a / 2 : Nat) : Int) = (a : Int) / 2 by omega]
      have hL1 : upd (upd G N1 (.tup [.str (S (u ++ u)), .int ((a : Int) / 2)])) L1 (.lst [.ref N1]) L1 = some (.lst [.ref N1]) := upd_same
      have kJ : Keep b H (upd (upd G N1 (.tup [.str (S (u ++ u)), .int ((a : Int) / 2)])) L1 (.lst [.ref N1])) := (gk.new n1).new nl1
      have bJ : BagAt (upd (upd G N1 (.tup [.str (S (u ++ u)), .int ((a : Int) / 2)])) L1 (.lst [.ref N1])) b l (n + 4) := (gb.add n1).add nl1
      generalize upd (upd G N1 (.tup [.str (S (u ++ u)), .int ((a : Int) / 2)])) L1 (.lst [.ref N1]) = J at *
      have wuu : WordOk (u ++ u) := wsub (fun z => wu.1 (List.append_eq_nil_iff.1 z).1) (by rw [List.length_append]; omega) (fun c hc => (List.mem_append.1 hc).elim id id)
      refine ⟨.int a, rfl, .inl ⟨a, rfl, a, 2, rfl, rfl, by show (0 : Int) < 2; decide, rfl, _, rfl, ite2 (fun e4 => ?_) (fun e4 => ?_)⟩⟩
      · have hodd : (a : Int) % 2 = 1 := V.int.inj (of_decide_eq_true e4)
        refine ⟨.str (S u), rfl, by show 2 ≤ sizeLine; decide, fun N2 n2 => ⟨by show 1 ≤ sizeLine; decide, fun L2 nl2 => ?_⟩⟩
        refine ⟨L1, L2, _, _, rfl, rfl, same_new nl2 _ _ (same_new n2 _ _ hL1), upd_same, by show 2 ≤ sizeLine; decide, fun fp2 nf => ?_⟩
        refine ⟨fp2, [N1, N2], [(u ++ u, a / 2), (u, 1)], y7, rfl, ((bJ.add n2).add nl2).ne nf, upd_same, ⟨same_new nf _ _ (same_new nl2 _ _ (same_new n2 _ _ hN1)), same_new nf _ _ (same_new nl2 _ _ upd_same), trivial⟩, ?_, ?_, by show 2 ≤ 3; decide, ((bJ.add n2).add nl2).add nf, ((kJ.new n2).new nl2).new nf⟩
        · simp only [ex, List.append_nil]
          rw [rp_dbl, ← rp_add, show 2 * (a / 2) + 1 = a by omega]
        · intro p hp
          simp at hp
          rcases hp with rfl | rfl
          · exact ⟨wuu, by show 1 ≤ a / 2; omega, by show a / 2 ≤ 10 ^ 30; omega⟩
          · exact ⟨wu, by show 1 ≤ 1; omega, by show 1 ≤ 10 ^ 30; omega⟩
      · have hev : ¬ (a : Int) % 2 = 1 := fun z => e4 (decide_eq_true (congrArg V.int z))
        refine ⟨by show 0 ≤ sizeLine; decide, fun L2 nl2 => ?_⟩
        refine ⟨L1, L2, _, _, rfl, rfl, same_new nl2 _ _ hL1, upd_same, by show 1 ≤ sizeLine; decide, fun fp2 nf => ?_⟩
        refine ⟨fp2, [N1], [(u ++ u, a / 2)], y7, rfl, (bJ.add nl2).ne nf, upd_same, ⟨same_new nf _ _ (same_new nl2 _ _ hN1), trivial⟩, ?_, ?_, by show 1 ≤ 3; decide, (bJ.add nl2).add nf, (kJ.new nl2).new nf⟩
        · simp only [ex, List.append_nil]
          rw [rp_dbl, show 2 * (a / 2) = a by omega]
        · intro p hp
          simp at hp
          subst hp
          exact ⟨wuu, by show 1 ≤ a / 2; omega, by show a / 2 ≤ 10 ^ 30; omega⟩
    clear hfb hfl hfp hfe hfo hfL gb gk hW0
    rintro σ G hW
    have hW0 := hW
    obtain ⟨fp, fts, F, y7, rfl, hfb, hfl, hfp, hfe, hfo, hfL, gb, gk⟩ := hW
    refine ⟨RetW H b l (n + 5) (.ref rp') way kk u a, ?_, ?_⟩
    · refine ⟨.int way, rfl, rfl, _, rfl, ite2 (fun e => ?_) (fun e => iteF (hW0.up (by omega)))⟩
      refine ⟨.int a, rfl, _, _, rfl, rfl, _, rfl, ite2 (fun e2 => ?_) (fun e2 => iteF (hW0.up (by omega)))⟩
      have ha : (1 : Int) < a := of_decide_eq_true e2
      refine ⟨.str (S u), rfl, .str (S u), u.length, rfl, lenS (by omega), _, _, rfl, rfl, _, rfl, ite2 (fun e3 => ?_) (fun e3 => hW0.up (by omega))⟩
      have hl1 : (1 : Int) < u.length := of_decide_eq_true e3
      refine ⟨.ref b, rfl, .str (S u), rfl, .str (S u), u.length, rfl, lenS (by omega), _, 1, rfl, rfl, b, l, n + 4, _, rfl, gb, nOk (by omega), by omega, topOk (Nat.lt_of_lt_of_le (show ((u.length : Int) - 1).natAbs < 100 by omega) (by decide)), fun o4 j hb4 _ j0 j1 => ⟨1, j, rfl, rfl, ?_⟩⟩
      have K4 : Keep b H (upd G b o4) := gk.upd
      generalize upd G b o4 = G4 at *
      obtain ⟨m, eM⟩ : ∃ m : Nat, 1 + j = (m : Int) := ⟨(1 + j).toNat, (Int.toNat_of_nonneg (by omega)).symm⟩
      have sM := congrArg (fun z : Int => some (some (V.int z))) eM
      have lS : (S u).length ≤ sizeLine := by rw [S_len]; exact small (by omega)
      refine ⟨.str (S u), rfl, .int m, sM, m, rfl, S u, rfl, lS, ?_⟩
      rw [cut_to]
      refine ⟨by show 2 ≤ sizeLine; decide, fun N1 n1 => ⟨.str (S u), rfl, .int m, sM, m, rfl, S u, rfl, lS, .str (S u), rfl, .int m, sM, m, rfl, S u, rfl, lS, ?_⟩⟩
      rw [cut_from, cut_to]
      refine ⟨S (u.drop m), S (u.take m), rfl, rfl, by rw [S_len, S_len, List.length_drop, List.length_take]; exact small (by omega), ?_⟩
      rw [S_app]
      refine ⟨.int a, rfl, a, 1, rfl, rfl, by show 2 ≤ sizeLine; decide, fun N2 n2 => ⟨.str (S u), rfl, .int m, sM, m, rfl, S u, rfl, lS, ?_⟩⟩
      rw [cut_from]
      refine ⟨by show 2 ≤ sizeLine; decide, fun N3 n3 => ⟨by show 3 ≤ sizeLine; decide, fun fp2 nf => ?_⟩⟩
      refine ⟨fp2, [N1, N2, N3], [(u.take m, 1), (u.drop m ++ u.take m, a - 1), (u.drop m, 1)], some (.int (1 + j)), rfl, (((hb4.add n1).add n2).add n3).ne nf, upd_same, ⟨same_new nf _ _ (same_new n3 _ _ (same_new n2 _ _ upd_same)), same_new nf _ _ (same_new n3 _ _ ?_), same_new nf _ _ upd_same, trivial⟩, ?_, ?_, by show 3 ≤ 3; decide, (((hb4.add n1).add n2).add n3).add nf, (((K4.new n1).new n2).new n3).new nf⟩
      · rw [Int.natCast_sub (by omega)]
        exact upd_same
      · simp only [ex, List.append_nil, rp_one]
        rw [← List.append_assoc, rp_turn, List.take_append_drop, show a - 1 + 1 = a by omega]
      · have wt1 : WordOk (u.take m) := wsub (fun z => by have := congrArg List.length z; rw [List.length_take, List.length_nil] at this; omega) (by rw [List.length_take]; omega) (fun c hc => List.mem_of_mem_take hc)
        have wt2 : WordOk (u.drop m) := wsub (fun z => by have := congrArg List.length z; rw [List.length_drop, List.length_nil] at this; omega) (by rw [List.length_drop]; omega) (fun c hc => List.mem_of_mem_drop hc)
        have wt3 : WordOk (u.drop m ++ u.take m) := wsub (fun z => wt2.1 (List.append_eq_nil_iff.1 z).1) (by rw [List.length_append, List.length_drop, List.length_take]; omega) (fun c hc => (List.mem_append.1 hc).elim List.mem_of_mem_drop List.mem_of_mem_take)
        intro p hp
        simp at hp
        rcases hp with rfl | rfl | rfl
        · exact ⟨wt1, by show 1 ≤ 1; omega, by show 1 ≤ 10 ^ 30; omega⟩
        · exact ⟨wt3, by show 1 ≤ a - 1; omega, by show a - 1 ≤ 10 ^ 30; omega⟩
        · exact ⟨wt2, by show 1 ≤ 1; omega, by show 1 ≤ 10 ^ 30; omega⟩
    clear hfb hfl hfp hfe hfo hfL gb gk hW0
    rintro σ G hW
    have hW0 := hW
    obtain ⟨fp, fts, F, y7, rfl, hfb, hfl, hfp, hfe, hfo, hfL, gb, gk⟩ := hW
    refine ⟨RetW H b l (n + 5) (.ref rp') way kk u a, ?_, ?_⟩
    · refine ⟨.int way, rfl, rfl, _, rfl, ite2 (fun e => ?_) (fun e => iteF hW0)⟩
      refine ⟨.str (S u), rfl, .str (S u), u.length, rfl, lenS (by omega), .int a, rfl, u.length, a, rfl, rfl, .inl ⟨by omega, by omega⟩, _, _, rfl, rfl, _, rfl, ite2 (fun e2 => ?_) (fun e2 => hW0)⟩
      have h40 : (u.length : Int) * (a : Int) ≤ 40 := of_decide_eq_true e2
      rw [← Int.natCast_mul] at h40
      have h40' : u.length * a ≤ 40 := by omega
      have ha40 : a ≤ 40 := Nat.le_trans (Nat.le_mul_of_pos_left a h0u) h40'
      refine ⟨.str (S u), rfl, .int a, rfl, u, a, rfl, rfl, by omega, by omega, by show 2 ≤ sizeLine; decide, fun N1 n1 => ⟨by show 1 ≤ sizeLine; decide, fun fp2 nf => ?_⟩⟩
      refine ⟨fp2, [N1], [(rp u a, 1)], y7, rfl, (gb.add n1).ne nf, upd_same, ⟨same_new nf _ _ upd_same, trivial⟩, ?_, ?_, by show 1 ≤ 3; decide, (gb.add n1).add nf, (gk.new n1).new nf⟩
      · simp only [ex, List.append_nil, rp_one]
      · intro p hp
        simp at hp
        subst hp
        refine ⟨wsub (fun z => ?_) (by rw [rp_len]; exact h40') ?_, by show 1 ≤ 1; omega, by show 1 ≤ 10 ^ 30; omega⟩
        · have := congrArg List.length z
          rw [rp_len] at this
          have := Nat.mul_pos h0u a1
          simp at *
          omega
        · have : ∀ k, ∀ c ∈ rp u k, c ∈ u := fun k => by
            induction k with
            | zero => intro c hc; simp [rp] at hc
            | succ k ih => intro c hc; exact (List.mem_append.1 hc).elim id (ih c)
          exact this a
    clear hfb hfl hfp hfe hfo hfL gb gk hW0
    rintro σ G hW
    have hW0 := hW
    obtain ⟨fp, fts, F, y7, rfl, hfb, hfl, hfp, hfe, hfo, hfL, gb, gk⟩ := hW
    have ⟨hrG, hpG⟩ := rowJ gk
    have sqG : SqL K G rp' (rts.map V.ref) := .inl (.inl hrG)
    have rsp := at_split hua
    have lenR : (rts.map V.ref).length = row.length := by rw [List.length_map, lts]
    refine ⟨RetW H b l (n + 5) (.ref rp') way kk u a, ?_, ?_⟩
    · refine ⟨.int way, rfl, rfl, _, rfl, ite2 (fun e => ?_) (fun e => iteF hW0)⟩
      refine ⟨.int kk, rfl, kk, 1, rfl, rfl, .ref rp', rfl, .ref rp', row.length, rfl, .inl ⟨_, sqG, lenR.symm⟩, _, _, rfl, rfl, _, rfl, ite2 (fun e2 => ?_) (fun e2 => iteF hW0)⟩
      have hk1 : (kk : Int) + 1 < row.length := of_decide_eq_true e2
      obtain ⟨t2, ht2⟩ : ∃ t2, rts[kk + 1]? = some t2 := ⟨_, List.getElem?_eq_getElem (by omega)⟩
      obtain ⟨⟨u2, a3⟩, hua2, hcell2⟩ := hpG.get ht2
      have ⟨wu2, b1, b2⟩ := hf.each (u2, a3) (List.mem_of_getElem? hua2)
      simp only at wu2 b1 b2 hcell2
      have eT2 : atI (rts.map V.ref) ((kk : Int) + 1) = some (.ref t2) := by
        have := at_nat (xs := rts.map V.ref) (k := kk + 1) (v := .ref t2) (by rw [List.getElem?_map, ht2]; rfl)
        exact this
      have X0 : ∀ {z : V → Hp → Prop}, z (.ref t2) G → rIx K (.ref rp') (.int ((kk : Int) + 1)) G z := fun h => .inl ⟨rp', _, (kk : Int) + 1, _, rfl, rfl, sqG, eT2, h⟩
      refine ⟨.ref rp', rfl, .int kk, rfl, kk, 1, rfl, rfl, X0 (.inr (.inl ⟨t2, _, 0, _, rfl, rfl, .inl (.inl hcell2), rfl, .str (S u), rfl, rfl, _, rfl, ite2 (fun e3 => ?_) (fun e3 => iteF hW0)⟩))⟩
      have eu : u2 = u := S_inj (V.str.inj (of_decide_eq_true e3))
      subst eu
      refine ⟨.ref rp', rfl, .int kk, rfl, kk, 1, rfl, rfl, X0 (.inr (.inl ⟨t2, _, 1, _, rfl, rfl, .inl (.inl hcell2), rfl, .int a, rfl, a3, a, rfl, rfl, 10, 30, rfl, rfl, ⟨by decide, by decide, by decide⟩, _, _, rfl, rfl, _, rfl, ite2 (fun e4 => ?_) (fun e4 => hW0)⟩))⟩
      have h30 : (a3 : Int) + (a : Int) ≤ (10 : Int) ^ (30 : Int).toNat := of_decide_eq_true e4
      have e30 : ((10 : Int) ^ (30 : Int).toNat) = 1000000000000000000000000000000 := by decide +kernel
      rw [e30] at h30
      refine ⟨.ref rp', rfl, .int kk, rfl, kk, rfl, rp', _, rfl, sqG, fun A1 nA => ?_⟩
      rw [cut_listTo]
      refine ⟨.str (S u2), rfl, .ref rp', rfl, .int kk, rfl, kk, 1, rfl, rfl, .inl ⟨rp', _, (kk : Int) + 1, _, rfl, rfl, .inl (.inl (same_new nA _ _ hrG)), eT2, .inr (.inl ⟨t2, _, 1, _, rfl, rfl, .inl (.inl (same_new nA _ _ hcell2)), rfl, .int a, rfl, a3, a, rfl, rfl, by show 2 ≤ sizeLine; decide, fun N nN => ⟨by show 1 ≤ sizeLine; decide, fun B nB => ?_⟩⟩)⟩⟩
      have kB := ((gk.new nA (o := .lst ((rts.map V.ref).take kk))).new nN (o := .tup [.str (S u2), .int ((a3 : Int) + (a : Int))])).new nB (o := .lst [.ref N])
      have bB := ((gb.add nA (o := .lst ((rts.map V.ref).take kk))).add nN (o := .tup [.str (S u2), .int ((a3 : Int) + (a : Int))])).add nB (o := .lst [.ref N])
      have hA : upd (upd (upd G A1 (.lst ((rts.map V.ref).take kk))) N (.tup [.str (S u2), .int ((a3 : Int) + (a : Int))])) B (.lst [.ref N]) A1 = some (.lst ((rts.map V.ref).take kk)) := same_new nB _ _ (same_new nN _ _ upd_same)
      have hNc : upd (upd (upd G A1 (.lst ((rts.map V.ref).take kk))) N (.tup [.str (S u2), .int ((a3 : Int) + (a : Int))])) B (.lst [.ref N]) N = some (.tup [.str (S u2), .int ((a3 + a : Nat) : Int)]) := by
        rw [same_new nB _ _ upd_same, Int.natCast_add]
      have hB : upd (upd (upd G A1 (.lst ((rts.map V.ref).take kk))) N (.tup [.str (S u2), .int ((a3 : Int) + (a : Int))])) B (.lst [.ref N]) B = some (.lst [.ref N]) := upd_same
      generalize upd (upd (upd G A1 (.lst ((rts.map V.ref).take kk))) N (.tup [.str (S u2), .int ((a3 : Int) + (a : Int))])) B (.lst [.ref N]) = J at *
      refine ⟨A1, B, _, _, rfl, rfl, hA, hB, by rw [List.length_take, lenR]; exact small (by show min kk row.length + 1 ≤ 5000; omega), fun C nC => ?_⟩
      have kC := kB.new nC (o := .lst ((rts.map V.ref).take kk ++ [.ref N]))
      have ⟨hrC, hpC⟩ := rowJ kC
      refine ⟨.ref rp', rfl, .int kk, rfl, kk, 2, rfl, rfl, ((kk + 2 : Nat) : Int), rfl, rp', _, rfl, .inl (.inl hrC), fun D nD => ?_⟩
      rw [cut_list]
      refine ⟨C, D, _, _, rfl, rfl, same_new nD _ _ upd_same, upd_same, by rw [List.length_append, List.length_take, List.length_drop, lenR]; exact small (by show min kk row.length + 1 + (row.length - (kk + 2)) ≤ 5000; omega), fun E nE => ?_⟩
      have kE := (kC.new nD (o := .lst ((rts.map V.ref).drop (kk + 2)))).new nE (o := .lst ((rts.map V.ref).take kk ++ [.ref N] ++ (rts.map V.ref).drop (kk + 2)))
      have bE := ((bB.add nC (o := .lst ((rts.map V.ref).take kk ++ [.ref N]))).add nD (o := .lst ((rts.map V.ref).drop (kk + 2)))).add nE (o := .lst ((rts.map V.ref).take kk ++ [.ref N] ++ (rts.map V.ref).drop (kk + 2)))
      have ⟨_, hpE⟩ := rowJ kE
      have d1 : row.drop (kk + 1) = (u2, a3) :: row.drop (kk + 2) := by
        obtain ⟨h1, h2⟩ := List.getElem?_eq_some_iff.1 hua2
        rw [List.drop_eq_getElem_cons h1, h2]
      refine q _ _ (row.take kk ++ [(u2, a3 + a)] ++ row.drop (kk + 2)) kE (bE.up (by omega)) ⟨E, rts.take kk ++ [N] ++ rts.drop (kk + 2), rfl, ((bB.add nC (o := .lst ((rts.map V.ref).take kk ++ [.ref N]))).add nD (o := .lst ((rts.map V.ref).drop (kk + 2)))).ne nE, ?_, ?_⟩ ⟨?_, ?_⟩ ?_
      · rw [upd_same, List.map_append, List.map_append, List.map_take, List.map_drop]
        rfl
      · exact PairsAt.app hpE.drop (PairsAt.snoc (p := (u2, a3 + a)) (same_new nE _ _ (same_new nD _ _ (same_new nC _ _ hNc))) hpE.take)
      · rw [List.length_append, List.length_append, List.length_take, List.length_drop]
        show min kk row.length + 1 + (row.length - (kk + 2)) ≤ 7
        omega
      · intro p hp
        rcases List.mem_append.1 hp with h | h
        · rcases List.mem_append.1 h with h | h
          · exact hf.each p (List.mem_of_mem_take h)
          · simp at h
            subst h
            exact ⟨wu, by show 1 ≤ a3 + a; omega, by show a3 + a ≤ 10 ^ 30; omega⟩
        · exact hf.each p (List.mem_of_mem_drop h)
      · conv => rhs; rw [rsp, d1]
        simp only [ex_app, ex, List.append_nil]
        rw [rp_add]
        have : rp u2 a3 ++ rp u2 a = rp u2 a ++ rp u2 a3 := by rw [← rp_add, ← rp_add, Nat.add_comm]
        rw [this]
        simp
    clear hfb hfl hfp hfe hfo hfL gb gk hW0 hrG hpG sqG
    rintro σ G ⟨fp, fts, F, y7, rfl, hfb, hfl, hfp, hfe, hfo, hfL, gb, gk⟩
    have ⟨hrG, hpG⟩ := rowJ gk
    have lF : fts.length = F.length := hfp.len
    refine ⟨.ref rp', rfl, .int kk, rfl, kk, rfl, rp', _, rfl, .inl (.inl hrG), fun A1 nA => ?_⟩
    rw [cut_listTo]
    refine ⟨.ref fp, rfl, A1, fp, _, _, rfl, rfl, upd_same, same_new nA _ _ hfl, by rw [List.length_take, List.length_map, List.length_map]; exact small (by omega), fun C nC => ?_⟩
    have kC := (gk.new nA (o := .lst ((rts.map V.ref).take kk))).new nC (o := .lst ((rts.map V.ref).take kk ++ fts.map V.ref))
    have bC := (gb.add nA (o := .lst ((rts.map V.ref).take kk))).add nC (o := .lst ((rts.map V.ref).take kk ++ fts.map V.ref))
    have pC := (hfp.same (same_new nA (o := .lst ((rts.map V.ref).take kk)))).same (same_new nC (o := .lst ((rts.map V.ref).take kk ++ fts.map V.ref)))
    have ⟨hrC, hpC⟩ := rowJ kC
    refine ⟨.ref rp', rfl, .int kk, rfl, kk, 1, rfl, rfl, ((kk + 1 : Nat) : Int), rfl, rp', _, rfl, .inl (.inl hrC), fun D nD => ?_⟩
    rw [cut_list]
    have lT : ((rts.map V.ref).take kk ++ fts.map V.ref).length + ((rts.map V.ref).drop (kk + 1)).length ≤ 5000 := by
      rw [List.length_append, List.length_take, List.length_drop, List.length_map, List.length_map]
      omega
    refine ⟨C, D, _, _, rfl, rfl, same_new nD _ _ upd_same, upd_same, small lT, fun E nE => ?_⟩
    have kE := (kC.new nD (o := .lst ((rts.map V.ref).drop (kk + 1)))).new nE (o := .lst ((rts.map V.ref).take kk ++ fts.map V.ref ++ (rts.map V.ref).drop (kk + 1)))
    have bD' := bC.add nD (o := .lst ((rts.map V.ref).drop (kk + 1)))
    have bE := bD'.add nE (o := .lst ((rts.map V.ref).take kk ++ fts.map V.ref ++ (rts.map V.ref).drop (kk + 1)))
    have pE := (pC.same (same_new nD (o := .lst ((rts.map V.ref).drop (kk + 1))))).same (same_new nE (o := .lst ((rts.map V.ref).take kk ++ fts.map V.ref ++ (rts.map V.ref).drop (kk + 1))))
    have ⟨_, hpE⟩ := rowJ kE
    refine ⟨.ref E, rfl, .ref E, ((rts.map V.ref).take kk ++ fts.map V.ref ++ (rts.map V.ref).drop (kk + 1)).length, rfl, .inl ⟨_, .inl (.inl upd_same), rfl⟩, _, _, rfl, rfl, _, rfl, ite2 (fun e => ?_) (fun e => ⟨.ref rp', rfl, fin kE (bE.up (by omega))⟩)⟩
    have h7 : ((((rts.map V.ref).take kk ++ fts.map V.ref ++ (rts.map V.ref).drop (kk + 1)).length : Nat) : Int) < 7 := of_decide_eq_true e
    refine ⟨.ref E, rfl, q _ _ (row.take kk ++ F ++ row.drop (kk + 1)) kE (bE.up (by omega)) ⟨E, rts.take kk ++ fts ++ rts.drop (kk + 1), rfl, bD'.ne nE, ?_, ?_⟩ ⟨?_, ?_⟩ ?_⟩
    · rw [upd_same, List.map_append, List.map_append, List.map_take, List.map_drop]
    · exact PairsAt.app hpE.drop (PairsAt.app pE hpE.take)
    · rw [List.length_append, List.length_append, List.length_take, List.length_drop, List.length_map, List.length_map, lts, lF] at h7
      rw [List.length_append, List.length_append, List.length_take, List.length_drop]
      omega
    · intro p hp
      rcases List.mem_append.1 hp with h | h
      · rcases List.mem_append.1 h with h | h
        · exact hf.each p (List.mem_of_mem_take h)
        · exact hfo p h
      · exact hf.each p (List.mem_of_mem_drop h)
    · conv => rhs; rw [rsp]
      rw [ex_app, ex_app, ex_app, hfe]
      simp [ex]
end
end Kc

set_option Elab.async false
set_option linter.all false
set_option maxRecDepth 100000
set_option maxHeartbeats 16000000
/-! the law: a far word changed -/
namespace Kc
open PySem PySem.Spec PyProof.Rows L2 Ke RZ FarM
abbrev sChanged : Stmt := topS 34
theorem scChanged : FnScope ["bag", "row", "way", "k", "u", "a", "spot"] ["bag", "row"] (defScope sChanged) := ⟨rfl, rfl, rfl, by decide +kernel, rfl, by decide +kernel, by decide +kernel⟩
section
variable {P : Program} {w : World} {K : PySem.W.Frag} {mg : Str → Option Value} {base : Heap}
def spChanged (K : PySem.W.Frag) : Sp := fun vs H Q _ => ∃ (b l : Addr) (n : Nat) (x : V) (row : Far), vs = [.ref b, x] ∧ BagAt H b l n ∧ n < 30000 ∧ RowL H b x row ∧ FarOk row ∧
  ∀ H' y row', Keep b H H' → BagAt H' b l (n + 8) → RowL H' b y row' → FarOk row' → Q y H'
def ChW (H : Hp) (b l : Addr) (n : Nat) (x : V) (way k spot : Nat) (ok : Bool) : L2.St → Hp → Prop := fun σ G => ∃ (u : List Nat) (a : Nat), σ = [some (.ref b), some x, some (.int (way : Int)), some (.int (k : Int)), some (.str (S u)), some (.int (a : Int)), some (.int (spot : Int))] ∧ WordOk u ∧ 1 ≤ a ∧ a ≤ 10 ^ 30 ∧ BagAt G b l n ∧ Keep b H G ∧ (ok = true → spot < u.length)
theorem ok_changed {f gO gD : Addr} {fd dO dD : FuncData} {k : Nat} (F : Fun K "_law_changed" "_law_changed" sChanged f fd) (M : PMg mg) (GO : FnOk P w K mg base CX0 (k + 2) gO dO ["bag", "some"] (spOf K)) (mO : mg "_law_of" = some (.ref gO)) (kO : PySem.W.keepIn K (.ref gO) = true) (bO : Binds K dO ["bag", "some"] [])
    (GD : FnOk P w K mg base CX0 (k + 1) gD dD ["bag", "top"] spDraw) (mD : mg "_law_draw" = some (.ref gD)) (kD : PySem.W.keepIn K (.ref gD) = true) (bD : Binds K dD ["bag", "top"] []) : FnOk P w K mg base CX0 (k + 3) f fd ["bag", "row"] (spChanged K) := by
  refine F.ok scChanged (fun vs H Q E h => ?_) (fun cdv A outer s H vs Q E hr h => ?_)
  · obtain ⟨b, l, n, x, row, rfl, _⟩ := h
    rfl
  · obtain ⟨b, l, n, x, row, rfl, hb, hn, ⟨rp', rts, rfl, hrb, hrl, hrp⟩, hf, q⟩ := h
    have hr1 := hr.mono (show k + 1 ≤ k + 2 by omega)
    refine ⟨_, pss_cons (ps_set (i := 2) scChanged.nd rfl (Or.inl rfl) (pe_call GD hr1 (by rfl) mD kD bD .nil pass0 (pa_cons (pv 0) (pa_cons pe_int pa_nil))))
      (C8.pss_cut (ps_if (PW.pt (pw_or (pt_cmpR op_eq (pv 2) pe_int (nomark _)) (pw_or1 (pt_cmpR (op_eqD hr.units) (pv 1) (pe_lst pa_nil) (nomark _))))) (pss_one (ps_ret (pe_ifExp (pt_cmpR op_lt (pe_callB call_len (by rfl) M.len PySem.boot_len (pa_cons (pv 1) pa_nil)) pe_int (nomark _)) (pe_op op_cat (pv 1) (pe_lst (pa_cons (pe_tup (pa_cons (pe_call GO hr (by rfl) mO kO bO .nil pass0 (pa_cons (pv 0) (pa_cons pe_str pa_nil))) (pa_cons pe_int pa_nil))) pa_nil))) (pv 1)))) pss_nil)
      (pss_cons (ps_set (i := 3) scChanged.nd rfl (Or.inl rfl) (pe_call GD hr1 (by rfl) mD kD bD .nil pass0 (pa_cons (pv 0) (pa_cons (pe_callB call_len (by rfl) M.len PySem.boot_len (pa_cons (pv 1) pa_nil)) pa_nil))))
      (pss_cons (ps_asg (pe_ix ix_list (pv 1) (pv 3) (fun _ _ => rfl)) (pg_tup rfl (pgs_cons (pg_name (i := 4) scChanged.nd rfl (Or.inl rfl)) (pgs_cons (pg_name (i := 5) scChanged.nd rfl (Or.inl rfl)) pgs_nil))))
      (pss_cons (ps_set (i := 6) scChanged.nd rfl (Or.inl rfl) (pe_call GD hr1 (by rfl) mD kD bD .nil pass0 (pa_cons (pv 0) (pa_cons (pe_callB call_len (by rfl) M.len PySem.boot_len (pa_cons (pv 4) pa_nil)) pa_nil))))
      (C8.pss_cut (ps_if (pt_cmpR op_eq (pv 2) pe_int (nomark _)) (pss_one (ps_set (i := 4) scChanged.nd rfl (Or.inl rfl) (pe_op op_add_str (pe_op op_add_str (pe_slice sl_str (pv 4) po_none (po_some (pv 6))) (pe_call GO hr (by rfl) mO kO bO .nil pass0 (pa_cons (pv 0) (pa_cons pe_str pa_nil)))) (pe_slice sl_str (pv 4) (po_some (pe_op op_add (pv 6) pe_int)) po_none)))) pss_nil)
      (C8.pss_cut (ps_if (PW.pt (pw_and (pt_cmpR op_eq (pv 2) pe_int (nomark _)) (pw_and1 (pt_cmpR op_gt (pe_callB call_len (by rfl) M.len PySem.boot_len (pa_cons (pv 4) pa_nil)) pe_int (nomark _))))) (pss_one (ps_set (i := 4) scChanged.nd rfl (Or.inl rfl) (pe_op op_add_str (pe_slice sl_str (pv 4) po_none (po_some (pv 6))) (pe_slice sl_str (pv 4) (po_some (pe_op op_add (pv 6) pe_int)) po_none)))) pss_nil)
      (C8.pss_cut (ps_if (pt_cmpR op_eq (pv 2) pe_int (nomark _)) (pss_one (ps_set (i := 5) scChanged.nd rfl (Or.inl rfl) (pe_ifExp (pt_cmpR op_lt (pv 5) (pe_op op_pow pe_int pe_int) (nomark _)) (pe_op op_add (pv 5) pe_int) (pe_op op_sub (pv 5) pe_int)))) pss_nil)
      (C8.pss_cut (ps_if (PW.pt (pw_and (pt_cmpR op_eq (pv 2) pe_int (nomark _)) (pw_and1 (pt_cmpR op_gt (pv 5) pe_int (nomark _))))) (pss_one (ps_set (i := 5) scChanged.nd rfl (Or.inl rfl) (pe_op op_sub (pv 5) pe_int))) pss_nil)
      (pss_cons (ps_if (pt_cmpR op_eq (pv 2) pe_int (nomark _)) (pss_one (ps_ret (pe_op op_cat (pe_slice sl_list (pv 1) po_none (po_some (pv 3))) (pe_slice sl_list (pv 1) (po_some (pe_op op_add (pv 3) pe_int)) po_none)))) pss_nil)
      (pss_one (ps_ret (pe_op op_cat (pe_op op_cat (pe_slice sl_list (pv 1) po_none (po_some (pv 3))) (pe_lst (pa_cons (pe_tup (pa_cons (pv 4) (pa_cons (pv 5) pa_nil))) pa_nil))) (pe_slice sl_list (pv 1) (po_some (pe_op op_add (pv 3) pe_int)) po_none))))))))))))), ?_⟩
    have lrow := hf.len
    have lts := hrp.len
    have t30 : (10 : Nat) ^ 30 = 1000000000000000000000000000000 := by decide +kernel
    have e30 : ((10 : Int) ^ (30 : Int).toNat) = 1000000000000000000000000000000 := by decide +kernel
    refine ⟨.ref b, rfl, b, l, n, 6, rfl, hb, nOk (by omega), by decide, topOk (by decide), fun o1 way' hb1 _ w0 w1 => ?_⟩
    obtain ⟨way, rfl⟩ : ∃ m : Nat, way' = (m : Int) := ⟨way'.toNat, (Int.toNat_of_nonneg w0).symm⟩
    have K1 : Keep b H (upd H b o1) := Keep.rfl'.upd
    have rowJ : ∀ {J : Hp}, Keep b H J → J rp' = some (.lst (rts.map V.ref)) ∧ PairsAt J rts row := fun kj => ⟨kj _ _ hrb hrl, (by obtain ⟨ys, hy⟩ := hb.lst; exact hrp.keep hy kj)⟩
    generalize upd H b o1 = G1 at *
    have lenR : (rts.map V.ref).length = row.length := by rw [List.length_map, lts]
    refine ⟨fun σ G => σ = [some (.ref b), some (.ref rp'), some (.int (way : Int)), none, none, none, none] ∧ BagAt G b l (n + 1) ∧ Keep b H G ∧ row ≠ [], ?_, ?_⟩
    · have end0 : ∀ {J : Hp} {y : V}, Keep b H J → BagAt J b l (n + 1) → y = .ref rp' → Q y J := fun kj bj ey => by
        subst ey
        have ⟨h1, h2⟩ := rowJ kj
        exact q _ _ row kj (bj.up (by omega)) ⟨rp', rts, rfl, hrb, h1, h2⟩ hf
      have end1 : ∀ {J : Hp} {c : Nat} {N B E : Addr} {o : HO}, Keep b H J → BagAt (upd J b o) b l (n + 2) → 97 ≤ c ∧ c ≤ 100 → upd J b o N = none → upd (upd J b o) N (.tup [.str (S [c]), .int 1]) B = none → upd (upd (upd J b o) N (.tup [.str (S [c]), .int 1])) B (.lst [.ref N]) E = none → row.length < 6 →
          Q (.ref E) (upd (upd (upd (upd J b o) N (.tup [.str (S [c]), .int 1])) B (.lst [.ref N])) E (.lst (rts.map V.ref ++ [.ref N]))) := fun {J c N B E o} kj bj hc nN nB nE hl => by
        have kE := ((kj.upd (o := o)).new nN (o := .tup [.str (S [c]), .int 1])).new nB (o := .lst [.ref N])
        have bE := (bj.add nN (o := .tup [.str (S [c]), .int 1])).add nB (o := .lst [.ref N])
        have kE2 := kE.new nE (o := .lst (rts.map V.ref ++ [.ref N]))
        have ⟨_, hpE⟩ := rowJ kE2
        refine q _ _ (row ++ [([c], 1)]) kE2 ((bE.add nE).up (by omega)) ⟨E, rts ++ [N], rfl, bE.ne nE, ?_, ?_⟩ ⟨?_, ?_⟩
        · rw [upd_same, List.map_append]; rfl
        · exact PairsAt.snoc (p := ([c], 1)) (same_new nE _ _ (same_new nB _ _ upd_same)) hpE
        · rw [List.length_append]; show row.length + 1 ≤ 7; omega
        · intro p hp
          rcases List.mem_append.1 hp with h | h
          · exact hf.each p h
          · simp at h
            subst h
            exact ⟨⟨by simp, by show 1 ≤ 40; omega, fun d hd => by simp at hd; subst hd; exact hc⟩, by show 1 ≤ 1; omega, by show 1 ≤ 10 ^ 30; omega⟩
      refine ⟨.int way, rfl, rfl, _, rfl, ite2 (fun e => iteT ?_) (fun e => ?_)⟩
      · have ⟨hrG, hpG⟩ := rowJ K1
        refine ⟨.ref rp', rfl, .ref rp', row.length, rfl, .inl ⟨_, .inl (.inl hrG), lenR.symm⟩, _, _, rfl, rfl, _, rfl, ite2 (fun e2 => ?_) (fun e2 => ⟨.ref rp', rfl, end0 K1 hb1 rfl⟩)⟩
        have h6 : (row.length : Int) < 6 := of_decide_eq_true e2
        refine ⟨.ref rp', rfl, .ref b, rfl, b, l, n + 1, .str "abcd", rfl, hb1, nOk (by omega), .inr ⟨"abcd", rfl, by decide, by decide, fun o5 c hb5 _ hc => ⟨by show 2 ≤ sizeLine; decide, fun N nN => ⟨by show 1 ≤ sizeLine; decide, fun B nB => ?_⟩⟩⟩⟩
        have kE := ((K1.upd (o := o5)).new nN (o := .tup [.str (S [c]), .int 1])).new nB (o := .lst [.ref N])
        have ⟨hrE, _⟩ := rowJ kE
        exact ⟨rp', B, _, _, rfl, rfl, hrE, upd_same, by rw [lenR]; exact small (by show row.length + 1 ≤ 5000; omega), fun E nE => end1 K1 hb5 (abcd_mem hc) nN nB nE (by omega)⟩
      · have ⟨hrG, hpG⟩ := rowJ K1
        refine ⟨.ref rp', rfl, by show 0 ≤ sizeLine; decide, fun c1 nc1 => ⟨_, _, .lst (.inl (.inl (same_new nc1 _ _ hrG))) (dRow_dp (hpG.same (same_new nc1))), .lst (.inl (.inl upd_same)) .nil, dRow_shaped (fun p hp => (hf.w p hp).2.2.2), rfl, _, rfl, ?_⟩⟩
        have K2 := K1.new nc1 (o := .lst [])
        have b2 := hb1.add nc1 (o := .lst [])
        generalize upd G1 c1 (.lst []) = G2 at *
        by_cases hne : row = []
        · rw [show PyData.eqv (.list (dRow row)) (.list []) = true by rw [hne]; rfl]
          refine iteT ?_
          have ⟨hrG, hpG⟩ := rowJ K2
          refine ⟨.ref rp', rfl, .ref rp', row.length, rfl, .inl ⟨_, .inl (.inl hrG), lenR.symm⟩, _, _, rfl, rfl, _, rfl, ite2 (fun e2 => ?_) (fun e2 => ⟨.ref rp', rfl, end0 K2 b2 rfl⟩)⟩
          have h6 : (row.length : Int) < 6 := of_decide_eq_true e2
          refine ⟨.ref rp', rfl, .ref b, rfl, b, l, n + 1, .str "abcd", rfl, b2, nOk (by omega), .inr ⟨"abcd", rfl, by decide, by decide, fun o5 c hb5 _ hc => ⟨by show 2 ≤ sizeLine; decide, fun N nN => ⟨by show 1 ≤ sizeLine; decide, fun B nB => ?_⟩⟩⟩⟩
          have kE := ((K2.upd (o := o5)).new nN (o := .tup [.str (S [c]), .int 1])).new nB (o := .lst [.ref N])
          have ⟨hrE, _⟩ := rowJ kE
          exact ⟨rp', B, _, _, rfl, rfl, hrE, upd_same, by rw [lenR]; exact small (by show row.length + 1 ≤ 5000; omega), fun E nE => end1 K2 hb5 (abcd_mem hc) nN nB nE (by omega)⟩
        · rw [show PyData.eqv (.list (dRow row)) (.list []) = false by cases row with | nil => exact absurd rfl hne | cons => rfl]
          exact iteF ⟨rfl, b2, K2, hne⟩
    rintro σ G ⟨rfl, gb, gk, hne⟩
    have hpos : 0 < row.length := List.length_pos_iff.2 hne
    have ⟨hrG, hpG⟩ := rowJ gk
    refine ⟨.ref b, rfl, .ref rp', rfl, .ref rp', row.length, rfl, .inl ⟨_, .inl (.inl hrG), lenR.symm⟩, b, l, n + 1, _, rfl, gb, nOk (by omega), by omega, topOk (Nat.lt_of_lt_of_le (show ((row.length : Int)).natAbs < 100 by omega) (by decide)), fun o2 k' hb3 _ k0 k1 => ?_⟩
    obtain ⟨kk, rfl⟩ : ∃ m : Nat, k' = (m : Int) := ⟨k'.toNat, (Int.toNat_of_nonneg k0).symm⟩
    have hk : kk < row.length := by omega
    have K3 : Keep b H (upd G b o2) := gk.upd
    generalize upd G b o2 = G3 at *
    obtain ⟨t, ht⟩ : ∃ t, rts[kk]? = some t := ⟨_, List.getElem?_eq_getElem (by omega)⟩
    have ⟨hr3, hp3⟩ := rowJ K3
    obtain ⟨⟨u, a⟩, hua, hcell⟩ := hp3.get ht
    have ⟨wu, a1, a2⟩ := hf.each (u, a) (List.mem_of_getElem? hua)
    simp only at wu a1 a2 hcell
    have hlu := wu.2.1
    have h0u : 0 < u.length := List.length_pos_iff.2 wu.1
    have eTh : atI (rts.map V.ref) (kk : Int) = some (.ref t) := at_nat (by rw [List.getElem?_map, ht]; rfl)
    refine ⟨.ref rp', rfl, .int kk, rfl, rp', _, kk, .ref t, rfl, rfl, .inl (.inl hr3), eTh, t, [.str (S u), .int a], rfl, .inl (.inl hcell), rfl, .str (S u), [.int a], rfl, .int a, [], rfl, rfl, ?_⟩
    refine ⟨.ref b, rfl, .str (S u), rfl, .str (S u), u.length, rfl, lenS (by omega), b, l, n + 2, _, rfl, hb3, nOk (by omega), by omega, topOk (Nat.lt_of_lt_of_le (show ((u.length : Int)).natAbs < 100 by omega) (by decide)), fun o4 sp' hb4 _ s0 s1 => ?_⟩
    obtain ⟨spot, rfl⟩ : ∃ m : Nat, sp' = (m : Int) := ⟨sp'.toNat, (Int.toNat_of_nonneg s0).symm⟩
    have hsp : spot < u.length := by omega
    have K4 : Keep b H (upd G3 b o4) := K3.upd
    generalize upd G3 b o4 = G4 at *
    refine ⟨ChW H b l (n + 4) (.ref rp') way kk spot true, ?_, ?_⟩
    · refine ⟨.int way, rfl, rfl, _, rfl, ite2 (fun e => ?_) (fun e => ⟨u, a, rfl, wu, a1, a2, hb4.up (by omega), K4, fun _ => hsp⟩)⟩
      have lS : (S u).length ≤ sizeLine := by rw [S_len]; exact small (by omega)
      refine ⟨.str (S u), rfl, .int spot, rfl, spot, rfl, S u, rfl, lS, ?_⟩
      rw [cut_to]
      refine ⟨.ref b, rfl, b, l, n + 3, .str "abcd", rfl, hb4, nOk (by omega), .inr ⟨"abcd", rfl, by decide, by decide, fun o5 c hb5 _ hc => ?_⟩⟩
      have hc := abcd_mem hc
      refine ⟨S (u.take spot), S [c], rfl, rfl, by rw [S_len, S_len, List.length_take]; exact small (by show min spot u.length + 1 ≤ 5000; omega), ?_⟩
      rw [S_app]
      refine ⟨.str (S u), rfl, .int spot, rfl, spot, 1, rfl, rfl, ((spot + 1 : Nat) : Int), rfl, S u, rfl, lS, ?_⟩
      rw [cut_from]
      refine ⟨S (u.take spot ++ [c]), S (u.drop (spot + 1)), rfl, rfl, by rw [S_len, S_len, List.length_append, List.length_take, List.length_drop]; exact small (by show min spot u.length + 1 + (u.length - (spot + 1)) ≤ 5000; omega), ?_⟩
      rw [S_app]
      have ln : (u.take spot ++ [c] ++ u.drop (spot + 1)).length = u.length := by
        rw [List.length_append, List.length_append, List.length_take, List.length_drop]
        show min spot u.length + 1 + (u.length - (spot + 1)) = u.length
        omega
      refine ⟨u.take spot ++ [c] ++ u.drop (spot + 1), a, rfl, ⟨fun z => ?_, by rw [ln]; exact hlu, fun d hd => ?_⟩, a1, a2, hb5, K4.upd, fun _ => by rw [ln]; exact hsp⟩
      · rw [z, List.length_nil] at ln; omega
      · rcases List.mem_append.1 hd with h | h
        · rcases List.mem_append.1 h with h | h
          · exact wu.2.2 d (List.mem_of_mem_take h)
          · simp at h; subst h; exact hc
        · exact wu.2.2 d (List.mem_of_mem_drop h)
    clear hcell hb4 K4 hsp a1 a2 wu hlu h0u hua s1
    rintro σ G ⟨u, a, rfl, wu, a1, a2, gb, gk, hsp⟩
    have hsp := hsp rfl
    have hlu := wu.2.1
    refine ⟨ChW H b l (n + 4) (.ref rp') way kk spot false, ?_, ?_⟩
    · refine ⟨.int way, rfl, rfl, _, rfl, ite2 (fun e => ?_) (fun e => iteF ⟨u, a, rfl, wu, a1, a2, gb, gk, fun z => by cases z⟩)⟩
      refine ⟨.str (S u), rfl, .str (S u), u.length, rfl, lenS (by omega), _, _, rfl, rfl, _, rfl, ite2 (fun e2 => ?_) (fun e2 => ⟨u, a, rfl, wu, a1, a2, gb, gk, fun z => by cases z⟩)⟩
      have hl1 : (1 : Int) < u.length := of_decide_eq_true e2
      have lS : (S u).length ≤ sizeLine := by rw [S_len]; exact small (by omega)
      refine ⟨.str (S u), rfl, .int spot, rfl, spot, rfl, S u, rfl, lS, .str (S u), rfl, .int spot, rfl, spot, 1, rfl, rfl, ((spot + 1 : Nat) : Int), rfl, S u, rfl, lS, ?_⟩
      rw [cut_to, cut_from]
      refine ⟨S (u.take spot), S (u.drop (spot + 1)), rfl, rfl, by rw [S_len, S_len, List.length_take, List.length_drop]; exact small (by omega), ?_⟩
      rw [S_app]
      have ln : (u.take spot ++ u.drop (spot + 1)).length = u.length - 1 := by
        rw [List.length_append, List.length_take, List.length_drop]
        omega
      refine ⟨u.take spot ++ u.drop (spot + 1), a, rfl, ⟨fun z => ?_, by rw [ln]; omega, fun d hd => ?_⟩, a1, a2, gb, gk, fun z => by cases z⟩
      · rw [z, List.length_nil] at ln; omega
      · exact (List.mem_append.1 hd).elim (fun h => wu.2.2 d (List.mem_of_mem_take h)) (fun h => wu.2.2 d (List.mem_of_mem_drop h))
    clear gb gk hsp a1 a2 wu hlu
    rintro σ G ⟨u, a, rfl, wu, a1, a2, gb, gk, _⟩
    refine ⟨ChW H b l (n + 4) (.ref rp') way kk spot false, ?_, ?_⟩
    · refine ⟨.int way, rfl, rfl, _, rfl, ite2 (fun e => ?_) (fun e => ⟨u, a, rfl, wu, a1, a2, gb, gk, fun z => by cases z⟩)⟩
      refine ⟨.int a, rfl, 10, 30, rfl, rfl, ⟨by decide, by decide, by decide⟩, _, _, rfl, rfl, ?_⟩
      generalize hten : (10 : Int) ^ (30 : Int).toNat = ten at *
      refine ⟨decide ((a : Int) < ten), rfl, ite2 (fun e2 => ?_) (fun e2 => ?_)⟩
      · have h : (a : Int) < ten := of_decide_eq_true e2
        rw [e30] at h
        refine ⟨.int a, rfl, a, 1, rfl, rfl, u, a + 1, ?_, wu, by omega, by omega, gb, gk, fun z => by cases z⟩
        rw [Int.natCast_add]
        rfl
      · have h : ¬ (a : Int) < ten := fun z => e2 (decide_eq_true z)
        rw [e30] at h
        refine ⟨.int a, rfl, a, 1, rfl, rfl, u, a - 1, ?_, wu, by omega, by omega, gb, gk, fun z => by cases z⟩
        rw [Int.natCast_sub (by omega)]
        rfl
    clear gb gk a1 a2 wu
    rintro σ G ⟨u, a, rfl, wu, a1, a2, gb, gk, _⟩
    refine ⟨ChW H b l (n + 4) (.ref rp') way kk spot false, ?_, ?_⟩
    · refine ⟨.int way, rfl, rfl, _, rfl, ite2 (fun e => ?_) (fun e => iteF ⟨u, a, rfl, wu, a1, a2, gb, gk, fun z => by cases z⟩)⟩
      refine ⟨.int a, rfl, _, _, rfl, rfl, _, rfl, ite2 (fun e2 => ?_) (fun e2 => ⟨u, a, rfl, wu, a1, a2, gb, gk, fun z => by cases z⟩)⟩
      have h : (1 : Int) < a := of_decide_eq_true e2
      refine ⟨.int a, rfl, a, 1, rfl, rfl, u, a - 1, ?_, wu, by omega, by omega, gb, gk, fun z => by cases z⟩
      rw [Int.natCast_sub (by omega)]
      rfl
    clear gb gk a1 a2 wu
    rintro σ G ⟨u, a, rfl, wu, a1, a2, gb, gk, _⟩
    have ⟨hrG, hpG⟩ := rowJ gk
    refine ⟨.int way, rfl, rfl, _, rfl, ite2 (fun e => ?_) (fun e => ?_)⟩
    · refine ⟨.ref rp', rfl, .int kk, rfl, kk, rfl, rp', _, rfl, .inl (.inl hrG), fun A1 nA => ?_⟩
      rw [cut_listTo]
      have kA := gk.new nA (o := .lst ((rts.map V.ref).take kk))
      have ⟨hrA, _⟩ := rowJ kA
      refine ⟨.ref rp', rfl, .int kk, rfl, kk, 1, rfl, rfl, ((kk + 1 : Nat) : Int), rfl, rp', _, rfl, .inl (.inl hrA), fun D nD => ?_⟩
      rw [cut_list]
      refine ⟨A1, D, _, _, rfl, rfl, same_new nD _ _ upd_same, upd_same, by rw [List.length_take, List.length_drop, lenR]; exact small (by omega), fun E nE => ?_⟩
      have kE := (kA.new nD (o := .lst ((rts.map V.ref).drop (kk + 1)))).new nE (o := .lst ((rts.map V.ref).take kk ++ (rts.map V.ref).drop (kk + 1)))
      have bD := (gb.add nA (o := .lst ((rts.map V.ref).take kk))).add nD (o := .lst ((rts.map V.ref).drop (kk + 1)))
      have ⟨_, hpE⟩ := rowJ kE
      refine q _ _ (row.take kk ++ row.drop (kk + 1)) kE ((bD.add nE).up (by omega)) ⟨E, rts.take kk ++ rts.drop (kk + 1), rfl, bD.ne nE, ?_, ?_⟩ ⟨?_, ?_⟩
      · rw [upd_same, List.map_append, List.map_take, List.map_drop]
      · exact PairsAt.app hpE.drop hpE.take
      · rw [List.length_append, List.length_take, List.length_drop]; omega
      · intro p hp
        exact (List.mem_append.1 hp).elim (fun h => hf.each p (List.mem_of_mem_take h)) (fun h => hf.each p (List.mem_of_mem_drop h))
    · refine ⟨.ref rp', rfl, .int kk, rfl, kk, rfl, rp', _, rfl, .inl (.inl hrG), fun A1 nA => ?_⟩
      rw [cut_listTo]
      refine ⟨.str (S u), rfl, .int a, rfl, by show 2 ≤ sizeLine; decide, fun N nN => ⟨by show 1 ≤ sizeLine; decide, fun B nB => ?_⟩⟩
      have kB := ((gk.new nA (o := .lst ((rts.map V.ref).take kk))).new nN (o := .tup [.str (S u), .int (a : Int)])).new nB (o := .lst [.ref N])
      have bB := ((gb.add nA (o := .lst ((rts.map V.ref).take kk))).add nN (o := .tup [.str (S u), .int (a : Int)])).add nB (o := .lst [.ref N])
      have hA : upd (upd (upd G A1 (.lst ((rts.map V.ref).take kk))) N (.tup [.str (S u), .int (a : Int)])) B (.lst [.ref N]) A1 = some (.lst ((rts.map V.ref).take kk)) := same_new nB _ _ (same_new nN _ _ upd_same)
      have hNc : upd (upd (upd G A1 (.lst ((rts.map V.ref).take kk))) N (.tup [.str (S u), .int (a : Int)])) B (.lst [.ref N]) N = some (.tup [.str (S u), .int (a : Int)]) := same_new nB _ _ upd_same
      have hB : upd (upd (upd G A1 (.lst ((rts.map V.ref).take kk))) N (.tup [.str (S u), .int (a : Int)])) B (.lst [.ref N]) B = some (.lst [.ref N]) := upd_same
      generalize upd (upd (upd G A1 (.lst ((rts.map V.ref).take kk))) N (.tup [.str (S u), .int (a : Int)])) B (.lst [.ref N]) = J at *
      refine ⟨A1, B, _, _, rfl, rfl, hA, hB, by rw [List.length_take, lenR]; exact small (by show min kk row.length + 1 ≤ 5000; omega), fun C nC => ?_⟩
      have kC := kB.new nC (o := .lst ((rts.map V.ref).take kk ++ [.ref N]))
      have ⟨hrC, hpC⟩ := rowJ kC
      refine ⟨.ref rp', rfl, .int kk, rfl, kk, 1, rfl, rfl, ((kk + 1 : Nat) : Int), rfl, rp', _, rfl, .inl (.inl hrC), fun D nD => ?_⟩
      rw [cut_list]
      refine ⟨C, D, _, _, rfl, rfl, same_new nD _ _ upd_same, upd_same, by rw [List.length_append, List.length_take, List.length_drop, lenR]; exact small (by show min kk row.length + 1 + (row.length - (kk + 1)) ≤ 5000; omega), fun E nE => ?_⟩
      have kE := (kC.new nD (o := .lst ((rts.map V.ref).drop (kk + 1)))).new nE (o := .lst ((rts.map V.ref).take kk ++ [.ref N] ++ (rts.map V.ref).drop (kk + 1)))
      have bD := (bB.add nC (o := .lst ((rts.map V.ref).take kk ++ [.ref N]))).add nD (o := .lst ((rts.map V.ref).drop (kk + 1)))
      have ⟨_, hpE⟩ := rowJ kE
      refine q _ _ (row.take kk ++ [(u, a)] ++ row.drop (kk + 1)) kE ((bD.add nE).up (by omega)) ⟨E, rts.take kk ++ [N] ++ rts.drop (kk + 1), rfl, bD.ne nE, ?_, ?_⟩ ⟨?_, ?_⟩
      · rw [upd_same, List.map_append, List.map_append, List.map_take, List.map_drop]
        rfl
      · exact PairsAt.app hpE.drop (PairsAt.snoc (p := (u, a)) (same_new nE _ _ (same_new nD _ _ (same_new nC _ _ hNc))) hpE.take)
      · rw [List.length_append, List.length_append, List.length_take, List.length_drop]
        show min kk row.length + 1 + (row.length - (kk + 1)) ≤ 7
        omega
      · intro p hp
        rcases List.mem_append.1 hp with h | h
        · rcases List.mem_append.1 h with h | h
          · exact hf.each p (List.mem_of_mem_take h)
          · simp at h; subst h; exact ⟨wu, a1, a2⟩
        · exact hf.each p (List.mem_of_mem_drop h)
end
end Kc

set_option Elab.async false
set_option linter.all false
set_option maxRecDepth 100000
set_option maxHeartbeats 16000000
/-! the law -/
namespace Kc
open PySem PySem.Spec PyProof.Rows L2 Ke RZ FarM
abbrev sLaw : Stmt := topS 35
def nLaw : List Str := ["script", "bag", "turn", "p", "q", "k", "equal_y", "s", "t", "due", "sizes", "found", "c", "d", "n", "u", "a"]
theorem scLaw : FnScope ["script", "bag", "turn", "p", "q", "k", "equal_y", "s", "t", "due", "sizes", "found", "c", "d", "n", "u", "a"] ["script"] (defScope sLaw) := ⟨rfl, rfl, rfl, by decide +kernel, rfl, by decide +kernel, by decide +kernel⟩
section
variable {X : Cx} {CX : CXT} {k : Nat} {f : Addr} {fd : FuncData} {ps ks : List Str} {sp : Sp} {E : XK} {x : Str} {p pos : Pos} {kws : List Keyword} {tk : TA} {g : List Value → List Value → List Value} {gV : List V → List V → List V}
theorem pe_callK0 (F : FnOk X.prog X.w X.K X.mg X.base CX k f fd ps sp) (hr : Room k X.A) (hg : Gl X x) (hm : X.mg x = some (.ref f)) (hk : PySem.W.keepIn X.K (.ref f) = true) (hb : KBinds X.K fd ps ks g gV) (hx : Passes CX X E)
    (hkw : PK X kws tk) (hall : (backToKw pos (keywordEach kws X.env)).all (·.1.isSome) = true := by rfl) (hks : (backToKw pos (keywordEach kws X.env)).filterMap (·.1) = ks := by rfl)
    (hdb : (x == ("__debug__" : Str)) = false := by decide)
    (hpl : ((backTo pos (starEach [] X.env)).any (·.1) || (backToKw pos (keywordEach kws X.env)).any (·.1.isNone)) = false := by rfl) :
    PE X (.Call (.Name x p) [] kws pos) (fun σ H Q => tk σ H fun zs H2 => sp (gV [] zs) H2 Q E) := by
  refine ⟨fun pins s σ H Q I h => ?_⟩
  refine wpAny_Call_Name_kw (ld_glob I hg hm ?_ hdb)
  refine PySem.W.callWith_KW0 (h₀ := X.base) I.ok.mod.kin hk hall (thn (hkw.run pos pins s σ H _ I h) fun ws s2 ⟨zs, H2, I2, rz, q2⟩ => ⟨I2.kIn, ?_⟩) hpl
  rw [hks]
  exact run_fnk F hr hb hx I2 .nil rz q2
end
def turnG : List Value → List Value → List Value
  | [], [a, b] => [b, a]
  | _, _ => []
def turnV : List V → List V → List V
  | [], [a, b] => [b, a]
  | _, _ => []
theorem turn_rel {vs : List V} {us : List Value} {zs : List V} {ws : List Value} (h : Vals vs us) (k : Vals zs ws) : Vals (turnV vs zs) (turnG us ws) := by
  cases h with
  | cons _ _ => exact .nil
  | nil =>
    cases k with
    | nil => exact .nil
    | cons a k =>
      cases k with
      | nil => exact .nil
      | cons b k =>
        cases k with
        | nil => exact .cons b (.cons a .nil)
        | cons _ _ => exact .nil
theorem Fun.turn {K : PySem.W.Frag} {f : Addr} {fd : FuncData} (F : Fun K "compare" "compare" sCompare f fd) : KBinds K fd ["one", "other"] ["other", "one"] turnG turnV := by
  obtain ⟨oc, od, kV, doc, pm, an, cdv, ct, osl, rfl, lk, hcd⟩ := F.ex
  refine ⟨fun s us ws _ hl => ?_, turn_rel⟩
  match us, ws, hl with
  | [], [a, b], _ => exact .of_eq rfl
structure LMg (mg : Str → Option Value) : Prop extends PMg mg where
  abs : mg "abs" = none
  range : mg "range" = none
  max : mg "max" = none
def spLaw (K : PySem.W.Frag) : Sp := fun vs H Q _ => ∃ (a : Addr) (ns : List Int), vs = [.ref a] ∧ SqL K H a (ns.map V.int) ∧ ns.length ≤ 63 ∧ ∀ H', Q (.bl true) H'
structure Cal2 (P : Program) (w : World) (K : PySem.W.Frag) (mg : Str → Option Value) (base : Heap) (k : Nat) (x : Str) (ps : List Str) (sp : Sp) (f : Addr) (fd : FuncData) : Prop where
  G : FnOk P w K mg base CX0 k f fd ps sp
  m : mg x = some (.ref f)
  k : PySem.W.keepIn K (.ref f) = true
  b : Binds K fd ps []
variable {P : Program} {w : World} {K : PySem.W.Frag} {mg : Str → Option Value} {base : Heap}
theorem size_le : ∀ {row : Far}, (∀ p ∈ row, p.1.length ≤ 40 ∧ p.2 ≤ 10 ^ 30) → size row ≤ row.length * (40 * 10 ^ 30)
  | [], _ => Nat.zero_le _
  | (u, a) :: r, h => by
    have h1 := size_le fun q hq => h q (List.mem_cons_of_mem _ hq)
    have ⟨h2, h3⟩ := h (u, a) List.mem_cons_self
    have h4 : u.length * a ≤ 40 * 10 ^ 30 := Nat.mul_le_mul h2 h3
    rw [size, List.length_cons, Nat.add_mul, Nat.one_mul]
    omega
theorem part_le : ∀ {row : Far} {p : List Nat × Nat}, p ∈ row → p.1.length * p.2 ≤ size row
  | (u, a) :: r, p, h => by
    rcases List.mem_cons.1 h with h | h
    · subst h
      exact Nat.le_add_right _ _
    · exact Nat.le_trans (part_le h) (Nat.le_add_left _ _)
def wordsOf (row : Far) : List (List Nat) := row.map fun p => rp p.1 p.2
theorem words_ex : ∀ row : Far, (wordsOf row).flatten = ex row
  | [] => rfl
  | (u, a) :: r => by
    have := words_ex r
    unfold wordsOf at this ⊢
    rw [List.map_cons, List.flatten_cons, this]
    rfl
theorem words_sum : ∀ row : Far, (((wordsOf row).map S).map (·.length)).sum = size row
  | [] => rfl
  | (u, a) :: r => by
    have := words_sum r
    unfold wordsOf at this ⊢
    rw [List.map_cons, List.map_cons, List.map_cons, List.sum_cons, this, S_len, rp_len]
    rfl
theorem cmp_int (p q : List Nat) : ((if decide ((S q).cps.toList < (S p).cps.toList) = true then (1 : Int) else 0) - (if decide ((S p).cps.toList < (S q).cps.toList) = true then (1 : Int) else 0)) = cmpT p q := by
  rw [S_list, S_list]
  unfold cmpT
  by_cases e : p = q
  · subst e
    have : ¬ p < p := fun z => lt_asymm' z z
    simp [this]
  · rw [if_neg e]
    by_cases g : p < q
    · have : ¬ q < p := lt_asymm' g
      simp [g, this]
    · have := lt_tot e g
      simp [g, this]
theorem ok_law {f : Addr} {fd : FuncData} (F : Fun K "law" "law" sLaw f fd) (M : LMg mg)
    {fB fD fO fS fF fR fH fC fL : Addr} {dB dD dO dS dF dR dH dC dL : FuncData} {gC gL gT gI : Addr} {hC hL hT hI : FuncData}
    (B : Cal2 P w K mg base 1 "_law_bag" ["script"] (spBag K) fB dB) (D : Cal2 P w K mg base 1 "_law_draw" ["bag", "top"] spDraw fD dD) (O : Cal2 P w K mg base 2 "_law_of" ["bag", "some"] (spOf K) fO dO)
    (Sm : Cal2 P w K mg base 5 "_law_same" ["found", "due"] (spSame K 4) fS dS) (Fi : Cal2 P w K mg base 4 "_law_first" ["bag"] (spFirst K) fF dF) (R : Cal2 P w K mg base 3 "_law_retold" ["bag", "row"] (spRetold K) fR dR) (Ch : Cal2 P w K mg base 3 "_law_changed" ["bag", "row"] (spChanged K) fH dH)
    (Co : Cal2 P w K mg base 2 "_law_compared" ["p", "q"] (spCompared K) fC dC) (Le : Cal2 P w K mg base 1 "_law_letter" ["row", "at_y"] spLetter fL dL)
    (C : Cal2 P w K mg base 6 "compare" ["one", "other"] (spCompare K) gC hC) (CK : KBinds K hC ["one", "other"] ["other", "one"] turnG turnV) (L : Cal2 P w K mg base 6 "far_length" ["far"] (spFarLen K) gL hL) (T : Cal2 P w K mg base 6 "far_letter" ["far", "at"] (spFarLet K) gT hT) (I : Cal2 P w K mg base 4 "is_far" ["value"] (spIsFar K) gI hI) :
    FnOk P w K mg base CX0 7 f fd ["script"] (spLaw K) := by
  refine F.ok scLaw (fun vs H Q E h => ?_) (fun cdv A outer s H vs Q E hr h => ?_)
  · obtain ⟨a, ns, rfl, _⟩ := h
    rfl
  · obtain ⟨sa, ns, rfl, hS, hlen, q⟩ := h
    have r1 := hr.mono (show 1 ≤ 6 by decide)
    have r2 := hr.mono (show 2 ≤ 6 by decide)
    have r3 := hr.mono (show 3 ≤ 6 by decide)
    have r4 := hr.mono (show 4 ≤ 6 by decide)
    have r5 := hr.mono (show 5 ≤ 6 by decide)
    refine ⟨_, pss_cons (ps_set (i := 1) scLaw.nd rfl (Or.inl rfl) (pe_call B.G r1 (by rfl) B.m B.k B.b .nil pass0 (pa_cons (pv 0) pa_nil)))
      (pss_cons (ps_for PassesOwn.never rfl (pi_range1 rfl M.range (pa_cons pe_int pa_nil)) (pg_name (i := 2) scLaw.nd rfl (Or.inl rfl))
        (pss_cons (ps_set (i := 3) scLaw.nd rfl (Or.inl rfl) (pe_call Fi.G r4 (by rfl) Fi.m Fi.k Fi.b .nil pass0 (pa_cons (pv 1) pa_nil)))
        (pss_cons (ps_set (i := 4) scLaw.nd rfl (Or.inl rfl) (pe_callTy call_list_of (by rfl) M.list (by decide +kernel) (pa_cons (pv 3) pa_nil)))
        (C8.pss_cut (ps_for PassesOwn.never rfl (pi_range1 rfl M.range (pa_cons (pe_call D.G r1 (by rfl) D.m D.k D.b .nil pass0 (pa_cons (pv 1) (pa_cons pe_int pa_nil))) pa_nil)) (pg_name (i := 5) scLaw.nd rfl (Or.inl rfl))
          (pss_one (ps_set (i := 4) scLaw.nd rfl (Or.inl rfl) (pe_call R.G r3 (by rfl) R.m R.k R.b .nil pass0 (pa_cons (pv 1) (pa_cons (pv 4) pa_nil))))))
        (pss_cons (ps_set (i := 6) scLaw.nd rfl (Or.inl rfl) (pe_cmpR op_lt (pv 2) pe_int (nomark _)))
        (C8.pss_cut (ps_if (pt_not (pt_val (pv 6)))
          (pss_cons (ps_set (i := 4) scLaw.nd rfl (Or.inl rfl) (pe_call Ch.G r3 (by rfl) Ch.m Ch.k Ch.b .nil pass0 (pa_cons (pv 1) (pa_cons (pv 4) pa_nil))))
          (pss_one (ps_set (i := 4) scLaw.nd rfl (Or.inl rfl) (pe_call R.G r3 (by rfl) R.m R.k R.b .nil pass0 (pa_cons (pv 1) (pa_cons (pv 4) pa_nil)))))) pss_nil)
        (C8.pss_cut (ps_par (i := 7) (j := 8) (by rfl) scLaw.nd rfl rfl (by decide) rfl rfl (pa_cons (pe_callTy call_tuple_of (by rfl) M.tuple (by decide +kernel) (pa_cons (pv 3) pa_nil)) (pa_cons (pe_callTy call_tuple_of (by rfl) M.tuple (by decide +kernel) (pa_cons (pv 4) pa_nil)) pa_nil)) (by rfl))
        (pss_cons (ps_set (i := 9) scLaw.nd rfl (Or.inl rfl) (pe_call Co.G r2 (by rfl) Co.m Co.k Co.b .nil pass0 (pa_cons (pv 7) (pa_cons (pv 8) pa_nil))))
        (C8.pss_cut (ps_set (i := 10) scLaw.nd rfl (Or.inl rfl) (pe_lst
          (pa_cons (pe_callB (cr_sum rfl) (by rfl) M.sum (by decide +kernel) (pa_cons (pe_lc (own := [("u", 15), ("a", 16)]) (g := gTup K 2 (gCons (gName 15) (gCons (gName 16) gNil))) (tt := tYes) rfl scLaw.nd (pi_tup (pv 7)) (blkOk_by (N := nLaw) (sc := defScope sLaw) (by decide +kernel)) (fun _ _ _ _ _ => pg_tup rfl (pgs_cons (pg_name (i := 15) scLaw.nd rfl (Or.inl rfl)) (pgs_cons (pg_name (i := 16) scLaw.nd rfl (Or.inl rfl)) pgs_nil))) (fun _ _ _ _ _ => pts_nil)
            (fun _ _ _ _ _ => pe_op op_mul (pe_callB (r := fun xs H Q => ∃ x n, xs = [x] ∧ LenV K x H n ∧ Q (V.int (n : Nat)) H) call_len (by rfl) M.len PySem.boot_len (pa_cons (pv 15) pa_nil)) (pv 16))) pa_nil))
          (pa_cons (pe_callB (cr_sum rfl) (by rfl) M.sum (by decide +kernel) (pa_cons (pe_lc (own := [("u", 15), ("a", 16)]) (g := gTup K 2 (gCons (gName 15) (gCons (gName 16) gNil))) (tt := tYes) rfl scLaw.nd (pi_tup (pv 8)) (blkOk_by (N := nLaw) (sc := defScope sLaw) (by decide +kernel)) (fun _ _ _ _ _ => pg_tup rfl (pgs_cons (pg_name (i := 15) scLaw.nd rfl (Or.inl rfl)) (pgs_cons (pg_name (i := 16) scLaw.nd rfl (Or.inl rfl)) pgs_nil))) (fun _ _ _ _ _ => pts_nil)
            (fun _ _ _ _ _ => pe_op op_mul (pe_callB (r := fun xs H Q => ∃ x n, xs = [x] ∧ LenV K x H n ∧ Q (V.int (n : Nat)) H) call_len (by rfl) M.len PySem.boot_len (pa_cons (pv 15) pa_nil)) (pv 16))) pa_nil)) pa_nil))))
        (C8.pss_cut (ps_if (PW.pt (pw_and (pt_val (pv 6)) (pw_and1 (PW.pt (pw_or (pt_cmpR op_ne (pv 9) pe_int (nomark _)) (pw_or1 (pt_cmpR op_ne (pe_ix ix_list (pv 10) pe_int (fun _ _ => rfl)) (pe_ix ix_list (pv 10) pe_int (fun _ _ => rfl)) (nomark _)))))))) (pss_one (ps_ret pe_bl)) pss_nil)
        (C8.pss_cut (ps_set (i := 11) scLaw.nd rfl (Or.inl rfl) (pe_lst (pa_cons (pe_call C.G hr (by rfl) C.m C.k C.b .nil pass0 (pa_cons (pv 7) (pa_cons (pv 8) pa_nil))) (pa_cons (pe_call C.G hr (by rfl) C.m C.k C.b .nil pass0 (pa_cons (pv 8) (pa_cons (pv 7) pa_nil))) (pa_cons (pe_callK0 C.G hr (by rfl) C.m C.k CK pass0 (pk_cons (pv 8) (pk_cons (pv 7) pk_nil))) (pa_cons (pe_call C.G hr (by rfl) C.m C.k C.b .nil pass0 (pa_cons (pv 7) (pa_cons (pv 7) pa_nil))) (pa_cons (pe_call L.G hr (by rfl) L.m L.k L.b .nil pass0 (pa_cons (pv 7) pa_nil)) (pa_cons (pe_call L.G hr (by rfl) L.m L.k L.b .nil pass0 (pa_cons (pv 8) pa_nil)) (pa_cons (pe_call I.G r4 (by rfl) I.m I.k I.b .nil pass0 (pa_cons (pv 7) pa_nil)) (pa_cons (pe_call I.G r4 (by rfl) I.m I.k I.b .nil pass0 (pa_cons (pv 8) pa_nil)) pa_nil))))))))))
        (pss_cons (ps_if (pt_not (pt_val (pe_call Sm.G r5 (by rfl) Sm.m Sm.k Sm.b .nil pass0 (pa_cons (pv 11) (pa_cons (pe_lst (pa_cons (pv 9) (pa_cons (pe_op op_sub pe_int (pv 9)) (pa_cons (pv 9) (pa_cons pe_int (pa_cons (pe_ix ix_list (pv 10) pe_int (fun _ _ => rfl)) (pa_cons (pe_ix ix_list (pv 10) pe_int (fun _ _ => rfl)) (pa_cons pe_bl (pa_cons pe_bl pa_nil))))))))) pa_nil))))) (pss_one (ps_ret pe_bl)) pss_nil)
        (C8.pss_cut (ps_if (pt_cmpR op_lt (pe_callB (cr_max rfl) (by rfl) M.max (by decide +kernel) (pa_cons (pv 10) pa_nil)) pe_int (nomark _)) (pss_cons (ps_par (i := 12) (j := 13) (by rfl) scLaw.nd rfl rfl (by decide) rfl rfl (pa_cons (pe_join pe_str (pe_lc (own := [("u", 15), ("a", 16)]) (g := gTup K 2 (gCons (gName 15) (gCons (gName 16) gNil))) (tt := tYes) rfl scLaw.nd (pi_tup (pv 7)) (blkOk_by (N := nLaw) (sc := defScope sLaw) (by decide +kernel)) (fun _ _ _ _ _ => pg_tup rfl (pgs_cons (pg_name (i := 15) scLaw.nd rfl (Or.inl rfl)) (pgs_cons (pg_name (i := 16) scLaw.nd rfl (Or.inl rfl)) pgs_nil))) (fun _ _ _ _ _ => pts_nil) (fun _ _ _ _ _ => pe_op op_mulS (pv 15) (pv 16)))) (pa_cons (pe_join pe_str (pe_lc (own := [("u", 15), ("a", 16)]) (g := gTup K 2 (gCons (gName 15) (gCons (gName 16) gNil))) (tt := tYes) rfl scLaw.nd (pi_tup (pv 8)) (blkOk_by (N := nLaw) (sc := defScope sLaw) (by decide +kernel)) (fun _ _ _ _ _ => pg_tup rfl (pgs_cons (pg_name (i := 15) scLaw.nd rfl (Or.inl rfl)) (pgs_cons (pg_name (i := 16) scLaw.nd rfl (Or.inl rfl)) pgs_nil))) (fun _ _ _ _ _ => pts_nil) (fun _ _ _ _ _ => pe_op op_mulS (pv 15) (pv 16)))) pa_nil)) (by rfl)) (pss_one (ps_if (pt_cmpR op_ne (pv 9) (pe_op op_sub (pe_callTy call_int1 (by rfl) M.int (by decide +kernel) (pa_cons (pe_cmpR op_gt_str (pv 12) (pv 13) (nomark _)) pa_nil)) (pe_callTy call_int1 (by rfl) M.int (by decide +kernel) (pa_cons (pe_cmpR op_lt_str (pv 12) (pv 13) (nomark _)) pa_nil))) (nomark _)) (pss_one (ps_ret pe_bl)) pss_nil))) pss_nil)
        (pss_one (ps_if (pt_cmpR op_eq (pv 9) pe_int (nomark _)) (pss_one (ps_for PassesOwn.never rfl (pi_range1 rfl M.range (pa_cons pe_int pa_nil)) (pg_name (i := 5) scLaw.nd rfl (Or.inl rfl)) (pss_cons (ps_set (i := 14) scLaw.nd rfl (Or.inl rfl) (pe_callB (call_min2 rfl) (by rfl) M.min (by decide +kernel) (pa_cons (pe_call O.G r2 (by rfl) O.m O.k O.b .nil pass0 (pa_cons (pv 1) (pa_cons (pe_lst (pa_cons pe_int (pa_cons (pe_ix ix_list (pv 10) pe_int (fun _ _ => rfl)) (pa_cons (pe_call D.G r1 (by rfl) D.m D.k D.b .nil pass0 (pa_cons (pv 1) (pa_cons (pe_op op_add (pe_ix ix_list (pv 10) pe_int (fun _ _ => rfl)) pe_int) pa_nil))) pa_nil)))) pa_nil))) (pa_cons (pe_op op_sub (pe_op op_pow pe_int pe_int) pe_int) pa_nil)))) (pss_cons (ps_par (i := 12) (j := 13) (by rfl) scLaw.nd rfl rfl (by decide) rfl rfl (pa_cons (pe_call T.G hr (by rfl) T.m T.k T.b .nil pass0 (pa_cons (pv 7) (pa_cons (pv 14) pa_nil))) (pa_cons (pe_call T.G hr (by rfl) T.m T.k T.b .nil pass0 (pa_cons (pv 8) (pa_cons (pv 14) pa_nil))) pa_nil)) (by rfl)) (pss_one (ps_if (pt_not (pt_val (pe_call Sm.G r5 (by rfl) Sm.m Sm.k Sm.b .nil pass0 (pa_cons (pe_lst (pa_cons (pv 12) (pa_cons (pv 13) pa_nil))) (pa_cons (pe_lst (pa_cons (pe_call Le.G r1 (by rfl) Le.m Le.k Le.b .nil pass0 (pa_cons (pv 3) (pa_cons (pv 14) pa_nil))) (pa_cons (pe_call Le.G r1 (by rfl) Le.m Le.k Le.b .nil pass0 (pa_cons (pv 4) (pa_cons (pv 14) pa_nil))) pa_nil))) pa_nil))))) (pss_one (ps_ret pe_bl)) pss_nil)))))) pss_nil)))))))))))))))
      (pss_one (ps_ret pe_bl))), ?_⟩
    refine ⟨.ref sa, rfl, sa, ns, rfl, hS, hlen, fun H0 b l S0 nb hb => ?_⟩
    refine ⟨20, rfl, by decide, by decide, for_range (n := 20) (fun i σ G => ∃ y2 y3 y4 y5 y6 y7 y8 y9 y10 y11 y12 y13 y14 y15 y16, σ = [some (.ref sa), some (.ref b), y2, y3, y4, y5, y6, y7, y8, y9, y10, y11, y12, y13, y14, y15, y16] ∧ BagAt G b l (200 * i)) ⟨none, none, none, none, none, none, none, none, none, none, none, none, none, none, none, rfl, hb⟩ (fun i σ G hi hw => ?_) (fun σ G hw => ?_)⟩
    · obtain ⟨y2, y3, y4, y5, y6, y7, y8, y9, y10, y11, y12, y13, y14, y15, y16, rfl, hb⟩ := hw
      refine ⟨.ref b, rfl, b, l, 200 * i, rfl, hb, by omega, fun G1 xp rowp k1 hb1 rl1 fo1 => ?_⟩
      obtain ⟨pp, ts, rfl, hpb, hpl, hpp⟩ := rl1
      refine ⟨.ref pp, rfl, pp, _, rfl, .inl (.inl (.inl hpl)), fun lq nq => ?_⟩
      have hb2 := hb1.add nq (o := .lst (ts.map V.ref))
      have rq : RowL (upd G1 lq (.lst (ts.map V.ref))) b (.ref lq) rowp := ⟨lq, ts, rfl, hb1.ne nq, upd_same, hpp.same (same_new nq)⟩
      have kq : Keep b G1 (upd G1 lq (.lst (ts.map V.ref))) := Keep.rfl'.new nq
      generalize upd G1 lq (.lst (ts.map V.ref)) = G2 at *
      refine ⟨fun σ G => ∃ (xq : V) (rowq : Far) (y5 : Option V), σ = [some (.ref sa), some (.ref b), some (.int (0 + (i : Int))), some (.ref pp), some xq, y5, y6, y7, y8, y9, y10, y11, y12, y13, y14, y15, y16] ∧ BagAt G b l (200 * i + 100) ∧ RowL G b xq rowq ∧ FarOk rowq ∧ ex rowq = ex rowp ∧ Keep b G1 G, ?_, ?_⟩
      · refine ⟨.ref b, rfl, b, l, 200 * i + 50, 6, rfl, hb2, nOk (by omega), by decide, topOk (by decide), fun o j hb3 _ j0 j1 => ⟨j, rfl, by omega, by omega, for_range (n := j.toNat) (fun m σ G => ∃ (xq : V) (rowq : Far) (y5 : Option V), σ = [some (.ref sa), some (.ref b), some (.int (0 + (i : Int))), some (.ref pp), some xq, y5, y6, y7, y8, y9, y10, y11, y12, y13, y14, y15, y16] ∧ BagAt G b l (200 * i + 51 + 8 * m) ∧ RowL G b xq rowq ∧ FarOk rowq ∧ ex rowq = ex rowp ∧ Keep b G1 G) ⟨.ref lq, rowp, y5, rfl, hb3, rq.keep hb2 Keep.rfl'.upd, fo1, rfl, kq.upd⟩ (fun m σ G hm hw => ?_) (fun σ G hw => ?_)⟩⟩
        · obtain ⟨xq, rowq, y5, rfl, gb, gr, gf, ge, gk⟩ := hw
          refine ⟨.ref b, rfl, xq, rfl, b, l, 200 * i + 51 + 8 * m, xq, rowq, rfl, gb, by omega, gr, gf, fun G' y row' k' hb' rl' fo' e' => ⟨y, row', _, rfl, hb', rl', fo', e'.trans ge, gk.trans k'⟩⟩
        · obtain ⟨xq, rowq, y5, rfl, gb, gr, gf, ge, gk⟩ := hw
          exact ⟨xq, rowq, y5, rfl, gb.up (by omega), gr, gf, ge, gk⟩
      clear hb2 rq kq
      rintro σ G ⟨xq, rowq, y5, rfl, gb, gr, gf, ge, gk⟩
      refine ⟨.int (0 + (i : Int)), rfl, _, 8, rfl, rfl, ?_⟩
      obtain ⟨bq, hbq⟩ : ∃ bq, decide ((0 : Int) + (i : Int) < 8) = bq := ⟨_, rfl⟩
      refine ⟨fun σ G => ∃ (xq : V) (rowq : Far) (y5 : Option V), σ = [some (.ref sa), some (.ref b), some (.int (0 + (i : Int))), some (.ref pp), some xq, y5, some (.bl bq), y7, y8, y9, y10, y11, y12, y13, y14, y15, y16] ∧ BagAt G b l (200 * i + 120) ∧ RowL G b xq rowq ∧ FarOk rowq ∧ (bq = true → ex rowq = ex rowp) ∧ Keep b G1 G, ?_, ?_⟩
      · refine ⟨.bl bq, congrArg (fun z => some (some (V.bl z))) hbq, bq, rfl, ?_⟩
        rcases Bool.eq_false_or_eq_true bq with hb' | hb'
        · rw [hb']
          exact iteF ⟨xq, rowq, y5, by rw [← hb', ← hbq]; rfl, gb.up (by omega), gr, gf, fun _ => ge, gk⟩
        · rw [hb']
          refine iteT ⟨.ref b, rfl, xq, rfl, b, l, 200 * i + 100, xq, rowq, rfl, gb, by omega, gr, gf, fun G' y row' k' hb'' rl' fo' => ?_⟩
          exact ⟨.ref b, rfl, y, rfl, b, l, 200 * i + 108, y, row', rfl, hb'', by omega, rl', fo', fun G'' z row'' k'' hb'' rl'' fo'' _ => ⟨z, row'', y5, by rw [← hb', ← hbq]; rfl, hb''.up (by omega), rl'', fo'', (fun z => by cases z), (gk.trans k').trans k''⟩⟩
      clear gb gr gf ge gk
      rintro σ G ⟨xq, rowq, y5, rfl, gb, ⟨pq, tq, rfl, hqb, hql, hqp⟩, gf, ge, gk⟩
      have hpG := gk _ _ hpb hpl
      have hppG : PairsAt G ts rowp := by obtain ⟨ys, hy⟩ := hb1.lst; exact hpp.keep hy gk
      refine ⟨fun σ J => ∃ (s t : Addr), σ = [some (.ref sa), some (.ref b), some (.int (0 + (i : Int))), some (.ref pp), some (.ref pq), y5, some (.bl bq), some (.ref s), some (.ref t), y9, y10, y11, y12, y13, y14, y15, y16] ∧ Same G J ∧ J s = some (.tup (ts.map V.ref)) ∧ J t = some (.tup (tq.map V.ref)), ?_, ?_⟩
      · exact ⟨.ref pp, rfl, pp, _, rfl, .inl ⟨.inl (.inl hpG), fun s ns => ⟨.ref pq, rfl, pq, _, rfl, .inl ⟨.inl (.inl (same_new ns _ _ hql)), fun t nt => ⟨_, _, rfl, s, t, rfl, (same_new ns).trans (same_new nt), same_new nt _ _ upd_same, upd_same⟩⟩⟩⟩⟩
      rintro σ J ⟨s, t, rfl, SJ, hs, ht⟩
      have fs : FarAt K J (.ref s) rowp := ⟨s, ts, rfl, .inl (.inl hs), hppG.same SJ⟩
      have ft : FarAt K J (.ref t) rowq := ⟨t, tq, rfl, .inl (.inl ht), hqp.same SJ⟩
      refine ⟨.ref s, rfl, .ref t, rfl, .ref s, .ref t, rowp, rowq, rfl, fs, ft, fo1, gf, fun J1 S1 => ?_⟩
      generalize hd : cmpT (ex rowp) (ex rowq) = d at *
      refine ⟨fun σ Z => ∃ (z : Addr), σ = [some (.ref sa), some (.ref b), some (.int (0 + (i : Int))), some (.ref pp), some (.ref pq), y5, some (.bl bq), some (.ref s), some (.ref t), some (.int d), some (.ref z), y11, y12, y13, y14, y15, y16] ∧ Z z = some (.lst [.int (size rowp : Nat), .int (size rowq : Nat)]) ∧ Same J Z, ?_, ?_⟩
      · refine ⟨.ref s, rfl, s, rfl, ⟨_, .inl (.inl (S1 _ _ hs))⟩, fun Da hDa => ?_⟩
        refine lc_tup (xs := ts.map V.ref) (fun i G => G Da = some (.lst ((intsOf (rowp.take i)).map V.int)) ∧ Same J1 G) ⟨by rw [List.take_zero]; exact upd_same, same_new hDa⟩ (fun i G _ z => .inl (.inl (z.2 _ _ (S1 _ _ hs)))) ?_ ?_
        · rintro i x G hx ⟨zD, zS⟩
          rw [List.getElem?_map] at hx
          cases hr' : ts[i]? with
          | none => rw [hr'] at hx; cases hx
          | some r =>
            rw [hr'] at hx
            obtain rfl := (Option.some.inj hx).symm
            obtain ⟨p, hp1, hp2⟩ := PairsAt.get ((hppG.same SJ).same S1) hr'
            have hm : p ∈ rowp := List.mem_of_getElem? hp1
            have hi : i < 100 := by
              have := (List.getElem?_eq_some_iff.1 hp1).1
              have := fo1.len
              omega
            have ⟨w1, w2, w3⟩ := fo1.each p hm
            have w4 := w1.2.1
            refine ⟨r, [.str (S p.1), .int p.2], rfl, .inl (.inl (zS _ _ hp2)), rfl, .str (S p.1), [.int p.2], rfl, .int p.2, [], rfl, rfl, rfl, ?_⟩
            refine ⟨.str (S p.1), rfl, .str (S p.1), p.1.length, rfl, lenS (by omega), .int p.2, rfl, p.1.length, p.2, rfl, rfl, .inl ⟨by omega, by omega⟩, ?_⟩
            refine ⟨_, zD, ?_, ?_, ?_⟩
            · rw [List.length_map]
              unfold intsOf
              rw [List.length_map, List.length_take]
              exact Nat.lt_of_le_of_lt (Nat.min_le_left _ _) (Nat.lt_of_lt_of_le hi (by decide))
            · rw [upd_same]
              have e1 : intsOf (rowp.take (i + 1)) = intsOf (rowp.take i) ++ [((p.1.length * p.2 : Nat) : Int)] := by
                rw [List.take_add_one, hp1]
                simp [intsOf]
              rw [e1, List.map_append, Int.natCast_mul]
              rfl
            · intro c o e
              by_cases hc : c = Da
              · subst hc
                rw [hDa] at e
                cases e
              · rw [upd_ne hc]; exact zS c o e
        rintro I1 ⟨zD, SA⟩
        rw [List.length_map, (PairsAt.len ((hppG.same SJ).same S1)), List.take_length] at zD
        refine ⟨Da, intsOf rowp, rfl, .inl (.inl zD), ?_⟩
        rw [ints_sum]
        clear zD
        refine ⟨.ref t, rfl, t, rfl, ⟨_, .inl (.inl ((S1.trans SA) _ _ ht))⟩, fun Db hDb => ?_⟩
        refine lc_tup (xs := tq.map V.ref) (fun i G => G Db = some (.lst ((intsOf (rowq.take i)).map V.int)) ∧ Same I1 G) ⟨by rw [List.take_zero]; exact upd_same, same_new hDb⟩ (fun i G _ z => .inl (.inl (z.2 _ _ ((S1.trans SA) _ _ ht)))) ?_ ?_
        · rintro i x G hx ⟨zD, zS⟩
          rw [List.getElem?_map] at hx
          cases hr' : tq[i]? with
          | none => rw [hr'] at hx; cases hx
          | some r =>
            rw [hr'] at hx
            obtain rfl := (Option.some.inj hx).symm
            obtain ⟨p, hp1, hp2⟩ := PairsAt.get ((hqp.same SJ).same (S1.trans SA)) hr'
            have hm : p ∈ rowq := List.mem_of_getElem? hp1
            have hi : i < 100 := by
              have := (List.getElem?_eq_some_iff.1 hp1).1
              have := gf.len
              omega
            have ⟨w1, w2, w3⟩ := gf.each p hm
            have w4 := w1.2.1
            refine ⟨r, [.str (S p.1), .int p.2], rfl, .inl (.inl (zS _ _ hp2)), rfl, .str (S p.1), [.int p.2], rfl, .int p.2, [], rfl, rfl, rfl, ?_⟩
            refine ⟨.str (S p.1), rfl, .str (S p.1), p.1.length, rfl, lenS (by omega), .int p.2, rfl, p.1.length, p.2, rfl, rfl, .inl ⟨by omega, by omega⟩, ?_⟩
            refine ⟨_, zD, ?_, ?_, ?_⟩
            · rw [List.length_map]
              unfold intsOf
              rw [List.length_map, List.length_take]
              exact Nat.lt_of_le_of_lt (Nat.min_le_left _ _) (Nat.lt_of_lt_of_le hi (by decide))
            · rw [upd_same]
              have e1 : intsOf (rowq.take (i + 1)) = intsOf (rowq.take i) ++ [((p.1.length * p.2 : Nat) : Int)] := by
                rw [List.take_add_one, hp1]
                simp [intsOf]
              rw [e1, List.map_append, Int.natCast_mul]
              rfl
            · intro c o e
              by_cases hc : c = Db
              · subst hc
                rw [hDb] at e
                cases e
              · rw [upd_ne hc]; exact zS c o e
        rintro I2 ⟨zD, SB⟩
        rw [List.length_map, (PairsAt.len ((hqp.same SJ).same (S1.trans SA))), List.take_length] at zD
        refine ⟨Db, intsOf rowq, rfl, .inl (.inl zD), ?_⟩
        rw [ints_sum]
        clear zD
        exact ⟨by show 2 ≤ sizeLine; decide, fun z nz => ⟨z, rfl, upd_same, ((S1.trans SA).trans SB).trans (same_new nz)⟩⟩
      rintro σ Z ⟨z, rfl, hz, SZ⟩
      have sz : SqL K Z z [.int (size rowp : Nat), .int (size rowq : Nat)] := .inl (.inl hz)
      refine ⟨fun σ Y => σ = [some (.ref sa), some (.ref b), some (.int (0 + (i : Int))), some (.ref pp), some (.ref pq), y5, some (.bl bq), some (.ref s), some (.ref t), some (.int d), some (.ref z), y11, y12, y13, y14, y15, y16] ∧ Y = Z, ?_, ?_⟩
      · refine ⟨.bl bq, rfl, bq, rfl, ?_⟩
        rcases Bool.eq_false_or_eq_true bq with hb' | hb'
        · rw [hb']
          have e0 := ge hb'
          have d0 : d = 0 := by rw [← hd, e0, cmp_same]
          have z0 : size rowp = size rowq := by rw [← size_ex, ← size_ex, e0]
          refine iteT ?_
          refine ⟨.int d, rfl, rfl, _, rfl, ?_⟩
          rw [show (!decide (V.int d = V.int 0)) = false by rw [d0]; rfl]
          refine iteF ?_
          refine ⟨.ref z, rfl, z, _, 0, _, rfl, rfl, sz, rfl, .ref z, rfl, z, _, 1, _, rfl, rfl, sz, rfl, rfl, _, rfl, ?_⟩
          rw [show (!decide (V.int ((size rowp : Nat) : Int) = V.int ((size rowq : Nat) : Int))) = false by rw [z0, decide_eq_true rfl]; rfl]
          exact iteF ⟨rfl, rfl⟩
        · rw [hb']
          exact iteF ⟨rfl, rfl⟩
      rintro σ Z' ⟨rfl, rfl⟩
      have hsZ := SZ _ _ hs
      have htZ := SZ _ _ ht
      have pZ := (hppG.same SJ).same SZ
      have qZ := (hqp.same SJ).same SZ
      have fZ := fs.same SZ
      have tZ := ft.same SZ
      have hd2 : cmpT (ex rowq) (ex rowp) = 0 - d := by rw [cmp_swap, hd]; omega
      have bZ : BagAt Z' b l (200 * i + 120) := (gb.same SJ).same SZ
      have pcZ := SZ _ _ (SJ _ _ hpG)
      have qcZ := SZ _ _ (SJ _ _ hql)
      refine ⟨fun σ Y => ∃ (fA : Addr), σ = [some (.ref sa), some (.ref b), some (.int (0 + (i : Int))), some (.ref pp), some (.ref pq), y5, some (.bl bq), some (.ref s), some (.ref t), some (.int d), some (.ref z), some (.ref fA), y12, y13, y14, y15, y16] ∧ Y fA = some (.lst [.int d, .int (0 - d), .int d, .int 0, .int (size rowp : Nat), .int (size rowq : Nat), .bl true, .bl true]) ∧ Same Z' Y, ?_, ?_⟩
      · refine ⟨.ref s, rfl, .ref t, rfl, .ref s, .ref t, rowp, rowq, rfl, fZ, tZ, fo1, gf, fun A1 T1 => ?_⟩
        refine ⟨.ref t, rfl, .ref s, rfl, .ref t, .ref s, rowq, rowp, rfl, tZ.same T1, fZ.same T1, gf, fo1, fun A2 T2 => ?_⟩
        have T2 := T1.trans T2
        refine ⟨.ref t, rfl, .ref s, rfl, .ref s, .ref t, rowp, rowq, rfl, fZ.same T2, tZ.same T2, fo1, gf, fun A3 T3 => ?_⟩
        have T3 := T2.trans T3
        refine ⟨.ref s, rfl, .ref s, rfl, .ref s, .ref s, rowp, rowp, rfl, fZ.same T3, fZ.same T3, fo1, fo1, fun A4 T4 => ?_⟩
        have T4 := T3.trans T4
        refine ⟨.ref s, rfl, .ref s, rowp, rfl, fZ.same T4, fo1, fun A5 T5 => ?_⟩
        have T5 := T4.trans T5
        refine ⟨.ref t, rfl, .ref t, rowq, rfl, tZ.same T5, gf, fun A6 T6 => ?_⟩
        have T6 := T5.trans T6
        refine ⟨.ref s, rfl, .ref s, rowp, rfl, fZ.same T6, fo1, fun A7 T7 => ?_⟩
        have T7 := T6.trans T7
        refine ⟨.ref t, rfl, .ref t, rowq, rfl, tZ.same T7, gf, fun A8 T8 => ?_⟩
        have T8 := T7.trans T8
        rw [hd, hd2, cmp_same]
        exact ⟨by show 8 ≤ sizeLine; decide, fun fA nf => ⟨fA, rfl, upd_same, T8.trans (same_new nf)⟩⟩
      rintro σ Y ⟨fA, rfl, hfA, SY⟩
      have szY : SqL K Y z [.int (size rowp : Nat), .int (size rowq : Nat)] := .inl (.inl (SY _ _ hz))
      refine ⟨.ref fA, rfl, .int d, rfl, .int d, rfl, 0, d, rfl, rfl, .int d, rfl, .ref z, rfl, z, _, 0, _, rfl, rfl, szY, rfl, .ref z, rfl, z, _, 1, _, rfl, rfl, szY, rfl, by show 8 ≤ sizeLine; decide, fun dA nd => ?_⟩
      refine ⟨.ref fA, .ref dA, rfl, .inr (.inl ⟨fA, dA, _, _, rfl, rfl, .inl ⟨.inl (.inl (same_new nd _ _ hfA)), .inl (.inl upd_same)⟩, by show 8 ≤ 100000; decide, ?_⟩), fun Y1 SY1 => ⟨true, rfl, iteF ?_⟩⟩
      · exact .cons (.inl ⟨rfl, rfl⟩) (.cons (.inl ⟨rfl, rfl⟩) (.cons (.inl ⟨rfl, rfl⟩) (.cons (.inl ⟨rfl, rfl⟩) (.cons (.inl ⟨rfl, rfl⟩) (.cons (.inl ⟨rfl, rfl⟩) (.cons (.inl ⟨rfl, rfl⟩) (.cons (.inl ⟨rfl, rfl⟩) .nil)))))))
      have SY2 := SY.trans ((same_new nd).trans SY1)
      clear SY SY1 szY hfA nd
      have szY : SqL K Y1 z [.int (size rowp : Nat), .int (size rowq : Nat)] := .inl (.inl (SY2 _ _ hz))
      refine ⟨fun σ W => ∃ (x12 x13 : Option V), σ = [some (.ref sa), some (.ref b), some (.int (0 + (i : Int))), some (.ref pp), some (.ref pq), y5, some (.bl bq), some (.ref s), some (.ref t), some (.int d), some (.ref z), some (.ref fA), x12, x13, y14, y15, y16] ∧ Same Z' W, ?_, ?_⟩
      · refine ⟨.ref z, rfl, z, [((size rowp : Nat) : Int), ((size rowq : Nat) : Int)], rfl, szY, by show 0 < 2; decide, fun mx hm hx => ⟨mx, 900, rfl, rfl, _, rfl, ite2 (fun e => ?_) (fun e => ⟨y12, y13, rfl, SY2⟩)⟩⟩
        have e9 : mx < 900 := of_decide_eq_true e
        have b1 : size rowp < 900 := by have := hx _ List.mem_cons_self; omega
        have b2 : size rowq < 900 := by have := hx _ (List.mem_cons_of_mem _ List.mem_cons_self); omega
        refine ⟨⟨_, rfl⟩, .ref s, rfl, s, rfl, ⟨_, .inl (.inl (SY2 _ _ hsZ))⟩, fun Da hDa => ?_⟩
        refine lc_tup (xs := ts.map V.ref) (fun i G => G Da = some (.lst (((wordsOf (rowp.take i)).map S).map V.str)) ∧ Same Y1 G) ⟨by rw [List.take_zero]; exact upd_same, same_new hDa⟩ (fun i G _ z => .inl (.inl (z.2 _ _ (SY2 _ _ hsZ)))) ?_ ?_
        · rintro i x G hx ⟨zD, zS⟩
          rw [List.getElem?_map] at hx
          cases hr' : ts[i]? with
          | none => rw [hr'] at hx; cases hx
          | some r =>
            rw [hr'] at hx
            obtain rfl := (Option.some.inj hx).symm
            obtain ⟨p, hp1, hp2⟩ := PairsAt.get (pZ.same SY2) hr'
            have hm : p ∈ rowp := List.mem_of_getElem? hp1
            have hi : i < 100 := by
              have := (List.getElem?_eq_some_iff.1 hp1).1
              have := fo1.len
              omega
            have ⟨w1, w2, w3⟩ := fo1.each p hm
            have w4 := w1.2.1
            have w5 := part_le hm
            have w6 : p.2 ≤ p.1.length * p.2 := Nat.le_mul_of_pos_left _ (List.length_pos_iff.2 w1.1)
            refine ⟨r, [.str (S p.1), .int p.2], rfl, .inl (.inl (zS _ _ hp2)), rfl, .str (S p.1), [.int p.2], rfl, .int p.2, [], rfl, rfl, rfl, ?_⟩
            refine ⟨.str (S p.1), rfl, .int p.2, rfl, p.1, p.2, rfl, rfl, by omega, by omega, ?_⟩
            refine ⟨_, zD, ?_, ?_, ?_⟩
            · rw [List.length_map, List.length_map]
              unfold wordsOf
              rw [List.length_map, List.length_take]
              exact Nat.lt_of_le_of_lt (Nat.min_le_left _ _) (Nat.lt_of_lt_of_le hi (by decide))
            · rw [upd_same]
              have e1 : wordsOf (rowp.take (i + 1)) = wordsOf (rowp.take i) ++ [rp p.1 p.2] := by
                rw [List.take_add_one, hp1]
                simp [wordsOf]
              rw [e1, List.map_append, List.map_append]
              rfl
            · intro c o e
              by_cases hc : c = Da
              · subst hc
                rw [hDa] at e
                cases e
              · rw [upd_ne hc]; exact zS c o e
        rintro I1 ⟨zD, SA⟩
        rw [List.length_map, (PairsAt.len (pZ.same SY2)), List.take_length] at zD
        refine ⟨"", Da, (wordsOf rowp).map S, rfl, rfl, .inl (.inl (.inl zD)), ?_, ?_⟩
        · rw [words_sum]
          show size rowp + _ * 0 ≤ 16777216
          omega
        rw [join_S, words_ex]
        clear zD
        refine ⟨⟨_, rfl⟩, .ref t, rfl, t, rfl, ⟨_, .inl (.inl ((SY2.trans SA) _ _ htZ))⟩, fun Db hDb => ?_⟩
        refine lc_tup (xs := tq.map V.ref) (fun i G => G Db = some (.lst (((wordsOf (rowq.take i)).map S).map V.str)) ∧ Same I1 G) ⟨by rw [List.take_zero]; exact upd_same, same_new hDb⟩ (fun i G _ z => .inl (.inl (z.2 _ _ ((SY2.trans SA) _ _ htZ)))) ?_ ?_
        · rintro i x G hx ⟨zD, zS⟩
          rw [List.getElem?_map] at hx
          cases hr' : tq[i]? with
          | none => rw [hr'] at hx; cases hx
          | some r =>
            rw [hr'] at hx
            obtain rfl := (Option.some.inj hx).symm
            obtain ⟨p, hp1, hp2⟩ := PairsAt.get (qZ.same (SY2.trans SA)) hr'
            have hm : p ∈ rowq := List.mem_of_getElem? hp1
            have hi : i < 100 := by
              have := (List.getElem?_eq_some_iff.1 hp1).1
              have := gf.len
              omega
            have ⟨w1, w2, w3⟩ := gf.each p hm
            have w4 := w1.2.1
            have w5 := part_le hm
            have w6 : p.2 ≤ p.1.length * p.2 := Nat.le_mul_of_pos_left _ (List.length_pos_iff.2 w1.1)
            refine ⟨r, [.str (S p.1), .int p.2], rfl, .inl (.inl (zS _ _ hp2)), rfl, .str (S p.1), [.int p.2], rfl, .int p.2, [], rfl, rfl, rfl, ?_⟩
            refine ⟨.str (S p.1), rfl, .int p.2, rfl, p.1, p.2, rfl, rfl, by omega, by omega, ?_⟩
            refine ⟨_, zD, ?_, ?_, ?_⟩
            · rw [List.length_map, List.length_map]
              unfold wordsOf
              rw [List.length_map, List.length_take]
              exact Nat.lt_of_le_of_lt (Nat.min_le_left _ _) (Nat.lt_of_lt_of_le hi (by decide))
            · rw [upd_same]
              have e1 : wordsOf (rowq.take (i + 1)) = wordsOf (rowq.take i) ++ [rp p.1 p.2] := by
                rw [List.take_add_one, hp1]
                simp [wordsOf]
              rw [e1, List.map_append, List.map_append]
              rfl
            · intro c o e
              by_cases hc : c = Db
              · subst hc
                rw [hDb] at e
                cases e
              · rw [upd_ne hc]; exact zS c o e
        rintro I2 ⟨zD, SB⟩
        rw [List.length_map, (PairsAt.len (qZ.same (SY2.trans SA))), List.take_length] at zD
        refine ⟨"", Db, (wordsOf rowq).map S, rfl, rfl, .inl (.inl (.inl zD)), ?_, ?_⟩
        · rw [words_sum]
          show size rowq + _ * 0 ≤ 16777216
          omega
        rw [join_S, words_ex]
        clear zD
        refine ⟨_, _, rfl, .int d, rfl, .str (S (ex rowp)), rfl, .str (S (ex rowq)), rfl, _, _, rfl, rfl, .inr ⟨_, rfl, .str (S (ex rowp)), rfl, .str (S (ex rowq)), rfl, _, _, rfl, rfl, .inr ⟨_, rfl, _, _, rfl, rfl, rfl, _, rfl, ite2 (fun e => ?_) (fun e => ⟨_, _, rfl, SY2.trans (SA.trans SB)⟩)⟩⟩⟩
        exfalso
        have e' : (!decide (V.int d = V.int ((if decide ((S (ex rowq)).cps.toList < (S (ex rowp)).cps.toList) = true then (1 : Int) else 0) - (if decide ((S (ex rowp)).cps.toList < (S (ex rowq)).cps.toList) = true then (1 : Int) else 0)))) = true := e
        rw [cmp_int, hd, decide_eq_true rfl] at e'
        cases e'
      clear szY
      rintro σ W ⟨x12, x13, rfl, SW⟩
      have bW := bZ.same SW
      have hzb : z ≠ b := fun h => by
        subst h
        obtain ⟨ns, p, r, x, c, h1, _⟩ := bZ
        rw [hz] at h1
        cases h1
      refine ⟨.int d, rfl, rfl, _, rfl, ite2 (fun e => ?_) (fun e => ⟨_, _, _, _, _, _, _, _, _, _, _, _, _, _, _, rfl, bW.up (by omega)⟩)⟩
      refine ⟨3, rfl, by decide, by decide, for_range (n := 3) (fun m σ V' => ∃ (x5 x12 x13 x14 : Option V), σ = [some (.ref sa), some (.ref b), some (.int (0 + (i : Int))), some (.ref pp), some (.ref pq), x5, some (.bl bq), some (.ref s), some (.ref t), some (.int d), some (.ref z), some (.ref fA), x12, x13, x14, y15, y16] ∧ BagAt V' b l (200 * i + 120 + 2 * m) ∧ Keep b Z' V') ⟨_, _, _, _, rfl, bW, .of SW⟩ (fun m σ V' hm hw => ?_) (fun σ V' hw => ?_)⟩
      · obtain ⟨x5, x12, x13, x14, rfl, gb', gk'⟩ := hw
        obtain ⟨ybZ, hybZ⟩ := bZ.lst
        have cell : ∀ {V2 : Hp}, Keep b Z' V2 → V2 z = some (.lst [.int (size rowp : Nat), .int (size rowq : Nat)]) ∧ FarAt K V2 (.ref s) rowp ∧ FarAt K V2 (.ref t) rowq ∧ V2 pp = some (.lst (ts.map V.ref)) ∧ V2 pq = some (.lst (tq.map V.ref)) ∧ PairsAt V2 ts rowp ∧ PairsAt V2 tq rowq := fun kk => by
          have k1 := pZ.keep hybZ kk
          have k2 := qZ.keep hybZ kk
          exact ⟨kk _ _ hzb hz, ⟨s, ts, rfl, .inl (.inl (kk _ _ (ne_of hsZ hybZ (fun z => nomatch z)) hsZ)), k1⟩, ⟨t, tq, rfl, .inl (.inl (kk _ _ (ne_of htZ hybZ (fun z => nomatch z)) htZ)), k2⟩, kk _ _ hpb pcZ, kk _ _ hqb qcZ, k1, k2⟩
        have szV : SqL K V' z [.int (size rowp : Nat), .int (size rowq : Nat)] := .inl (.inl (cell gk').1)
        have bound : size rowp + 1 < 2 ^ 190 := by
          have h1 := size_le fun p hp => ⟨(fo1.each p hp).1.2.1, (fo1.each p hp).2.2⟩
          have h2 : rowp.length * (40 * 10 ^ 30) ≤ 7 * (40 * 10 ^ 30) := Nat.mul_le_mul_right _ fo1.len
          exact Nat.lt_of_le_of_lt (Nat.add_le_add_right (Nat.le_trans h1 h2) 1) (by decide +kernel)
        have tkk : ((((size rowp : Nat) : Int)) + 1).natAbs < 2 ^ 200 := by
          rw [show ((((size rowp : Nat) : Int)) + 1).natAbs = size rowp + 1 by omega]
          exact Nat.lt_of_lt_of_le bound (by decide +kernel)
        refine ⟨.ref b, rfl, .ref z, rfl, z, _, 0, _, rfl, rfl, szV, rfl, .ref b, rfl, .ref z, rfl, z, _, 0, _, rfl, rfl, szV, rfl, _, 1, rfl, rfl, b, l, 200 * i + 120 + 2 * m, _, rfl, gb', nOk (by omega), by omega, topOk tkk, fun o j hb3 _ j0 j1 => ⟨by show 3 ≤ sizeLine; decide, fun pn nn => ?_⟩⟩
        have k3 : Keep b Z' (upd V' b o) := gk'.upd
        generalize upd V' b o = V3 at *
        refine ⟨b, l, 200 * i + 120 + 2 * m + 1, .ref pn, rfl, hb3.add nn, nOk (by omega), .inl ⟨pn, _, rfl, .inl (.inl upd_same), hb3.ne nn, by show 0 < 3; decide, by show 3 < 2 ^ 60; decide, fun o2 v hb4 _ hv => ?_⟩⟩
        have ⟨w1, ew⟩ : ∃ w1 : Nat, v = .int (w1 : Int) := by
          simp only [List.mem_cons, List.not_mem_nil, or_false] at hv
          rcases hv with h | h | h
          · exact ⟨0, h⟩
          · exact ⟨_, h⟩
          · exact ⟨j.toNat, by rw [h, Int.toNat_of_nonneg j0]⟩
        subst ew
        have k4 : Keep b Z' (upd (upd V3 pn (.lst [.int 0, .int (size rowp : Nat), .int j])) b o2) := (k3.new nn).upd
        have hb4' : BagAt (upd (upd V3 pn (.lst [.int 0, .int (size rowp : Nat), .int j])) b o2) b l (200 * i + 120 + 2 * m + 2) := hb4
        clear hb4
        generalize upd (upd V3 pn (.lst [.int 0, .int (size rowp : Nat), .int j])) b o2 = V4 at *
        refine ⟨10, 31, rfl, rfl, ⟨by decide, by decide, by decide⟩, _, 1, rfl, rfl, w1, _, rfl, ?_⟩
        have hT : (0 : Int) ≤ (10 : Int) ^ (31 : Int).toNat - 1 := by decide +kernel
        generalize (10 : Int) ^ (31 : Int).toNat - 1 = TT at *
        obtain ⟨N, eN⟩ : ∃ N : Nat, (if TT < (w1 : Int) then TT else (w1 : Int)) = (N : Int) := by
          by_cases c : TT < (w1 : Int)
          · exact ⟨TT.toNat, by rw [if_pos c, Int.toNat_of_nonneg hT]⟩
          · exact ⟨w1, if_neg c⟩
        have sN := congrArg (fun z : Int => some (some (V.int z))) eN
        have ⟨c1, c2, c3, c4, c5, c6, c7⟩ := cell k4
        refine ⟨.ref s, rfl, .int N, sN, .ref s, rowp, N, rfl, c2, fo1, fun V5 T5 => ⟨.ref t, rfl, .int N, sN, .ref t, rowq, N, rfl, c3.same T5, gf, fun V6 T6 => ⟨_, _, rfl, ?_⟩⟩⟩
        have T6 := T5.trans T6
        refine ⟨.str (letS rowp N), rfl, .str (letS rowq N), rfl, by show 2 ≤ sizeLine; decide, fun cA nc => ?_⟩
        have T7 := T6.trans (same_new nc (o := .lst [.str (letS rowp N), .str (letS rowq N)]))
        refine ⟨.ref pp, rfl, .int N, sN, pp, ts, rowp, N, rfl, T7 _ _ c4, c6.same T7, fo1, .ref pq, rfl, .int N, sN, pq, tq, rowq, N, rfl, T7 _ _ c5, c7.same T7, gf, by show 2 ≤ sizeLine; decide, fun dA nd => ?_⟩
        have hcA : upd (upd V6 cA (.lst [.str (letS rowp N), .str (letS rowq N)])) dA (.lst [.str (letS rowp N), .str (letS rowq N)]) cA = some (.lst [.str (letS rowp N), .str (letS rowq N)]) := same_new nd _ _ upd_same
        refine ⟨.ref cA, .ref dA, rfl, .inr (.inl ⟨cA, dA, _, _, rfl, rfl, .inl ⟨.inl (.inl hcA), .inl (.inl upd_same)⟩, by show 2 ≤ 100000; decide, .cons (.inl ⟨rfl, rfl⟩) (.cons (.inl ⟨rfl, rfl⟩) .nil)⟩), fun V8 T8 => ⟨true, rfl, iteF ?_⟩⟩
        have T9 := (T7.trans (same_new nd)).trans T8
        exact ⟨_, _, _, _, rfl, (hb4'.same T9).up (by omega), k4.trans (.of T9)⟩
      · obtain ⟨x5, x12, x13, x14, rfl, gb', gk'⟩ := hw
        exact ⟨_, _, _, _, _, _, _, _, _, _, _, _, _, _, _, rfl, gb'.up (by omega)⟩
    · obtain ⟨y2, y3, y4, y5, y6, y7, y8, y9, y10, y11, y12, y13, y14, y15, y16, rfl, hb⟩ := hw
      exact q _
end Kc

set_option Elab.async false
set_option linter.all false
set_option maxRecDepth 100000
set_option maxHeartbeats 8000000
/-! the end -/
namespace Kc
open PySem PySem.Spec PyProof.Rows L2 Ke
def FunAt (K : PySem.W.Frag) (x qual : Str) (st : Stmt) (f : Addr) : Prop := ∃ fd : FuncData, Fun K x qual st f fd
theorem funAt_mk {K : PySem.W.Frag} {x qual : Str} {st : Stmt} {f : Addr} {oc : Value} {od an : Option Addr} {osl : Array (Option Value)} {kV doc pm cdv ct : Value} (l : K.lookup f = some ⟨oc, od, .func (PySem.W.fnOf x qual (defArgs st) (defBody st) (defScope st) .none kV doc pm an cdv ct), osl⟩)
    (c : PySem.W.codeIn K cdv qual = true) (k : PySem.W.keepIn K (.ref f) = true) : FunAt K x qual st f := ⟨_, fun_mk l c k⟩
theorem all_mk {l : PySem.W.OpenLaw} {w : World} {K : PySem.W.Frag} {h : Heap} {mg : Str → Option Value} {fa : Addr} (X : K.In h) (G : h.Ns mainGlobals mg) (hfa : mg "law" = some (.ref fa))
    {fNum fNumIn fLt fPr fIf fCk fRu fBe fFl fCr fLn fLr fCm fB fD fO fS fW fSh fCd fLe fPo fFi fRe fCh fX : Addr} {tl tm : Tok}
    (dNum : PySem.W.nsIn K mainGlobals "is_number" = some (some (.ref fNum)))
    (dNumIn : PySem.W.nsIn K mainGlobals "is_number_in" = some (some (.ref fNumIn)))
    (dLt : PySem.W.nsIn K mainGlobals "is_letters" = some (some (.ref fLt)))
    (dPr : PySem.W.nsIn K mainGlobals "_is_pair" = some (some (.ref fPr)))
    (dIf : PySem.W.nsIn K mainGlobals "is_far" = some (some (.ref fIf)))
    (dCk : PySem.W.nsIn K mainGlobals "check_far" = some (some (.ref fCk)))
    (dRu : PySem.W.nsIn K mainGlobals "runs_of" = some (some (.ref fRu)))
    (dBe : PySem.W.nsIn K mainGlobals "run_behind" = some (some (.ref fBe)))
    (dFl : PySem.W.nsIn K mainGlobals "first_letters" = some (some (.ref fFl)))
    (dCr : PySem.W.nsIn K mainGlobals "compare_runs" = some (some (.ref fCr)))
    (dLn : PySem.W.nsIn K mainGlobals "far_length" = some (some (.ref fLn)))
    (dLr : PySem.W.nsIn K mainGlobals "far_letter" = some (some (.ref fLr)))
    (dCm : PySem.W.nsIn K mainGlobals "compare" = some (some (.ref fCm)))
    (dB : PySem.W.nsIn K mainGlobals "_law_bag" = some (some (.ref fB)))
    (dD : PySem.W.nsIn K mainGlobals "_law_draw" = some (some (.ref fD)))
    (dO : PySem.W.nsIn K mainGlobals "_law_of" = some (some (.ref fO)))
    (dS : PySem.W.nsIn K mainGlobals "_law_same" = some (some (.ref fS)))
    (dW : PySem.W.nsIn K mainGlobals "_law_word" = some (some (.ref fW)))
    (dSh : PySem.W.nsIn K mainGlobals "_law_shift" = some (some (.ref fSh)))
    (dCd : PySem.W.nsIn K mainGlobals "_law_compared" = some (some (.ref fCd)))
    (dLe : PySem.W.nsIn K mainGlobals "_law_letter" = some (some (.ref fLe)))
    (dPo : PySem.W.nsIn K mainGlobals "_law_power" = some (some (.ref fPo)))
    (dFi : PySem.W.nsIn K mainGlobals "_law_first" = some (some (.ref fFi)))
    (dRe : PySem.W.nsIn K mainGlobals "_law_retold" = some (some (.ref fRe)))
    (dCh : PySem.W.nsIn K mainGlobals "_law_changed" = some (some (.ref fCh)))
    (dX : PySem.W.nsIn K mainGlobals "law" = some (some (.ref fX)))
    (cLet : PySem.W.nsIn K mainGlobals "LETTERS" = some (some (.str "abcd" tl)))
    (cMost : PySem.W.nsIn K mainGlobals "MOST_POWER" = some (some (.int 1000000000000000000000000000000 tm)))
    (eNum : FunAt K "is_number" "is_number" sNum fNum)
    (eNumIn : FunAt K "is_number_in" "is_number_in" sNumIn fNumIn)
    (eLt : FunAt K "is_letters" "is_letters" sLetters fLt)
    (ePr : FunAt K "_is_pair" "_is_pair" sPair fPr)
    (eIf : FunAt K "is_far" "is_far" sIsFar fIf)
    (eCk : FunAt K "check_far" "check_far" sCheck fCk)
    (eRu : FunAt K "runs_of" "runs_of" sRuns fRu)
    (eBe : FunAt K "run_behind" "run_behind" sBehind fBe)
    (eFl : FunAt K "first_letters" "first_letters" sFirstL fFl)
    (eCr : FunAt K "compare_runs" "compare_runs" sCmpR fCr)
    (eLn : FunAt K "far_length" "far_length" sFarLen fLn)
    (eLr : FunAt K "far_letter" "far_letter" sFarLet fLr)
    (eCm : FunAt K "compare" "compare" sCompare fCm)
    (eB : FunAt K "_law_bag" "_law_bag" sBag fB)
    (eD : FunAt K "_law_draw" "_law_draw" sDraw fD)
    (eO : FunAt K "_law_of" "_law_of" sOf fO)
    (eS : FunAt K "_law_same" "_law_same" sSame fS)
    (eW : FunAt K "_law_word" "_law_word" sWord fW)
    (eSh : FunAt K "_law_shift" "_law_shift" sShift fSh)
    (eCd : FunAt K "_law_compared" "_law_compared" sCompared fCd)
    (eLe : FunAt K "_law_letter" "_law_letter" sLetter fLe)
    (ePo : FunAt K "_law_power" "_law_power" sPower fPo)
    (eFi : FunAt K "_law_first" "_law_first" sFirst fFi)
    (eRe : FunAt K "_law_retold" "_law_retold" sRetold fRe)
    (eCh : FunAt K "_law_changed" "_law_changed" sChanged fCh)
    (eX : FunAt K "law" "law" sLaw fX)
    (z_isinstance : PySem.W.nsIn K mainGlobals "isinstance" = some none)
    (z_list : PySem.W.nsIn K mainGlobals "list" = some none)
    (z_tuple : PySem.W.nsIn K mainGlobals "tuple" = some none)
    (z_len : PySem.W.nsIn K mainGlobals "len" = some none)
    (z_all : PySem.W.nsIn K mainGlobals "all" = some none)
    (z_zip : PySem.W.nsIn K mainGlobals "zip" = some none)
    (z_bool : PySem.W.nsIn K mainGlobals "bool" = some none)
    (z_int : PySem.W.nsIn K mainGlobals "int" = some none)
    (z_str : PySem.W.nsIn K mainGlobals "str" = some none)
    (z_abs : PySem.W.nsIn K mainGlobals "abs" = some none)
    (z_range : PySem.W.nsIn K mainGlobals "range" = some none)
    (z_min : PySem.W.nsIn K mainGlobals "min" = some none)
    (z_max : PySem.W.nsIn K mainGlobals "max" = some none)
    (z_sum : PySem.W.nsIn K mainGlobals "sum" = some none) :
    ∃ fd : FuncData, (∀ (s : Shared) (v : Value), BindsTo s fd ⟨[v], []⟩ [("script", v)]) ∧ ∀ base : Heap, K.In base → base.Ns mainGlobals mg → FnOk l.prog w K mg base CX0 7 fa fd ["script"] (spLaw K) := by
  have e := hfa.symm.trans (PySem.W.mg_of X G dX)
  cases e
  obtain ⟨gNum, eNum⟩ := eNum
  obtain ⟨gNumIn, eNumIn⟩ := eNumIn
  obtain ⟨gLt, eLt⟩ := eLt
  obtain ⟨gPr, ePr⟩ := ePr
  obtain ⟨gIf, eIf⟩ := eIf
  obtain ⟨gCk, eCk⟩ := eCk
  obtain ⟨gRu, eRu⟩ := eRu
  obtain ⟨gBe, eBe⟩ := eBe
  obtain ⟨gFl, eFl⟩ := eFl
  obtain ⟨gCr, eCr⟩ := eCr
  obtain ⟨gLn, eLn⟩ := eLn
  obtain ⟨gLr, eLr⟩ := eLr
  obtain ⟨gCm, eCm⟩ := eCm
  obtain ⟨gB, eB⟩ := eB
  obtain ⟨gD, eD⟩ := eD
  obtain ⟨gO, eO⟩ := eO
  obtain ⟨gS, eS⟩ := eS
  obtain ⟨gW, eW⟩ := eW
  obtain ⟨gSh, eSh⟩ := eSh
  obtain ⟨gCd, eCd⟩ := eCd
  obtain ⟨gLe, eLe⟩ := eLe
  obtain ⟨gPo, ePo⟩ := ePo
  obtain ⟨gFi, eFi⟩ := eFi
  obtain ⟨gRe, eRe⟩ := eRe
  obtain ⟨gCh, eCh⟩ := eCh
  obtain ⟨fdX, eX⟩ := eX
  have gX := eX.ex
  refine ⟨fdX, fun s v => ?_, fun base _ _ => ?_⟩
  · obtain ⟨oc, od, kV, doc, pm, an, cdv, ct, osl, rfl, _, _⟩ := gX
    exact .of_eq rfl
  · have bNum : Binds K gNum ["value"] [] := eNum.binds fun _ _ _ _ _ _ us hl => match us, hl with | [_], _ => rfl
    have mNum := PySem.W.mg_of X G dNum
    have bNumIn : Binds K gNumIn ["value", "low", "high"] [] := eNumIn.binds fun _ _ _ _ _ _ us hl => match us, hl with | [_, _, _], _ => rfl
    have mNumIn := PySem.W.mg_of X G dNumIn
    have bLt : Binds K gLt ["value"] [] := eLt.binds fun _ _ _ _ _ _ us hl => match us, hl with | [_], _ => rfl
    have mLt := PySem.W.mg_of X G dLt
    have bPr : Binds K gPr ["value"] [] := ePr.binds fun _ _ _ _ _ _ us hl => match us, hl with | [_], _ => rfl
    have mPr := PySem.W.mg_of X G dPr
    have bIf : Binds K gIf ["value"] [] := eIf.binds fun _ _ _ _ _ _ us hl => match us, hl with | [_], _ => rfl
    have mIf := PySem.W.mg_of X G dIf
    have bCk : Binds K gCk ["value"] [] := eCk.binds fun _ _ _ _ _ _ us hl => match us, hl with | [_], _ => rfl
    have mCk := PySem.W.mg_of X G dCk
    have bRu : Binds K gRu ["far"] [] := eRu.binds fun _ _ _ _ _ _ us hl => match us, hl with | [_], _ => rfl
    have mRu := PySem.W.mg_of X G dRu
    have bBe : Binds K gBe ["run", "many"] [] := eBe.binds fun _ _ _ _ _ _ us hl => match us, hl with | [_, _], _ => rfl
    have mBe := PySem.W.mg_of X G dBe
    have bFl : Binds K gFl ["word", "many"] [] := eFl.binds fun _ _ _ _ _ _ us hl => match us, hl with | [_, _], _ => rfl
    have mFl := PySem.W.mg_of X G dFl
    have bCr : Binds K gCr ["one", "other"] [] := eCr.binds fun _ _ _ _ _ _ us hl => match us, hl with | [_, _], _ => rfl
    have mCr := PySem.W.mg_of X G dCr
    have bLn : Binds K gLn ["far"] [] := eLn.binds fun _ _ _ _ _ _ us hl => match us, hl with | [_], _ => rfl
    have mLn := PySem.W.mg_of X G dLn
    have bLr : Binds K gLr ["far", "at"] [] := eLr.binds fun _ _ _ _ _ _ us hl => match us, hl with | [_, _], _ => rfl
    have mLr := PySem.W.mg_of X G dLr
    have bCm : Binds K gCm ["one", "other"] [] := eCm.binds fun _ _ _ _ _ _ us hl => match us, hl with | [_, _], _ => rfl
    have mCm := PySem.W.mg_of X G dCm
    have bB : Binds K gB ["script"] [] := eB.binds fun _ _ _ _ _ _ us hl => match us, hl with | [_], _ => rfl
    have mB := PySem.W.mg_of X G dB
    have bD : Binds K gD ["bag", "top"] [] := eD.binds fun _ _ _ _ _ _ us hl => match us, hl with | [_, _], _ => rfl
    have mD := PySem.W.mg_of X G dD
    have bO : Binds K gO ["bag", "some"] [] := eO.binds fun _ _ _ _ _ _ us hl => match us, hl with | [_, _], _ => rfl
    have mO := PySem.W.mg_of X G dO
    have bS : Binds K gS ["found", "due"] [] := eS.binds fun _ _ _ _ _ _ us hl => match us, hl with | [_, _], _ => rfl
    have mS := PySem.W.mg_of X G dS
    have bW : Binds K gW ["bag", "most_y"] [] := eW.binds fun _ _ _ _ _ _ us hl => match us, hl with | [_, _], _ => rfl
    have mW := PySem.W.mg_of X G dW
    have bSh : Binds K gSh ["row", "many"] [] := eSh.binds fun _ _ _ _ _ _ us hl => match us, hl with | [_, _], _ => rfl
    have mSh := PySem.W.mg_of X G dSh
    have bCd : Binds K gCd ["p", "q"] [] := eCd.binds fun _ _ _ _ _ _ us hl => match us, hl with | [_, _], _ => rfl
    have mCd := PySem.W.mg_of X G dCd
    have bLe : Binds K gLe ["row", "at_y"] [] := eLe.binds fun _ _ _ _ _ _ us hl => match us, hl with | [_, _], _ => rfl
    have mLe := PySem.W.mg_of X G dLe
    have bPo : Binds K gPo ["bag"] [] := ePo.binds fun _ _ _ _ _ _ us hl => match us, hl with | [_], _ => rfl
    have mPo := PySem.W.mg_of X G dPo
    have bFi : Binds K gFi ["bag"] [] := eFi.binds fun _ _ _ _ _ _ us hl => match us, hl with | [_], _ => rfl
    have mFi := PySem.W.mg_of X G dFi
    have bRe : Binds K gRe ["bag", "row"] [] := eRe.binds fun _ _ _ _ _ _ us hl => match us, hl with | [_, _], _ => rfl
    have mRe := PySem.W.mg_of X G dRe
    have bCh : Binds K gCh ["bag", "row"] [] := eCh.binds fun _ _ _ _ _ _ us hl => match us, hl with | [_, _], _ => rfl
    have mCh := PySem.W.mg_of X G dCh
    have M : LMg mg := { isinstance := PySem.W.mg_none_of X G z_isinstance, list := PySem.W.mg_none_of X G z_list, tuple := PySem.W.mg_none_of X G z_tuple, len := PySem.W.mg_none_of X G z_len, all := PySem.W.mg_none_of X G z_all, zip := PySem.W.mg_none_of X G z_zip, bool := PySem.W.mg_none_of X G z_bool, int := PySem.W.mg_none_of X G z_int, str := PySem.W.mg_none_of X G z_str, abs := PySem.W.mg_none_of X G z_abs, range := PySem.W.mg_none_of X G z_range, min := PySem.W.mg_none_of X G z_min, max := PySem.W.mg_none_of X G z_max, sum := PySem.W.mg_none_of X G z_sum, letters := ⟨_, PySem.W.mg_of X G cLet⟩, most := ⟨_, PySem.W.mg_of X G cMost⟩ }
    have oNum : FnOk l.prog w K mg base CX0 1 fNum gNum ["value"] spNum := ok_num eNum M.toPMg
    have oNumIn : FnOk l.prog w K mg base CX0 2 fNumIn gNumIn ["value", "low", "high"] spNumIn := ok_numIn eNumIn oNum mNum eNum.kp bNum
    have oLt : FnOk l.prog w K mg base CX0 1 fLt gLt ["value"] spLetters := ok_letters eLt M.toPMg
    have oPr : FnOk l.prog w K mg base CX0 3 fPr gPr ["value"] spPair := ok_pair ePr M.toPMg oNumIn mNumIn eNumIn.kp bNumIn oLt mLt eLt.kp bLt
    have oIf : FnOk l.prog w K mg base CX0 4 fIf gIf ["value"] (spIsFar K) := ok_isFar eIf M.toPMg oPr mPr ePr.kp bPr
    have oCk : FnOk l.prog w K mg base CX0 5 fCk gCk ["value"] (spCheck K) := ok_check eCk oIf mIf eIf.kp bIf
    have oRu : FnOk l.prog w K mg base CX0 1 fRu gRu ["far"] (spRuns K) := ok_runsOf eRu M.toPMg
    have oBe : FnOk l.prog w K mg base CX0 1 fBe gBe ["run", "many"] spBehind := ok_behind' eBe M.toPMg
    have oFl : FnOk l.prog w K mg base CX0 1 fFl gFl ["word", "many"] spFirstL := ok_firstL eFl M.toPMg
    have oCr : FnOk l.prog w K mg base CX0 2 fCr gCr ["one", "other"] spCmpR := ok_cmpR eCr M.toPMg oFl mFl eFl.kp bFl
    have oLn : FnOk l.prog w K mg base CX0 6 fLn gLn ["far"] (spFarLen K) := ok_farLen eLn M.toPMg oCk mCk eCk.kp bCk
    have oLr : FnOk l.prog w K mg base CX0 6 fLr gLr ["far", "at"] (spFarLet K) := ok_farLet eLr M.toPMg oCk mCk eCk.kp bCk
    have oCm : FnOk l.prog w K mg base CX0 6 fCm gCm ["one", "other"] (spCompare K) := ok_compare eCm M.toPMg oCk mCk eCk.kp bCk oRu mRu eRu.kp bRu oCr mCr eCr.kp bCr oBe mBe eBe.kp bBe
    have oB : FnOk l.prog w K mg base CX0 1 fB gB ["script"] (spBag K) := ok_bag eB M.int M.list
    have oD : FnOk l.prog w K mg base CX0 1 fD gD ["bag", "top"] spDraw := ok_draw eD M.len M.int M.abs
    have oO : FnOk l.prog w K mg base CX0 2 fO gO ["bag", "some"] (spOf K) := ok_of eO oD mD eD.kp bD M.len
    have oS : FnOk l.prog w K mg base CX0 5 fS gS ["found", "due"] (spSame K 4) := ok_same eS M.toSameMg mS bS 4
    have oW : FnOk l.prog w K mg base CX0 3 fW gW ["bag", "most_y"] (spWord K) := ok_word eW M.range oO mO eO.kp bO oD mD eD.kp bD
    have oSh : FnOk l.prog w K mg base CX0 1 fSh gSh ["row", "many"] spShift := ok_shift' eSh M.toPMg
    have oCd : FnOk l.prog w K mg base CX0 2 fCd gCd ["p", "q"] (spCompared K) := ok_compared eCd M.toPMg M.list M.range oSh mSh eSh.kp bSh
    have oLe : FnOk l.prog w K mg base CX0 1 fLe gLe ["row", "at_y"] spLetter := ok_letter eLe M.toPMg
    have oPo : FnOk l.prog w K mg base CX0 3 fPo gPo ["bag"] (spPower K) := ok_power ePo oO mO eO.kp bO oD mD eD.kp bD
    have oFi : FnOk l.prog w K mg base CX0 4 fFi gFi ["bag"] (spFirst K) := ok_first eFi M.range oO mO eO.kp bO oW mW eW.kp bW oPo mPo ePo.kp bPo
    have oRe : FnOk l.prog w K mg base CX0 3 fRe gRe ["bag", "row"] (spRetold K) := ok_retold eRe M.toPMg oO mO eO.kp bO oD mD eD.kp bD
    have oCh : FnOk l.prog w K mg base CX0 3 fCh gCh ["bag", "row"] (spChanged K) := ok_changed eCh M.toPMg oO mO eO.kp bO oD mD eD.kp bD
    exact ok_law eX M ⟨oB, mB, eB.kp, bB⟩ ⟨oD, mD, eD.kp, bD⟩ ⟨oO, mO, eO.kp, bO⟩ ⟨oS, mS, eS.kp, bS⟩ ⟨oFi, mFi, eFi.kp, bFi⟩ ⟨oRe, mRe, eRe.kp, bRe⟩ ⟨oCh, mCh, eCh.kp, bCh⟩ ⟨oCd, mCd, eCd.kp, bCd⟩ ⟨oLe, mLe, eLe.kp, bLe⟩ ⟨oCm, mCm, eCm.kp, bCm⟩ (Fun.turn eCm) ⟨oLn, mLn, eLn.kp, bLn⟩ ⟨oLr, mLr, eLr.kp, bLr⟩ ⟨oIf, mIf, eIf.kp, bIf⟩
end Kc

set_option Elab.async false
set_option linter.all false
set_option maxRecDepth 100000
open PySem PySem.W PyProof.Rows
set_option maxHeartbeats 0 in
theorem PySem.Challenge.cw_lexiconlines_k12_whole_far_words_compare_holds : PySem.Challenge.rw_lexiconlines_k12_whole_far_words_compare.Holds := by
  w_on; o_law; k_headL; (case hw => w_witness2)
  k_fill
  refine L2.walk_of (l := PySem.Challenge.rw_lexiconlines_k12_whole_far_words_compare) (n := 63) (k := 7) (x := "script") (CX := fun _ => L2.CX0) (sp := fun w => Kc.spLaw _) rfl (by decide) rfl ⟨rfl, by decide, by decide⟩ (fun w h Y => PySem.W.kIn_of Y) ?F (fun _ _ a ns hl _ hS => ⟨a, ns, rfl, hS, hl, fun _ => rfl⟩) (fun _ _ _ _ _ h => h)
  case F =>
    intro w mg fa h KX G hmg
    refine' Kc.all_mk KX G hmg ?dNum ?dNumIn ?dLt ?dPr ?dIf ?dCk ?dRu ?dBe ?dFl ?dCr ?dLn ?dLr ?dCm ?dB ?dD ?dO ?dS ?dW ?dSh ?dCd ?dLe ?dPo ?dFi ?dRe ?dCh ?dX ?cLet ?cMost ?eNum ?eNumIn ?eLt ?ePr ?eIf ?eCk ?eRu ?eBe ?eFl ?eCr ?eLn ?eLr ?eCm ?eB ?eD ?eO ?eS ?eW ?eSh ?eCd ?eLe ?ePo ?eFi ?eRe ?eCh ?eX ?z_isinstance ?z_list ?z_tuple ?z_len ?z_all ?z_zip ?z_bool ?z_int ?z_str ?z_abs ?z_range ?z_min ?z_max ?z_sum
    (case dNum => k_is)
    (case dNumIn => k_is)
    (case dLt => k_is)
    (case dPr => k_is)
    (case dIf => k_is)
    (case dCk => k_is)
    (case dRu => k_is)
    (case dBe => k_is)
    (case dFl => k_is)
    (case dCr => k_is)
    (case dLn => k_is)
    (case dLr => k_is)
    (case dCm => k_is)
    (case dB => k_is)
    (case dD => k_is)
    (case dO => k_is)
    (case dS => k_is)
    (case dW => k_is)
    (case dSh => k_is)
    (case dCd => k_is)
    (case dLe => k_is)
    (case dPo => k_is)
    (case dFi => k_is)
    (case dRe => k_is)
    (case dCh => k_is)
    (case dX => k_is)
    (case cLet => k_is)
    (case cMost => k_is)
    (case eNum => (refine' Kc.funAt_mk ?ml ?mc ?mk; (case ml => k_is); (case mc => k_is); (case mk => k_is)))
    (case eNumIn => (refine' Kc.funAt_mk ?ml ?mc ?mk; (case ml => k_is); (case mc => k_is); (case mk => k_is)))
    (case eLt => (refine' Kc.funAt_mk ?ml ?mc ?mk; (case ml => k_is); (case mc => k_is); (case mk => k_is)))
    (case ePr => (refine' Kc.funAt_mk ?ml ?mc ?mk; (case ml => k_is); (case mc => k_is); (case mk => k_is)))
    (case eIf => (refine' Kc.funAt_mk ?ml ?mc ?mk; (case ml => k_is); (case mc => k_is); (case mk => k_is)))
    (case eCk => (refine' Kc.funAt_mk ?ml ?mc ?mk; (case ml => k_is); (case mc => k_is); (case mk => k_is)))
    (case eRu => (refine' Kc.funAt_mk ?ml ?mc ?mk; (case ml => k_is); (case mc => k_is); (case mk => k_is)))
    (case eBe => (refine' Kc.funAt_mk ?ml ?mc ?mk; (case ml => k_is); (case mc => k_is); (case mk => k_is)))
    (case eFl => (refine' Kc.funAt_mk ?ml ?mc ?mk; (case ml => k_is); (case mc => k_is); (case mk => k_is)))
    (case eCr => (refine' Kc.funAt_mk ?ml ?mc ?mk; (case ml => k_is); (case mc => k_is); (case mk => k_is)))
    (case eLn => (refine' Kc.funAt_mk ?ml ?mc ?mk; (case ml => k_is); (case mc => k_is); (case mk => k_is)))
    (case eLr => (refine' Kc.funAt_mk ?ml ?mc ?mk; (case ml => k_is); (case mc => k_is); (case mk => k_is)))
    (case eCm => (refine' Kc.funAt_mk ?ml ?mc ?mk; (case ml => k_is); (case mc => k_is); (case mk => k_is)))
    (case eB => (refine' Kc.funAt_mk ?ml ?mc ?mk; (case ml => k_is); (case mc => k_is); (case mk => k_is)))
    (case eD => (refine' Kc.funAt_mk ?ml ?mc ?mk; (case ml => k_is); (case mc => k_is); (case mk => k_is)))
    (case eO => (refine' Kc.funAt_mk ?ml ?mc ?mk; (case ml => k_is); (case mc => k_is); (case mk => k_is)))
    (case eS => (refine' Kc.funAt_mk ?ml ?mc ?mk; (case ml => k_is); (case mc => k_is); (case mk => k_is)))
    (case eW => (refine' Kc.funAt_mk ?ml ?mc ?mk; (case ml => k_is); (case mc => k_is); (case mk => k_is)))
    (case eSh => (refine' Kc.funAt_mk ?ml ?mc ?mk; (case ml => k_is); (case mc => k_is); (case mk => k_is)))
    (case eCd => (refine' Kc.funAt_mk ?ml ?mc ?mk; (case ml => k_is); (case mc => k_is); (case mk => k_is)))
    (case eLe => (refine' Kc.funAt_mk ?ml ?mc ?mk; (case ml => k_is); (case mc => k_is); (case mk => k_is)))
    (case ePo => (refine' Kc.funAt_mk ?ml ?mc ?mk; (case ml => k_is); (case mc => k_is); (case mk => k_is)))
    (case eFi => (refine' Kc.funAt_mk ?ml ?mc ?mk; (case ml => k_is); (case mc => k_is); (case mk => k_is)))
    (case eRe => (refine' Kc.funAt_mk ?ml ?mc ?mk; (case ml => k_is); (case mc => k_is); (case mk => k_is)))
    (case eCh => (refine' Kc.funAt_mk ?ml ?mc ?mk; (case ml => k_is); (case mc => k_is); (case mk => k_is)))
    (case eX => (refine' Kc.funAt_mk ?ml ?mc ?mk; (case ml => k_is); (case mc => k_is); (case mk => k_is)))
    (case z_isinstance => k_is)
    (case z_list => k_is)
    (case z_tuple => k_is)
    (case z_len => k_is)
    (case z_all => k_is)
    (case z_zip => k_is)
    (case z_bool => k_is)
    (case z_int => k_is)
    (case z_str => k_is)
    (case z_abs => k_is)
    (case z_range => k_is)
    (case z_min => k_is)
    (case z_max => k_is)
    (case z_sum => k_is)
