import PyProof.Rows.All
import Wide.All
import OpenK.AllK
import Wide.FinOn
import PySem.Challenge.RW_lexiconlines_k01_words_judged
import HandS.ForMost
import HandS.IsInst
import HandS.TupAny
import HandS.Wide
import HandS.Flow
import HandS.Deep
import HandS.TupMul
import HandS.StrMore
import PyProof.Rows.StrMul
import HandS.Zip
import HandS.SortInts
import KE.SortData
import HandS.Strs
import HandS.Set
import KE.SortKeyHeap
import KE.GoesMore
import KE.GoesZip
import HandS.Replace
import HandS.Codes
import HandS.Walk
import PyProof.StrLawsIn
import KE.OsRunLaw
set_option Elab.async false
set_option linter.all false
set_option maxRecDepth 100000
set_option maxHeartbeats 4000000
/-! Dv0: data by value. What a value and the objects behind it tell (D), the slots of a def by value (SD), the lifted judgements -/
namespace Dv
open PySem PySem.Spec PyProof.Rows
open L2
/-- a value with what stands behind it; bag: the one object that draws change; ref: a def, a class -/
inductive D where
  | non | bl (b : Bool) | int (i : Int) | str (s : Str) | ty (n : String) | ref (a : Addr) | bag
  | lst (xs : List D) | tup (xs : List D) | ins (C : Addr) (fs : List (Str × D)) | dk (kvs : List (Key × D)) | dt (kvs : List (List Key × D))
  deriving Inhabited
def D.flat : D → Bool
  | .non | .bl _ | .int _ | .str _ | .ty _ | .ref _ => true
  | _ => false

/-! ### heaps in part -/
open Classical in
noncomputable def cut (O : Addr → Prop) (H : Hp) : Hp := fun a => if O a then none else H a
theorem cut_out {O : Addr → Prop} {H : Hp} {a : Addr} (h : ¬ O a) : cut O H a = H a := by unfold cut; rw [if_neg h]
theorem cut_in {O : Addr → Prop} {H : Hp} {a : Addr} (h : O a) : cut O H a = none := by unfold cut; rw [if_pos h]
theorem cut_some {O : Addr → Prop} {H : Hp} {a : Addr} {o : HO} (h : cut O H a = some o) : ¬ O a ∧ H a = some o := by
  by_cases z : O a
  · rw [cut_in z] at h; cases h
  · rw [cut_out z] at h; exact ⟨z, h⟩
theorem cut_le {O : Addr → Prop} {H : Hp} : Same (cut O H) H := fun a o h => (cut_some h).2
/-- what is cut less, of more -/
theorem cut_mono {O O' : Addr → Prop} {H H' : Hp} (h : ∀ a o, ¬ O a → H a = some o → ¬ O' a ∧ H' a = some o) : Same (cut O H) (cut O' H') := fun a o e => by
  obtain ⟨h1, h2⟩ := cut_some e
  obtain ⟨h3, h4⟩ := h a o h1 h2
  rw [cut_out h3]; exact h4
theorem cut_upd {O : Addr → Prop} {H : Hp} {a : Addr} {o : HO} (h : O a) : cut O (upd H a o) = cut O H := by
  funext b
  by_cases z : O b
  · rw [cut_in z, cut_in z]
  · rw [cut_out z, cut_out z, upd_ne (fun e => z (by rw [e]; exact h))]

/-- a text as Python makes it -/
structure GoodS (s : Str) : Prop where
  len : s.length ≤ sizeLine
  ok : PyData.strOk s = true
/-! ### what a value tells -/
mutual
inductive Rep (K : PySem.W.Frag) (bg : Option (Addr × Addr)) (H : Hp) : V → D → Prop
  | non : Rep K bg H .non .non
  | bl (b : Bool) : Rep K bg H (.bl b) (.bl b)
  | int (i : Int) : Rep K bg H (.int i) (.int i)
  | str {s : Str} (h : GoodS s) : Rep K bg H (.str s) (.str s)
  | ty (n : String) : Rep K bg H (.ty n) (.ty n)
  | ref (a : Addr) : Rep K bg H (.ref a) (.ref a)
  | bag {b l : Addr} (h : bg = some (b, l)) : Rep K bg H (.ref b) .bag
  | lst {a : Addr} {vs : List V} {ds : List D} (h : H a = some (.lst vs)) (hl : vs.length ≤ sizeLine) (r : RepL K bg H vs ds) : Rep K bg H (.ref a) (.lst ds)
  | tup {a : Addr} {vs : List V} {ds : List D} (h : SqT K H a vs) (hl : vs.length ≤ sizeLine) (r : RepL K bg H vs ds) : Rep K bg H (.ref a) (.tup ds)
  | ins {a C dx : Addr} {fv : List (Str × V)} {fs : List (Str × D)} (h : H a = some (.ins C dx fv)) (r : RepF K bg H fv fs) : Rep K bg H (.ref a) (.ins C fs)
  | dk {a : Addr} {kv : List (Key × V)} {kd : List (Key × D)} (h : H a = some (.dK kv)) (r : RepK K bg H kv kd) : Rep K bg H (.ref a) (.dk kd)
  | dt {a : Addr} {kv : List (List Key × V)} {kd : List (List Key × D)} (h : H a = some (.dT kv)) (r : RepT K bg H kv kd) : Rep K bg H (.ref a) (.dt kd)
inductive RepL (K : PySem.W.Frag) (bg : Option (Addr × Addr)) (H : Hp) : List V → List D → Prop
  | nil : RepL K bg H [] []
  | cons {v : V} {d : D} {vs : List V} {ds : List D} (h : Rep K bg H v d) (t : RepL K bg H vs ds) : RepL K bg H (v :: vs) (d :: ds)
inductive RepF (K : PySem.W.Frag) (bg : Option (Addr × Addr)) (H : Hp) : List (Str × V) → List (Str × D) → Prop
  | nil : RepF K bg H [] []
  | cons {f : Str} {v : V} {d : D} {vs : List (Str × V)} {ds : List (Str × D)} (h : Rep K bg H v d) (t : RepF K bg H vs ds) : RepF K bg H ((f, v) :: vs) ((f, d) :: ds)
inductive RepK (K : PySem.W.Frag) (bg : Option (Addr × Addr)) (H : Hp) : List (Key × V) → List (Key × D) → Prop
  | nil : RepK K bg H [] []
  | cons {f : Key} {v : V} {d : D} {vs : List (Key × V)} {ds : List (Key × D)} (h : Rep K bg H v d) (t : RepK K bg H vs ds) : RepK K bg H ((f, v) :: vs) ((f, d) :: ds)
inductive RepT (K : PySem.W.Frag) (bg : Option (Addr × Addr)) (H : Hp) : List (List Key × V) → List (List Key × D) → Prop
  | nil : RepT K bg H [] []
  | cons {f : List Key} {v : V} {d : D} {vs : List (List Key × V)} {ds : List (List Key × D)} (h : Rep K bg H v d) (t : RepT K bg H vs ds) : RepT K bg H ((f, v) :: vs) ((f, d) :: ds)
end
section
variable {K : PySem.W.Frag} {bg : Option (Addr × Addr)} {H H' : Hp}
theorem sqt_same {a : Addr} {xs : List V} (e : Same H H') (h : SqT K H a xs) : SqT K H' a xs := by
  rcases h with (h | ⟨o, h⟩) | h
  · exact .inl (.inl (e _ _ h))
  · exact .inl (.inr ⟨o, e _ _ h⟩)
  · exact .inr h
mutual
theorem Rep.same (e : Same H H') : ∀ {v : V} {d : D}, Rep K bg H v d → Rep K bg H' v d
  | _, _, .non => .non
  | _, _, .bl b => .bl b
  | _, _, .int i => .int i
  | _, _, .str h => .str h
  | _, _, .ty n => .ty n
  | _, _, .ref a => .ref a
  | _, _, .bag h => .bag h
  | _, _, .lst h hl r => .lst (e _ _ h) hl (RepL.same e r)
  | _, _, .tup h hl r => .tup (sqt_same e h) hl (RepL.same e r)
  | _, _, .ins h r => .ins (e _ _ h) (RepF.same e r)
  | _, _, .dk h r => .dk (e _ _ h) (RepK.same e r)
  | _, _, .dt h r => .dt (e _ _ h) (RepT.same e r)
theorem RepL.same (e : Same H H') : ∀ {v : List V} {d : List D}, RepL K bg H v d → RepL K bg H' v d
  | _, _, .nil => .nil
  | _, _, .cons h t => .cons (Rep.same e h) (RepL.same e t)
theorem RepF.same (e : Same H H') : ∀ {v : List (Str × V)} {d : List (Str × D)}, RepF K bg H v d → RepF K bg H' v d
  | _, _, .nil => .nil
  | _, _, .cons h t => .cons (Rep.same e h) (RepF.same e t)
theorem RepK.same (e : Same H H') : ∀ {v : List (Key × V)} {d : List (Key × D)}, RepK K bg H v d → RepK K bg H' v d
  | _, _, .nil => .nil
  | _, _, .cons h t => .cons (Rep.same e h) (RepK.same e t)
theorem RepT.same (e : Same H H') : ∀ {v : List (List Key × V)} {d : List (List Key × D)}, RepT K bg H v d → RepT K bg H' v d
  | _, _, .nil => .nil
  | _, _, .cons h t => .cons (Rep.same e h) (RepT.same e t)
end
theorem RepL.len : ∀ {vs : List V} {ds : List D}, RepL K bg H vs ds → vs.length = ds.length
  | _, _, .nil => rfl
  | _, _, .cons _ t => congrArg (· + 1) (RepL.len t)
theorem RepL.get : ∀ {vs : List V} {ds : List D} {i : Nat} {v : V}, RepL K bg H vs ds → vs[i]? = some v → ∃ d, ds[i]? = some d ∧ Rep K bg H v d
  | _, _, 0, v, .cons h _, e => by
    simp at e
    subst e
    exact ⟨_, rfl, h⟩
  | _, _, i + 1, v, .cons _ t, e => by
    obtain ⟨d, h1, h2⟩ := RepL.get (i := i) t (by simpa using e)
    exact ⟨d, by simpa using h1, h2⟩
theorem RepL.getD : ∀ {vs : List V} {ds : List D} {i : Nat} {d : D}, RepL K bg H vs ds → ds[i]? = some d → ∃ v, vs[i]? = some v ∧ Rep K bg H v d
  | _, _, 0, v, .cons h _, e => by
    simp at e
    subst e
    exact ⟨_, rfl, h⟩
  | _, _, i + 1, v, .cons _ t, e => by
    obtain ⟨d, h1, h2⟩ := RepL.getD (i := i) t (by simpa using e)
    exact ⟨d, by simpa using h1, h2⟩
theorem RepL.app : ∀ {vs ws : List V} {ds es : List D}, RepL K bg H vs ds → RepL K bg H ws es → RepL K bg H (vs ++ ws) (ds ++ es)
  | _, _, _, _, .nil, h => h
  | _, _, _, _, .cons h t, k => .cons h (RepL.app t k)
theorem RepL.drop : ∀ {vs : List V} {ds : List D} (n : Nat), RepL K bg H vs ds → RepL K bg H (vs.drop n) (ds.drop n)
  | _, _, 0, h => h
  | _, _, _ + 1, .nil => .nil
  | _, _, n + 1, .cons _ t => RepL.drop n t
theorem RepL.take : ∀ {vs : List V} {ds : List D} (n : Nat), RepL K bg H vs ds → RepL K bg H (vs.take n) (ds.take n)
  | _, _, 0, _ => .nil
  | _, _, _ + 1, .nil => .nil
  | _, _, n + 1, .cons h t => .cons h (RepL.take n t)
theorem RepL.rev : ∀ {vs : List V} {ds : List D}, RepL K bg H vs ds → RepL K bg H vs.reverse ds.reverse
  | _, _, .nil => .nil
  | _, _, .cons h t => by
    rw [List.reverse_cons, List.reverse_cons]
    exact (RepL.rev t).app (.cons h .nil)
theorem RepL.set : ∀ {vs : List V} {ds : List D} {v : V} {d : D} (i : Nat), RepL K bg H vs ds → Rep K bg H v d → RepL K bg H (vs.set i v) (ds.set i d)
  | _, _, _, _, _, .nil, _ => .nil
  | _, _, _, _, 0, .cons _ t, k => .cons k t
  | _, _, _, _, i + 1, .cons h t, k => .cons h (RepL.set i t k)
theorem Rep.flat {v : V} {d : D} (h : Rep K bg H v d) (hf : d.flat = true) (H' : Hp) : Rep K bg H' v d := by
  cases h with
  | non => exact .non
  | bl b => exact .bl b
  | int i => exact .int i
  | str h => exact .str h
  | ty n => exact .ty n
  | ref a => exact .ref a
  | bag h => cases hf
  | lst h r => cases hf
  | tup h r => cases hf
  | ins h r => cases hf
  | dk h r => cases hf
  | dt h r => cases hf
end

/-! ### an object that a slot owns -/
inductive Ob where
  | lst (xs : List D) | dk (kvs : List (Key × D)) | dt (kvs : List (List Key × D))
def Ob.d : Ob → D
  | .lst xs => .lst xs
  | .dk k => .dk k
  | .dt k => .dt k
inductive RepO (K : PySem.W.Frag) (bg : Option (Addr × Addr)) (H : Hp) : HO → Ob → Prop
  | lst {vs : List V} {ds : List D} (hl : vs.length ≤ sizeLine) (r : RepL K bg H vs ds) : RepO K bg H (.lst vs) (.lst ds)
  | dk {kv : List (Key × V)} {kd : List (Key × D)} (r : RepK K bg H kv kd) : RepO K bg H (.dK kv) (.dk kd)
  | dt {kv : List (List Key × V)} {kd : List (List Key × D)} (r : RepT K bg H kv kd) : RepO K bg H (.dT kv) (.dt kd)
theorem RepO.same {K : PySem.W.Frag} {bg : Option (Addr × Addr)} {H H' : Hp} (e : Same H H') {u : HO} {o : Ob} (h : RepO K bg H u o) : RepO K bg H' u o := by
  cases h with
  | lst hl r => exact .lst hl (r.same e)
  | dk r => exact .dk (r.same e)
  | dt r => exact .dt (r.same e)
theorem RepO.rep {K : PySem.W.Frag} {bg : Option (Addr × Addr)} {H H' : Hp} {u : HO} {o : Ob} {a : Addr} (h : RepO K bg H u o) (e : Same H H') (ha : H' a = some u) : Rep K bg H' (.ref a) o.d := by
  cases h with
  | lst hl r => exact .lst ha hl (r.same e)
  | dk r => exact .dk ha (r.same e)
  | dt r => exact .dt ha (r.same e)

/-! ### slots by value -/
inductive SD where
  | un | val (d : D) | own (o : Ob)
abbrev En := List SD
/-- what may not be leant on: O0; the objects that must stay: H0; the bag and its script -/
structure Ctx where
  H0 : Hp
  O0 : Addr → Prop
  bg : Option (Addr × Addr)
def Ctx.isBag (c : Ctx) (a : Addr) : Prop := ∃ l, c.bg = some (a, l)
/-- what stands in a bag -/
structure BagOk (ns : List Int) (pos rest mixed cnt : Int) (n : Nat) : Prop where
  len : ns.length ≤ 63
  p0 : 0 ≤ pos
  r0 : 0 ≤ rest
  m0 : 0 ≤ mixed
  m1 : mixed < 2147483648
  c0 : 0 ≤ cnt
  c1 : cnt ≤ n
def bagL (l : Addr) (pos rest mixed cnt : Int) : HO := .lst [.ref l, .int pos, .int rest, .int mixed, .int cnt]
def BagAt (H : Hp) (b l : Addr) (n : Nat) : Prop := ∃ (ns : List Int) (pos rest mixed cnt : Int), H b = some (bagL l pos rest mixed cnt) ∧ H l = some (.lst (ns.map V.int)) ∧ BagOk ns pos rest mixed cnt n
theorem BagAt.ne {H : Hp} {b l : Addr} {n : Nat} (h : BagAt H b l n) : l ≠ b := fun e => by
  obtain ⟨ns, p, r, m, c, h1, h2, _⟩ := h
  subst e
  rw [h1] at h2
  have z := HO.lst.inj (Option.some.inj h2)
  cases ns with
  | nil => cases z
  | cons x r => cases z
def CW (c : Ctx) (n : Nat) (H : Hp) : Prop := ∀ b l, c.bg = some (b, l) → BagAt H b l n ∧ c.O0 b ∧ c.O0 l
structure EStp (c : Ctx) (H H' : Hp) (n : Nat) : Prop where
  keep : ∀ a o, H a = some o → ¬ c.isBag a → H' a = some o
  bag : CW c n H'
def Own (env : En) (i : Nat) : Prop := ∃ o, env[i]? = some (.own o)
def Oa (c : Ctx) (ad : Nat → Addr) (env : En) (a : Addr) : Prop := c.O0 a ∨ ∃ i, Own env i ∧ a = ad i
def SlotR (K : PySem.W.Frag) (c : Ctx) (ad : Nat → Addr) (H : Hp) (env : En) (σ : L2.St) (i : Nat) : SD → Prop
  | .un => True
  | .val d => ∃ v, σ[i]? = some (some v) ∧ Rep K c.bg (cut (Oa c ad env) H) v d
  | .own o => σ[i]? = some (some (.ref (ad i))) ∧ ∃ u, H (ad i) = some u ∧ RepO K c.bg (cut (Oa c ad env) H) u o
structure Rel (K : PySem.W.Frag) (c : Ctx) (ad : Nat → Addr) (n : Nat) (σ : L2.St) (H : Hp) (env : En) : Prop where
  len : env.length ≤ σ.length
  base : ∀ a o, c.H0 a = some o → ¬ c.isBag a → H a = some o
  dom : ∀ a, c.O0 a → H a ≠ none
  bag : CW c n H
  inj : ∀ i j, Own env i → Own env j → ad i = ad j → i = j
  fresh : ∀ i, Own env i → c.H0 (ad i) = none
  notO : ∀ i, Own env i → ¬ c.O0 (ad i)
  slot : ∀ i sd, env[i]? = some sd → SlotR K c ad H env σ i sd
section
variable {K : PySem.W.Frag} {c : Ctx} {ad : Nat → Addr} {n n' : Nat} {σ : L2.St} {H H' : Hp} {env : En}
theorem Rel.nbag (R : Rel K c ad n σ H env) {i : Nat} (h : Own env i) : ¬ c.isBag (ad i) := fun ⟨l, e⟩ => R.notO i h ((R.bag _ _ e).2.1)
theorem Rel.oaDom (R : Rel K c ad n σ H env) {a : Addr} (h : Oa c ad env a) : H a ≠ none := by
  rcases h with h | ⟨i, ⟨o, ho⟩, rfl⟩
  · exact R.dom a h
  · obtain ⟨_, u, hu, _⟩ := R.slot i _ ho
    rw [hu]; exact fun z => nomatch z
theorem Rel.free (R : Rel K c ad n σ H env) {p : Addr} (h : H p = none) : ¬ Oa c ad env p := fun z => R.oaDom z h
theorem oa_bag (hb : CW c n H) {a : Addr} (h : c.isBag a) : c.O0 a := by
  obtain ⟨l, e⟩ := h
  exact (hb _ _ e).2.1
theorem EStp.refl (hb : CW c n H) : EStp c H H n := ⟨fun _ _ h _ => h, hb⟩
theorem EStp.trans {H1 H2 : Hp} {n1 n2 : Nat} (a : EStp c H H1 n1) (b : EStp c H1 H2 n2) : EStp c H H2 n2 := ⟨fun x o h hb => b.keep x o (a.keep x o h hb) hb, b.bag⟩
/-- what is read off outside the forbidden part stays -/
theorem EStp.cut {O : Addr → Prop} (a : EStp c H H' n') (hO : ∀ x, c.isBag x → O x) : Same (cut O H) (cut O H') := cut_mono fun x o h1 h2 => ⟨h1, a.keep x o h2 fun z => h1 (hO x z)⟩
theorem EStp.new {p : Addr} {o : HO} (hb : CW c n H) (hp : H p = none) : EStp c H (upd H p o) n := by
  have hne : ∀ a u, H a = some u → a ≠ p := fun a u e z => by subst z; rw [hp] at e; cases e
  refine ⟨fun a u e _ => by rw [upd_ne (hne a u e)]; exact e, fun b l e => ?_⟩
  obtain ⟨⟨ns, q, r, m, k, h1, h2, h3⟩, h4⟩ := hb b l e
  exact ⟨⟨ns, q, r, m, k, by rw [upd_ne (hne _ _ h1)]; exact h1, by rw [upd_ne (hne _ _ h2)]; exact h2, h3⟩, h4⟩
/-- objects that stay, the bag among them -/
theorem EStp.of_same (hb : CW c n H) (e : Same H H') : EStp c H H' n := ⟨fun a o h _ => e a o h, fun b l z => by
  obtain ⟨⟨ns, q, r, m, k, h1, h2, h3⟩, h4⟩ := hb b l z
  exact ⟨⟨ns, q, r, m, k, e _ _ h1, e _ _ h2, h3⟩, h4⟩⟩
theorem Rel.step (R : Rel K c ad n σ H env) (a : EStp c H H' n') : Rel K c ad n' σ H' env := by
  have hO : ∀ x, c.isBag x → Oa c ad env x := fun x z => .inl (oa_bag R.bag z)
  have hs := a.cut hO
  refine ⟨R.len, fun x o h hb => a.keep x o (R.base x o h hb) hb, fun x hx => ?_, a.bag, R.inj, R.fresh, R.notO, fun i sd e => ?_⟩
  · by_cases z : c.isBag x
    · obtain ⟨l, e⟩ := z
      obtain ⟨⟨ns, q, r, m, k, h1, _⟩, _⟩ := a.bag _ _ e
      rw [h1]; exact fun z => nomatch z
    · cases q : H x with
      | none => exact absurd q (R.dom x hx)
      | some o => rw [a.keep x o q z]; exact fun z => nomatch z
  · have := R.slot i sd e
    cases sd with
    | un => trivial
    | val d => obtain ⟨v, h1, h2⟩ := this; exact ⟨v, h1, h2.same hs⟩
    | own o =>
      obtain ⟨h1, u, h2, h3⟩ := this
      exact ⟨h1, u, a.keep _ _ h2 (R.nbag ⟨o, e⟩), h3.same hs⟩
end

/-! ### the lifted judgements -/
abbrev WE := En → Nat → (D → Nat → Prop) → Prop
abbrev WT := En → Nat → (Bool → Nat → Prop) → Prop
abbrev WA := En → Nat → (List D → Nat → Prop) → Prop
abbrev WO := En → Nat → (Ob → Nat → Prop) → Prop
structure DEnds where
  nx : En → Nat → Prop
  rt : D → Nat → Prop
  bk : En → Nat → Prop := fun _ _ => False
  ct : En → Nat → Prop := fun _ _ => False
  rf : Ob → Nat → Prop := fun _ _ => False
abbrev WS := DEnds → En → Nat → Prop
/-- what a borrowed value tells: its items lean on nothing forbidden -/
inductive Sh (K : PySem.W.Frag) (bg : Option (Addr × Addr)) (O : Addr → Prop) (H : Hp) : V → D → Prop
  | rep {v : V} {d : D} (h : Rep K bg (cut O H) v d) : Sh K bg O H v d
  | own {a : Addr} {u : HO} {o : Ob} (hb : ∀ p l, bg = some (p, l) → a ≠ p ∧ a ≠ l) (h : H a = some u) (r : RepO K bg (cut O H) u o) : Sh K bg O H (.ref a) o.d
inductive ShL (K : PySem.W.Frag) (bg : Option (Addr × Addr)) (O : Addr → Prop) (H : Hp) : List V → List D → Prop
  | nil : ShL K bg O H [] []
  | cons {v : V} {d : D} {vs : List V} {ds : List D} (h : Sh K bg O H v d) (t : ShL K bg O H vs ds) : ShL K bg O H (v :: vs) (d :: ds)
def lE (K : PySem.W.Frag) (w : WE) : TE := fun σ H Q => ∃ c ad n env Q0, Rel K c ad n σ H env ∧ w env n Q0 ∧ ∀ d n', Q0 d n' → ∀ v H', EStp c H H' n' → Rep K c.bg (cut (Oa c ad env) H') v d → Q v H'
def lB (K : PySem.W.Frag) (w : WE) : TE := fun σ H Q => ∃ c ad n env Q0, Rel K c ad n σ H env ∧ w env n Q0 ∧ ∀ d n', Q0 d n' → ∀ v H', EStp c H H' n' → Sh K c.bg (Oa c ad env) H' v d → Q v H'
/-- a new object, whose items lean on nothing forbidden and not on itself -/
def lF (K : PySem.W.Frag) (w : WO) : TE := fun σ H Q => ∃ c ad n env Q0, Rel K c ad n σ H env ∧ w env n Q0 ∧ ∀ o n', Q0 o n' → ∀ p u H', H p = none → EStp c H H' n' → H' p = some u → RepO K c.bg (cut (fun a => Oa c ad env a ∨ a = p) H') u o → Q (.ref p) H'
def lT (K : PySem.W.Frag) (w : WT) : TT := fun σ H Q => ∃ c ad n env Q0, Rel K c ad n σ H env ∧ w env n Q0 ∧ ∀ b n', Q0 b n' → ∀ H', EStp c H H' n' → Q b H'
def lA (K : PySem.W.Frag) (w : WA) : TA := fun σ H Q => ∃ c ad n env Q0, Rel K c ad n σ H env ∧ w env n Q0 ∧ ∀ ds n', Q0 ds n' → ∀ vs H', EStp c H H' n' → RepL K c.bg (cut (Oa c ad env) H') vs ds → Q vs H'
def lAB (K : PySem.W.Frag) (w : WA) : TA := fun σ H Q => ∃ c ad n env Q0, Rel K c ad n σ H env ∧ w env n Q0 ∧ ∀ ds n', Q0 ds n' → ∀ vs H', EStp c H H' n' → ShL K c.bg (Oa c ad env) H' vs ds → Q vs H'
structure SEnds (K : PySem.W.Frag) (c : Ctx) (D0 : DEnds) (E : Ends) : Prop where
  nx : ∀ env n, D0.nx env n → ∀ σ H ad, Rel K c ad n σ H env → E.nx σ H
  bk : ∀ env n, D0.bk env n → ∀ σ H ad, Rel K c ad n σ H env → E.bk σ H
  ct : ∀ env n, D0.ct env n → ∀ σ H ad, Rel K c ad n σ H env → E.ct σ H
  rt : ∀ d n, D0.rt d n → ∀ v H, (∀ a o, c.H0 a = some o → ¬ c.isBag a → H a = some o) → CW c n H → Rep K c.bg (cut c.O0 H) v d → E.rt v H
  rf : ∀ o n, D0.rf o n → ∀ p u H, c.H0 p = none → (∀ a o, c.H0 a = some o → ¬ c.isBag a → H a = some o) → CW c n H → H p = some u → RepO K c.bg (cut (fun a => c.O0 a ∨ a = p) H) u o → E.rt (.ref p) H
def lS (K : PySem.W.Frag) (w : WS) : TS := fun E σ H => ∃ c ad n env D0, Rel K c ad n σ H env ∧ w D0 env n ∧ SEnds K c D0 E
structure DE (X : Cx) (e : Expr) (w : WE) : Prop where
  pe : PE X e (lE X.K w)
structure DB (X : Cx) (e : Expr) (w : WE) : Prop where
  pe : PE X e (lB X.K w)
structure DF (X : Cx) (e : Expr) (w : WO) : Prop where
  pe : PE X e (lF X.K w)
structure DT (X : Cx) (e : Expr) (w : WT) : Prop where
  pt : PT X e (lT X.K w)
structure DW (X : Cx) (e : Expr) (w : WT) : Prop where
  pw : PW X e (lT X.K w)
structure DA (X : Cx) (es : List Expr) (w : WA) : Prop where
  pa : PA X es (lA X.K w)
structure DAB (X : Cx) (es : List Expr) (w : WA) : Prop where
  pa : PA X es (lAB X.K w)
structure DS (X : Cx) (st : Stmt) (w : WS) : Prop where
  ps : PS X st (lS X.K w)
structure DSs (X : Cx) (st : List Stmt) (w : WS) : Prop where
  ps : PSs X st (lS X.K w)
end Dv

set_option Elab.async false
set_option linter.all false
set_option maxRecDepth 100000
set_option maxHeartbeats 4000000
/-! Dv1: names, constants, operators, tests by value -/
namespace Dv
open PySem PySem.Spec PyProof.Rows L2
/-! ### to weaken a reading -/
section
variable {X : Cx}
theorem peImp {e : Expr} {t t' : TE} (h : PE X e t) (k : ∀ σ H Q, t' σ H Q → t σ H Q) : PE X e t' := ⟨fun pins s σ H Q I q => h.run pins s σ H Q I (k _ _ _ q)⟩
theorem ptImp {e : Expr} {t t' : TT} (h : PT X e t) (k : ∀ σ H Q, t' σ H Q → t σ H Q) : PT X e t' := ⟨fun pins s σ H Q I q => h.run pins s σ H Q I (k _ _ _ q)⟩
theorem pwImp {e : Expr} {t t' : TT} (h : PW X e t) (k : ∀ σ H Q, t' σ H Q → t σ H Q) : PW X e t' := ⟨fun wh pins s σ H Q I q => h.run wh pins s σ H Q I (k _ _ _ q)⟩
theorem paImp {e : List Expr} {t t' : TA} (h : PA X e t) (k : ∀ σ H Q, t' σ H Q → t σ H Q) : PA X e t' := ⟨fun po pins s σ H Q I q => h.run po pins s σ H Q I (k _ _ _ q)⟩
theorem psImp {e : Stmt} {t t' : TS} (h : PS X e t) (k : ∀ D σ H, t' D σ H → t D σ H) : PS X e t' := ⟨fun pins s σ H D I q => h.run pins s σ H D I (k _ _ _ q)⟩
theorem pssImp {e : List Stmt} {t t' : TS} (h : PSs X e t) (k : ∀ D σ H, t' D σ H → t D σ H) : PSs X e t' := ⟨fun pins s σ H D I q => h.run pins s σ H D I (k _ _ _ q)⟩
end
section
variable {K : PySem.W.Frag} {bg : Option (Addr × Addr)} {O : Addr → Prop} {H H' : Hp} {c : Ctx} {n n' : Nat} {ad : Nat → Addr} {σ : L2.St} {env : En}
theorem Sh.step {v : V} {d : D} (h : Sh K c.bg O H v d) (a : EStp c H H' n') (hO : ∀ x, c.isBag x → O x) : Sh K c.bg O H' v d := by
  cases h with
  | rep h => exact .rep (h.same (a.cut hO))
  | own hb h r => exact .own hb (a.keep _ _ h (fun ⟨l, e⟩ => (hb _ l e).1 rfl)) (r.same (a.cut hO))
theorem ShL.step (a : EStp c H H' n') (hO : ∀ x, c.isBag x → O x) : ∀ {v : List V} {d : List D}, ShL K c.bg O H v d → ShL K c.bg O H' v d
  | _, _, .nil => .nil
  | _, _, .cons h t => .cons (h.step a hO) (ShL.step a hO t)
theorem ShL.of : ∀ {v : List V} {d : List D}, RepL K bg (cut O H) v d → ShL K bg O H v d
  | _, _, .nil => .nil
  | _, _, .cons h t => .cons (.rep h) (ShL.of t)
theorem Sh.int' {v : V} {i : Int} (h : Sh K bg O H v (.int i)) : v = .int i := by
  generalize e : D.int i = d at h
  cases h with
  | rep h => subst e; cases h; rfl
  | @own a u o hb h r => cases o <;> cases e
theorem Sh.bl' {v : V} {i : Bool} (h : Sh K bg O H v (.bl i)) : v = .bl i := by
  generalize e : D.bl i = d at h
  cases h with
  | rep h => subst e; cases h; rfl
  | @own a u o hb h r => cases o <;> cases e
theorem Sh.non' {v : V} (h : Sh K bg O H v .non) : v = .non := by
  generalize e : D.non = d at h
  cases h with
  | rep h => subst e; cases h; rfl
  | @own a u o hb h r => cases o <;> cases e
theorem Sh.ty' {v : V} {i : String} (h : Sh K bg O H v (.ty i)) : v = .ty i := by
  generalize e : D.ty i = d at h
  cases h with
  | rep h => subst e; cases h; rfl
  | @own a u o hb h r => cases o <;> cases e
theorem Sh.ref' {v : V} {i : Addr} (h : Sh K bg O H v (.ref i)) : v = .ref i := by
  generalize e : D.ref i = d at h
  cases h with
  | rep h => subst e; cases h; rfl
  | @own a u o hb h r => cases o <;> cases e
theorem Sh.str' {v : V} {i : Str} (h : Sh K bg O H v (.str i)) : v = .str i ∧ GoodS i := by
  generalize e : D.str i = d at h
  cases h with
  | rep h =>
    subst e
    cases h with
    | str h => exact ⟨rfl, h⟩
  | @own a u o hb h r => cases o <;> cases e
theorem Sh.bag' {v : V} (h : Sh K bg O H v .bag) : ∃ b l, v = .ref b ∧ bg = some (b, l) := by
  generalize e : D.bag = d at h
  cases h with
  | rep h =>
    subst e
    cases h with
    | bag h => exact ⟨_, _, rfl, h⟩
  | @own a u o hb h r => cases o <;> cases e
theorem Sh.lst' {v : V} {ds : List D} (h : Sh K bg O H v (.lst ds)) : ∃ a vs, v = .ref a ∧ H a = some (.lst vs) ∧ vs.length ≤ sizeLine ∧ RepL K bg (cut O H) vs ds := by
  generalize e : D.lst ds = d at h
  cases h with
  | rep h =>
    subst e
    cases h with
    | lst h hl r => exact ⟨_, _, rfl, cut_le _ _ h, hl, r⟩
  | @own a u o hb h r =>
    cases o with
    | lst xs =>
      cases e
      cases r with
      | lst hl r => exact ⟨_, _, rfl, h, hl, r⟩
    | dk k => cases e
    | dt k => cases e
theorem Sh.tup' {v : V} {ds : List D} (h : Sh K bg O H v (.tup ds)) : ∃ a vs, v = .ref a ∧ SqT K H a vs ∧ vs.length ≤ sizeLine ∧ RepL K bg (cut O H) vs ds := by
  generalize e : D.tup ds = d at h
  cases h with
  | rep h =>
    subst e
    cases h with
    | tup h hl r => exact ⟨_, _, rfl, sqt_same cut_le h, hl, r⟩
  | @own a u o hb h r => cases o <;> cases e
theorem Sh.tupRep {v : V} {ds : List D} (h : Sh K bg O H v (.tup ds)) : Rep K bg (cut O H) v (.tup ds) := by
  generalize e : D.tup ds = d at h
  cases h with
  | rep h => subst e; exact h
  | @own a u o hb h r => cases o <;> cases e
theorem Sh.flat {v : V} {d : D} (h : Sh K bg O H v d) (hf : d.flat = true) : Rep K bg (cut O H) v d := by
  cases h with
  | rep h => exact h
  | @own a u o hb h r => cases o <;> cases hf
/-- a new list, a new tuple -/
theorem rep_new {p : Addr} {vs : List V} {ds : List D} (hO : ∀ a, O a → H a ≠ none) (hp : H p = none) (hl : vs.length ≤ sizeLine) (r : RepL K bg (cut O H) vs ds) :
    Same H (upd H p (.lst vs)) ∧ Rep K bg (cut O (upd H p (.lst vs))) (.ref p) (.lst ds) := by
  have hn : ¬ O p := fun z => hO p z hp
  have sm : Same H (upd H p (.lst vs)) := fun a o e => by
    by_cases z : a = p
    · subst z; rw [hp] at e; cases e
    · rw [upd_ne z]; exact e
  refine ⟨sm, .lst (by rw [cut_out hn]; exact upd_same) hl (r.same (cut_mono fun a o h1 h2 => ⟨h1, sm _ _ h2⟩))⟩
theorem rep_newT {p : Addr} {vs : List V} {ds : List D} (hO : ∀ a, O a → H a ≠ none) (hp : H p = none) (hl : vs.length ≤ sizeLine) (r : RepL K bg (cut O H) vs ds) :
    Same H (upd H p (.tup vs)) ∧ Rep K bg (cut O (upd H p (.tup vs))) (.ref p) (.tup ds) := by
  have hn : ¬ O p := fun z => hO p z hp
  have sm : Same H (upd H p (.tup vs)) := fun a o e => by
    by_cases z : a = p
    · subst z; rw [hp] at e; cases e
    · rw [upd_ne z]; exact e
  refine ⟨sm, .tup (.inl (.inl (by rw [cut_out hn]; exact upd_same))) hl (r.same (cut_mono fun a o h1 h2 => ⟨h1, sm _ _ h2⟩))⟩
theorem Rel.oaB (R : Rel K c ad n σ H env) : ∀ x, c.isBag x → Oa c ad env x := fun x z => .inl (oa_bag R.bag z)
theorem Rel.oaD (R : Rel K c ad n σ H env) : ∀ a, Oa c ad env a → H a ≠ none := fun a h => R.oaDom h
end

/-! ### names and constants -/
def SD.get : SD → Option D
  | .un => none
  | .val d => some d
  | .own o => some o.d
def wVar (i : Nat) : WE := fun env n Q => ∃ d, env[i]? = some (.val d) ∧ Q d n
def wVarB (i : Nat) : WE := fun env n Q => ∃ s d, env[i]? = some s ∧ s.get = some d ∧ Q d n
def wC (d : D) : WE := fun _ n Q => Q d n
section
variable {X : Cx}
theorem DE.of {e : Expr} {t : TE} {w : WE} (h : PE X e t) (k : ∀ σ H Q, lE X.K w σ H Q → t σ H Q) : DE X e w := ⟨peImp h k⟩
theorem DE.b {e : Expr} {w : WE} (h : DE X e w) : DB X e w := ⟨peImp h.pe fun σ H Q ⟨c, ad, n, env, Q0, R, q0, q⟩ => ⟨c, ad, n, env, Q0, R, q0, fun d n' hd v H' e r => q d n' hd v H' e (.rep r)⟩⟩
theorem dv (i : Nat) {x : Str} {pos : Pos} (hN : X.N[i]? = some x := by rfl) (hv : Vis X.env.scope x := by first | exact Or.inl rfl | exact Or.inr (Or.inl rfl) | exact Or.inr (Or.inr rfl)) (hd : (x == ("__debug__" : Str)) = false := by decide)
    (hcd : (x == ("__classdict__" : Str)) = false := by decide) : DE X (.Name x pos) (wVar i) := .of (pe_var hN hv hd hcd) fun σ H Q ⟨c, ad, n, env, Q0, R, ⟨d, e, q0⟩, q⟩ => by
  obtain ⟨v, h1, h2⟩ := R.slot i _ e
  exact ⟨v, h1, q d n q0 v H (.refl R.bag) h2⟩
theorem dvb (i : Nat) {x : Str} {pos : Pos} (hN : X.N[i]? = some x := by rfl) (hv : Vis X.env.scope x := by first | exact Or.inl rfl | exact Or.inr (Or.inl rfl) | exact Or.inr (Or.inr rfl)) (hd : (x == ("__debug__" : Str)) = false := by decide)
    (hcd : (x == ("__classdict__" : Str)) = false := by decide) : DB X (.Name x pos) (wVarB i) := ⟨peImp (pe_var hN hv hd hcd) fun σ H Q ⟨c, ad, n, env, Q0, R, ⟨s, d, e, g, q0⟩, q⟩ => by
  have sl := R.slot i _ e
  cases s with
  | un => cases g
  | val d' =>
    cases g
    obtain ⟨v, h1, h2⟩ := sl
    exact ⟨v, h1, q d n q0 v H (.refl R.bag) (.rep h2)⟩
  | own o =>
    cases g
    obtain ⟨h1, u, h2, h3⟩ := sl
    exact ⟨_, h1, q o.d n q0 _ H (.refl R.bag) (.own (fun p l z => ⟨fun w => R.nbag ⟨o, e⟩ ⟨l, by rw [w]; exact z⟩, fun w => R.notO i ⟨o, e⟩ (by rw [w]; exact (R.bag _ _ z).2.2)⟩) h2 h3)⟩⟩
theorem de_c {e : Expr} {v : V} {d : D} (h : PE X e (tC v)) (r : ∀ bg H, Rep X.K bg H v d) : DE X e (wC d) := .of h fun σ H Q ⟨c, ad, n, env, Q0, R, q0, q⟩ => q d n q0 v H (.refl R.bag) (r _ _)
theorem de_int {i : Int} {j pos} : DE X (.Constant (.int i) j pos) (wC (.int i)) := de_c pe_int fun _ _ => .int i
theorem de_bl {b j pos} : DE X (.Constant (.bool b) j pos) (wC (.bl b)) := de_c pe_bl fun _ _ => .bl b
theorem de_non {j pos} : DE X (.Constant .none j pos) (wC .non) := de_c pe_non fun _ _ => .non
theorem de_str {x : Str} {j pos} (h : GoodS x := by exact ⟨by decide +kernel, by decide +kernel⟩) : DE X (.Constant (.str x) j pos) (wC (.str x)) := de_c pe_str fun _ _ => .str h
/-- a module's constant -/
theorem de_glob {x : Str} {v : V} {d : D} {u : Value} {pos : Pos} (hg : Gl X x) (hm : X.mg x = some u) (r : RelV v u) (hr : ∀ bg H, Rep X.K bg H v d) (hd : (x == ("__debug__" : Str)) = false := by decide) : DE X (.Name x pos) (wC d) := de_c (pe_glob hg hm r hd) hr
theorem de_gstr {x s : Str} {pos : Pos} (hm : ∃ t, X.mg x = some (.str s t)) (hg : Gl X x := by rfl) (h : GoodS s := by exact ⟨by decide +kernel, by decide +kernel⟩) (hd : (x == ("__debug__" : Str)) = false := by decide) : DE X (.Name x pos) (wC (.str s)) := by
  obtain ⟨t, e⟩ := hm
  exact de_c (pe_glob (v := .str s) hg e ⟨t, rfl⟩ hd) fun _ _ => .str h
theorem de_gint {x : Str} {i : Int} {pos : Pos} (hm : ∃ t, X.mg x = some (.int i t)) (hg : Gl X x := by rfl) (hd : (x == ("__debug__" : Str)) = false := by decide) : DE X (.Name x pos) (wC (.int i)) := by
  obtain ⟨t, e⟩ := hm
  exact de_c (pe_glob (v := .int i) hg e ⟨t, rfl⟩ hd) fun _ _ => .int i
/-- a built-in type's name as a value -/
theorem de_ty {x : Str} {T : String} {pos : Pos} (hm : X.mg x = none) (hg : Gl X x := by rfl) (hv : bootBuiltins x = some (.type T) := by decide +kernel) (hn : x ≠ "__name__" := by decide) (hd : (x == ("__debug__" : Str)) = false := by decide) : DE X (.Name x pos) (wC (.ty T)) :=
  de_c (pe_bltn (v := .ty T) hg hm hv rfl hn hd) fun _ _ => .ty T
end

/-! ### operators -/
abbrev RR := D → D → (D → Prop) → Prop
def LinkD (K : PySem.W.Frag) (r : R2) (Rd : RR) : Prop := ∀ (bg : Option (Addr × Addr)) (O : Addr → Prop) (H : Hp) (v1 v2 : V) (d1 d2 : D) (Q0 : D → Prop) (Q : VK), (∀ a, O a → H a ≠ none) → Sh K bg O H v1 d1 → Sh K bg O H v2 d2 → Rd d1 d2 Q0 →
  (∀ d, Q0 d → ∀ v H', Same H H' → Rep K bg (cut O H') v d → Q v H') → r v1 v2 H Q
structure OpD (X : Cx) (f : Value → Value → Sem Value) (Rd : RR) : Prop where
  ex : ∃ r, OpR X f r ∧ LinkD X.K r Rd
def wOp (Rd : RR) (wa wb : WE) : WE := fun env n Q => wa env n fun d1 n1 => wb env n1 fun d2 n2 => Rd d1 d2 fun d => Q d n2
section
variable {X : Cx} {a b e : Expr} {wa wb wc : WE} {pos : Pos} {Rd Rd' : RR}
/-- two operands, then what is done of their values -/
theorem two {σ : L2.St} {H : Hp} {c : Ctx} {ad : Nat → Addr} {n : Nat} {env : En} {K : PySem.W.Frag} {P0 : D → D → Nat → Prop} {R : V → V → Hp → Prop} (RL : Rel K c ad n σ H env) (q0 : wa env n fun d1 n1 => wb env n1 fun d2 n2 => P0 d1 d2 n2)
    (h : ∀ v1 v2 d1 d2 n2 H2, EStp c H H2 n2 → Sh K c.bg (Oa c ad env) H2 v1 d1 → Sh K c.bg (Oa c ad env) H2 v2 d2 → P0 d1 d2 n2 → R v1 v2 H2) : lB K wa σ H fun x H1 => lB K wb σ H1 fun y H2 => R x y H2 := by
  refine ⟨c, ad, n, env, _, RL, q0, fun d1 n1 q1 v1 H1 e1 s1 => ⟨c, ad, n1, env, _, RL.step e1, q1, fun d2 n2 q2 v2 H2 e2 s2 => ?_⟩⟩
  exact h v1 v2 d1 d2 n2 H2 (e1.trans e2) (s1.step e2 RL.oaB) s2 q2
theorem de_op {op : Operator} (ho : OpD X (binaryOp op) Rd) (ha : DB X a wa) (hb : DB X b wb) : DE X (.BinOp a op b pos) (wOp Rd wa wb) := by
  obtain ⟨r, hr, hl⟩ := ho.ex
  refine .of (pe_op hr ha.pe hb.pe) fun σ H Q ⟨c, ad, n, env, Q0, R, q0, q⟩ => ?_
  exact two (P0 := fun d1 d2 n2 => Rd d1 d2 fun d => Q0 d n2) R q0 fun v1 v2 d1 d2 n2 H2 e s1 s2 q2 => hl c.bg _ H2 v1 v2 d1 d2 _ _ (R.step e).oaD s1 s2 q2 fun d hd v H3 sm rp => q d n2 hd v H3 (e.trans (.of_same e.bag sm)) rp
theorem de_cmp {op : CmpOp} (ho : OpD X (compareOp op) Rd) (ha : DB X a wa) (hb : DB X b wb) (hm : behindInMarks op b = false := by first | exact nomark _ | rfl | with_unfolding_all rfl) : DE X (.Compare a [op] [b] pos) (wOp Rd wa wb) := by
  obtain ⟨r, hr, hl⟩ := ho.ex
  refine .of (pe_cmpR hr ha.pe hb.pe hm) fun σ H Q ⟨c, ad, n, env, Q0, R, q0, q⟩ => ?_
  exact two (P0 := fun d1 d2 n2 => Rd d1 d2 fun d => Q0 d n2) R q0 fun v1 v2 d1 d2 n2 H2 e s1 s2 q2 => hl c.bg _ H2 v1 v2 d1 d2 _ _ (R.step e).oaD s1 s2 q2 fun d hd v H3 sm rp => q d n2 hd v H3 (e.trans (.of_same e.bag sm)) rp
/-- a value that is a bool, as a test -/
def wTest (w : WE) : WT := fun env n Q => w env n fun d n1 => ∃ k, d = .bl k ∧ Q k n1
theorem dt_cmp {op : CmpOp} (ho : OpD X (compareOp op) Rd) (ha : DB X a wa) (hb : DB X b wb) (hm : behindInMarks op b = false := by first | exact nomark _ | rfl | with_unfolding_all rfl) : DT X (.Compare a [op] [b] pos) (wTest (wOp Rd wa wb)) := by
  obtain ⟨r, hr, hl⟩ := ho.ex
  refine ⟨ptImp (pt_cmpR hr ha.pe hb.pe hm) fun σ H Q ⟨c, ad, n, env, Q0, R, q0, q⟩ => ?_⟩
  refine two (P0 := fun d1 d2 n2 => Rd d1 d2 fun d => ∃ k, d = .bl k ∧ Q0 k n2) R q0 fun v1 v2 d1 d2 n2 H2 e s1 s2 q2 => hl c.bg _ H2 v1 v2 d1 d2 _ _ (R.step e).oaD s1 s2 q2 fun d hd v H3 sm rp => ?_
  obtain ⟨k, rfl, hk⟩ := hd
  cases rp
  exact ⟨k, rfl, q k n2 hk H3 (e.trans (.of_same e.bag sm))⟩
/-- a op1 b op2 c -/
def wChain (Rd Rd' : RR) (wa wb wc : WE) : WE := fun env n Q => wa env n fun d1 n1 => wb env n1 fun d2 n2 => Rd d1 d2 fun d => ∃ k, d = .bl k ∧ if k = true then wc env n2 fun d3 n3 => Rd' d2 d3 fun d => Q d n3 else Q (.bl false) n2
theorem lchain {op op' : CmpOp} {r r' : R2} (hl : LinkD X.K r Rd) (hl' : LinkD X.K r' Rd') {σ : L2.St} {H : Hp} {c : Ctx} {ad : Nat → Addr} {n : Nat} {env : En} {Q0 : D → Nat → Prop} {Q : VK} (R : Rel X.K c ad n σ H env) (q0 : wChain Rd Rd' wa wb wc env n Q0)
    (q : ∀ d n', Q0 d n' → ∀ v H', EStp c H H' n' → Rep X.K c.bg (cut (Oa c ad env) H') v d → Q v H') : tChain r r' (lB X.K wa) (lB X.K wb) (lB X.K wc) σ H Q := by
  refine two (P0 := fun d1 d2 n2 => Rd d1 d2 fun d => ∃ k, d = .bl k ∧ if k = true then wc env n2 fun d3 n3 => Rd' d2 d3 fun d => Q0 d n3 else Q0 (.bl false) n2) R q0 fun v1 v2 d1 d2 n2 H2 e s1 s2 q2 => ?_
  refine hl c.bg _ H2 v1 v2 d1 d2 _ _ (R.step e).oaD s1 s2 q2 fun d hd v H3 sm rp => ?_
  have e3 := e.trans (.of_same e.bag sm)
  obtain ⟨k, rfl, hk⟩ := hd
  cases rp
  refine ⟨k, rfl, ?_⟩
  cases k with
  | false =>
    rw [if_neg Bool.false_ne_true] at hk ⊢
    exact q _ _ hk _ H3 e3 (.bl _)
  | true =>
    rw [if_pos rfl] at hk ⊢
    refine ⟨c, ad, n2, env, _, R.step e3, hk, fun d3 n3 q3 v3 H4 e4 s4 => ?_⟩
    refine hl' c.bg _ H4 v2 v3 d2 d3 _ _ ((R.step e3).step e4).oaD ((s2.step (.of_same e.bag sm) R.oaB).step e4 R.oaB) s4 q3 fun d hd v H5 sm5 rp5 => q d n3 hd v H5 ((e3.trans e4).trans (.of_same e4.bag sm5)) rp5
theorem de_chain {op op' : CmpOp} (ho : OpD X (compareOp op) Rd) (ho' : OpD X (compareOp op') Rd') (ha : DB X a wa) (hb : DB X b wb) (hc : DB X e wc) (hm : lastMarks [op, op'] [b, e] = false := by with_unfolding_all rfl) : DE X (.Compare a [op, op'] [b, e] pos) (wChain Rd Rd' wa wb wc) := by
  obtain ⟨r, hr, hl⟩ := ho.ex
  obtain ⟨r', hr', hl'⟩ := ho'.ex
  exact .of (pe_chain hr hr' ha.pe hb.pe hc.pe hm) fun σ H Q ⟨c, ad, n, env, Q0, R, q0, q⟩ => lchain (op := op) (op' := op') hl hl' R q0 q
theorem dt_chain {op op' : CmpOp} (ho : OpD X (compareOp op) Rd) (ho' : OpD X (compareOp op') Rd') (ha : DB X a wa) (hb : DB X b wb) (hc : DB X e wc) (hm : lastMarks [op, op'] [b, e] = false := by with_unfolding_all rfl) : DT X (.Compare a [op, op'] [b, e] pos) (wTest (wChain Rd Rd' wa wb wc)) := by
  obtain ⟨r, hr, hl⟩ := ho.ex
  obtain ⟨r', hr', hl'⟩ := ho'.ex
  refine ⟨ptImp (pt_chain hr hr' ha.pe hb.pe hc.pe hm) fun σ H Q ⟨c, ad, n, env, Q0, R, q0, q⟩ => ?_⟩
  refine lchain (op := op) (op' := op') (Q0 := fun d n1 => ∃ k, d = .bl k ∧ Q0 k n1) hl hl' R q0 fun d n' hd v H' e rp => ?_
  obtain ⟨k, rfl, hk⟩ := hd
  cases rp
  exact ⟨k, rfl, q k n' hk H' e⟩
/-- the answers of operators: each by the kinds of the two -/
def rAddD : RR := fun x y Q => match x, y with
  | .int i, .int j => Q (.int (i + j))
  | .int i, .bl k => Q (.int (i + b2i k))
  | .str s, .str t => s.length + t.length ≤ sizeLine ∧ Q (.str (s ++ t))
  | .lst xs, .lst ys => xs.length + ys.length ≤ sizeLine ∧ Q (.lst (xs ++ ys))
  | .tup xs, .tup ys => xs.length + ys.length ≤ sizeLine ∧ Q (.tup (xs ++ ys))
  | _, _ => False
theorem RepL.nil_iff {K : PySem.W.Frag} {bg : Option (Addr × Addr)} {H : Hp} {vs : List V} {ds : List D} (h : RepL K bg H vs ds) : vs = [] ↔ ds = [] := by
  cases h <;> simp
theorem str_len_add (s t : Str) : (s ++ t).length = s.length + t.length := by
  show (s.cps ++ t.cps).size = _
  exact Array.size_append
theorem good_iff {s : Str} : PyData.strOk s = true ↔ ∀ c ∈ s.cps.toList, c < 0x110000 := by
  unfold PyData.strOk
  rw [← Array.all_toList, List.all_eq_true]
  exact ⟨fun h c hc => by simpa using h c hc, fun h c hc => by simpa using h c hc⟩
theorem GoodS.add {s t : Str} (h : GoodS s) (k : GoodS t) (z : s.length + t.length ≤ sizeLine) : GoodS (s ++ t) := by
  refine ⟨by rw [str_len_add]; exact z, good_iff.2 fun c hc => ?_⟩
  have e : (s ++ t).cps.toList = s.cps.toList ++ t.cps.toList := by
    show (s.cps ++ t.cps).toList = _
    simp
  rw [e, List.mem_append] at hc
  exact hc.elim (good_iff.1 h.ok c) (good_iff.1 k.ok c)
theorem od_add : OpD X (binaryOp .Add) rAddD := by
  refine ⟨⟨_, OpR.or op_add (OpR.or op_add_ib (OpR.or op_add_str (OpR.or op_cat op_catA))), ?_⟩⟩
  intro bg O H v1 v2 d1 d2 Q0 Q hO s1 s2 h q
  unfold rAddD at h
  split at h
  · cases s1.int'; cases s2.int'
    exact .inl ⟨_, _, rfl, rfl, q _ h _ _ (.refl _) (.int _)⟩
  · cases s1.int'; cases s2.bl'
    exact .inr (.inl ⟨_, _, rfl, rfl, q _ h _ _ (.refl _) (.int _)⟩)
  · have g1 := s1.str'.2
    have g2 := s2.str'.2
    cases s1.str'.1; cases s2.str'.1
    exact .inr (.inr (.inl ⟨_, _, rfl, rfl, h.1, q _ h.2 _ _ (.refl _) (.str (g1.add g2 h.1))⟩))
  · obtain ⟨a, vs, rfl, ha, _, ra⟩ := s1.lst'
    obtain ⟨b, ws, rfl, hb, _, rb⟩ := s2.lst'
    refine .inr (.inr (.inr (.inl ⟨a, b, vs, ws, rfl, rfl, ha, hb, by rw [ra.len, rb.len]; exact h.1, fun p hp => ?_⟩)))
    obtain ⟨sm, rp⟩ := rep_new hO hp (by rw [List.length_append, ra.len, rb.len]; exact h.1) (ra.app rb)
    exact q _ h.2 _ _ sm rp
  · obtain ⟨a, vs, rfl, ha, hva, ra⟩ := s1.tup'
    obtain ⟨b, ws, rfl, hb, hvb, rb⟩ := s2.tup'
    refine .inr (.inr (.inr (.inr ⟨a, b, vs, ws, rfl, rfl, ha, hb, by rw [ra.len, rb.len]; exact h.1, fun z => ?_, fun _ z => ?_, fun _ _ p hp => ?_⟩)))
    · cases ra.nil_iff.1 z
      exact q _ h.2 _ _ (.refl _) s2.tupRep
    · cases rb.nil_iff.1 z
      rename_i xs ys _
      have := q _ h.2 (.ref a) _ (.refl _)
      rw [List.append_nil] at this
      exact this s1.tupRep
    · obtain ⟨sm, rp⟩ := rep_newT hO hp (by rw [List.length_append, ra.len, rb.len]; exact h.1) (ra.app rb)
      exact q _ h.2 _ _ sm rp
  · exact h.elim
def rI2 (C : Int → Int → Prop) (f : Int → Int → D) : RR := fun x y Q => match x, y with
  | .int i, .int j => C i j ∧ Q (f i j)
  | _, _ => False
theorem od_int {g : Value → Value → Sem Value} {C : Int → Int → Prop} {f : Int → Int → Int} (h : OpR X g (rI C fun i j => .int (f i j))) : OpD X g (rI2 C fun i j => .int (f i j)) := by
  refine ⟨⟨_, h, ?_⟩⟩
  intro bg O H v1 v2 d1 d2 Q0 Q hO s1 s2 h q
  unfold rI2 at h
  split at h
  · cases s1.int'; cases s2.int'
    exact ⟨_, _, rfl, rfl, h.1, q _ h.2 _ _ (.refl _) (.int _)⟩
  · exact h.elim
theorem od_intB {g : Value → Value → Sem Value} {f : Int → Int → Bool} (h : OpR X g (rI0 fun i j => .bl (f i j))) : OpD X g (rI2 (fun _ _ => True) fun i j => .bl (f i j)) := by
  refine ⟨⟨_, h, ?_⟩⟩
  intro bg O H v1 v2 d1 d2 Q0 Q hO s1 s2 h q
  unfold rI2 at h
  split at h
  · cases s1.int'; cases s2.int'
    exact ⟨_, _, rfl, rfl, q _ h.2 _ _ (.refl _) (.bl _)⟩
  · exact h.elim
theorem od_int0 {g : Value → Value → Sem Value} {f : Int → Int → Int} (h : OpR X g (rI0 fun i j => .int (f i j))) : OpD X g (rI2 (fun _ _ => True) fun i j => .int (f i j)) := by
  refine ⟨⟨_, h, ?_⟩⟩
  intro bg O H v1 v2 d1 d2 Q0 Q hO s1 s2 h q
  unfold rI2 at h
  split at h
  · cases s1.int'; cases s2.int'
    exact ⟨_, _, rfl, rfl, q _ h.2 _ _ (.refl _) (.int _)⟩
  · exact h.elim
theorem od_sub : OpD X (binaryOp .Sub) (rI2 (fun _ _ => True) fun i j => .int (i - j)) := od_int0 op_sub
theorem od_modN : OpD X (binaryOp .Mod) (rI2 (fun _ j => j ≠ 0) fun i j => .int (i.fmod j)) := od_int op_modN
theorem od_fdivN : OpD X (binaryOp .FloorDiv) (rI2 CDivN fun i j => .int (i.fdiv j)) := od_int op_fdivN
theorem od_pow : OpD X (binaryOp .Pow) (rI2 CPow fun i j => .int (i ^ j.toNat)) := od_int op_pow
end
end Dv

set_option Elab.async false
set_option linter.all false
set_option maxRecDepth 100000
set_option maxHeartbeats 4000000
/-! Dv2: == of data, order, in, times, places, slices -/
namespace Dv
open PySem PySem.Spec PyProof.Rows L2
/-! ### data, and == -/
mutual
def D.py : D → PyData
  | .non => .none
  | .bl b => .bool b
  | .int i => .int i
  | .str s => .str s
  | .lst xs => .list (D.pys xs)
  | .tup xs => .tuple (D.pys xs)
  | _ => .none
def D.pys : List D → List PyData
  | [] => []
  | x :: xs => D.py x :: D.pys xs
end
mutual
def D.data : D → Bool
  | .non => true
  | .bl _ => true
  | .int _ => true
  | .str _ => true
  | .lst xs => D.datas xs
  | .tup xs => D.datas xs
  | _ => false
def D.datas : List D → Bool
  | [] => true
  | x :: xs => D.data x && D.datas xs
end
mutual
def D.dep : D → Nat
  | .lst xs => D.deps xs + 1
  | .tup xs => D.deps xs + 1
  | _ => 0
def D.deps : List D → Nat
  | [] => 0
  | x :: xs => max (D.dep x) (D.deps xs)
end
def D.eqv (x y : D) : Bool := PyData.eqv x.py y.py
theorem datas_all : ∀ {xs : List D}, D.datas xs = true ↔ ∀ x ∈ xs, x.data = true
  | [] => by simp [D.datas]
  | x :: xs => by simp [D.datas, datas_all (xs := xs)]
theorem deps_le : ∀ {xs : List D} {k : Nat}, D.deps xs ≤ k ↔ ∀ x ∈ xs, x.dep ≤ k
  | [], k => by simp [D.deps]
  | x :: xs, k => by
    rw [D.deps, Nat.max_le, deps_le (xs := xs)]
    simp
theorem pys_map : ∀ {xs : List D}, D.pys xs = xs.map D.py
  | [] => rfl
  | x :: xs => by rw [D.pys, pys_map (xs := xs)]; rfl
section
variable {K : PySem.W.Frag} {bg : Option (Addr × Addr)} {O : Addr → Prop} {H H' : Hp}
mutual
theorem Rep.dp (e : Same H H') : ∀ {v : V} {d : D}, Rep K bg H v d → d.data = true → Dp K H' v d.py ∧ d.py.canLay0 = true
  | _, _, .non, _ => ⟨.non, by simp [D.py, PyData.canLay0]⟩
  | _, _, .bl b, _ => ⟨.bl b, by simp [D.py, PyData.canLay0]⟩
  | _, _, .int i, _ => ⟨.int i, by simp [D.py, PyData.canLay0]⟩
  | _, _, .str h, _ => ⟨.str _, by simp [D.py, PyData.canLay0, h.ok]⟩
  | _, _, .ty n, h => by simp [D.data] at h
  | _, _, .ref a, h => by simp [D.data] at h
  | _, _, .bag _, h => by simp [D.data] at h
  | _, _, .lst h hl r, z => by
    rw [D.data] at z
    obtain ⟨h1, h2⟩ := RepL.dp e r z
    exact ⟨.lst (.inl (.inl (e _ _ h))) h1, by rw [D.py, PyData.canLay0]; exact h2⟩
  | _, _, .tup h hl r, z => by
    rw [D.data] at z
    obtain ⟨h1, h2⟩ := RepL.dp e r z
    exact ⟨.tup (sqt_same e h) h1, by rw [D.py, PyData.canLay0]; exact h2⟩
  | _, _, .ins _ _, h => by simp [D.data] at h
  | _, _, .dk _ _, h => by simp [D.data] at h
  | _, _, .dt _ _, h => by simp [D.data] at h
theorem RepL.dp (e : Same H H') : ∀ {v : List V} {d : List D}, RepL K bg H v d → D.datas d = true → DpAll K H' v (D.pys d) ∧ PyData.canLayAll0 (D.pys d) = true
  | _, _, .nil, _ => ⟨.nil, by simp [D.pys, PyData.canLayAll0]⟩
  | _, _, .cons h t, z => by
    rw [D.datas, Bool.and_eq_true] at z
    obtain ⟨h1, h2⟩ := Rep.dp e h z.1
    obtain ⟨h3, h4⟩ := RepL.dp e t z.2
    exact ⟨.cons h1 h3, by rw [D.pys, PyData.canLayAll0, h2, h4]; rfl⟩
end
theorem Sh.dp {v : V} {d : D} (h : Sh K bg O H v d) (z : d.data = true) : Dp K H v d.py ∧ d.py.canLay0 = true := by
  cases h with
  | rep h => exact h.dp cut_le z
  | @own a u o hb h r =>
    cases r with
    | lst hl r =>
      rw [Ob.d, D.data] at z
      obtain ⟨h1, h2⟩ := r.dp (H' := H) cut_le z
      exact ⟨.lst (.inl (.inl h)) h1, by rw [Ob.d, D.py, PyData.canLay0]; exact h2⟩
    | dk r => simp [Ob.d, D.data] at z
    | dt r => simp [Ob.d, D.data] at z
end
mutual
theorem dep_py : ∀ (d : D), d.py.depth = d.dep
  | .non => by simp [D.py, D.dep, PyData.depth]
  | .bl b => by simp [D.py, D.dep, PyData.depth]
  | .int i => by simp [D.py, D.dep, PyData.depth]
  | .str s => by simp [D.py, D.dep, PyData.depth]
  | .lst xs => by rw [D.py, D.dep, PyData.depth, deps_py xs]
  | .tup xs => by rw [D.py, D.dep, PyData.depth, deps_py xs]
  | .ty n => by simp [D.py, D.dep, PyData.depth]
  | .ref a => by simp [D.py, D.dep, PyData.depth]
  | .bag => by simp [D.py, D.dep, PyData.depth]
  | .ins C fs => by simp [D.py, D.dep, PyData.depth]
  | .dk k => by simp [D.py, D.dep, PyData.depth]
  | .dt k => by simp [D.py, D.dep, PyData.depth]
theorem deps_py : ∀ (d : List D), PyData.depthAll (D.pys d) = D.deps d
  | [] => by simp [D.pys, D.deps, PyData.depthAll]
  | x :: xs => by rw [D.pys, D.deps, PyData.depthAll, dep_py x, deps_py xs]
end
theorem shaped_py {d : D} (h : d.py.canLay0 = true) (k : d.dep ≤ 64) : SeqAt.shaped d.py = true := by
  unfold SeqAt.shaped
  rw [h, dep_py]
  simp [k]
def rEqD (neg : Bool) : RR := fun x y Q => (x.data = true ∧ y.data = true ∧ x.dep ≤ 64 ∧ y.dep ≤ 64) ∧ Q (.bl (if neg then !x.eqv y else x.eqv y))
section
variable {X : Cx}
theorem od_eq (hu : X.A.units + 64 < cLine) : OpD X (compareOp .Eq) (rEqD false) := by
  refine ⟨⟨_, op_eqD hu, ?_⟩⟩
  rintro bg O H v1 v2 d1 d2 Q0 Q hO s1 s2 ⟨⟨h1, h2, h3, h4⟩, h⟩ q
  obtain ⟨p1, l1⟩ := s1.dp h1
  obtain ⟨p2, l2⟩ := s2.dp h2
  exact ⟨_, _, p1, p2, shaped_py l1 h3, shaped_py l2 h4, q _ h _ _ (.refl _) (.bl _)⟩
theorem od_ne (hu : X.A.units + 64 < cLine) : OpD X (compareOp .NotEq) (rEqD true) := by
  refine ⟨⟨_, op_neD hu, ?_⟩⟩
  rintro bg O H v1 v2 d1 d2 Q0 Q hO s1 s2 ⟨⟨h1, h2, h3, h4⟩, h⟩ q
  obtain ⟨p1, l1⟩ := s1.dp h1
  obtain ⟨p2, l2⟩ := s2.dp h2
  exact ⟨_, _, p1, p2, shaped_py l1 h3, shaped_py l2 h4, q _ h _ _ (.refl _) (.bl _)⟩
/-! ### order of ints and of texts -/
def ltS (s t : Str) : Bool := decide (s.cps.toList < t.cps.toList)
def rOrd (f : Int → Int → Bool) (g : Str → Str → Bool) : RR := fun x y Q => match x, y with
  | .int i, .int j => Q (.bl (f i j))
  | .str s, .str t => Q (.bl (g s t))
  | _, _ => False
theorem od_ord {op : CmpOp} {f : Int → Int → Bool} {g : Str → Str → Bool} (h1 : OpR X (compareOp op) (rI0 fun i j => .bl (f i j))) (h2 : OpR X (compareOp op) (fun x y H Q => ∃ i j, x = .str i ∧ y = .str j ∧ Q (.bl (g i j)) H)) : OpD X (compareOp op) (rOrd f g) := by
  refine ⟨⟨_, OpR.or h1 h2, ?_⟩⟩
  intro bg O H v1 v2 d1 d2 Q0 Q hO s1 s2 h q
  unfold rOrd at h
  split at h
  · cases s1.int'; cases s2.int'
    exact .inl ⟨_, _, rfl, rfl, q _ h _ _ (.refl _) (.bl _)⟩
  · cases s1.str'.1; cases s2.str'.1
    exact .inr ⟨_, _, rfl, rfl, q _ h _ _ (.refl _) (.bl _)⟩
  · exact h.elim
theorem od_lt : OpD X (compareOp .Lt) (rOrd (fun i j => decide (i < j)) (fun s t => ltS s t)) := od_ord op_lt op_lt_str
theorem od_le : OpD X (compareOp .LtE) (rOrd (fun i j => decide (i ≤ j)) (fun s t => !ltS t s)) := od_ord op_le op_le_str
theorem od_gt : OpD X (compareOp .Gt) (rOrd (fun i j => decide (j < i)) (fun s t => ltS t s)) := od_ord op_gt op_gt_str
theorem od_ge : OpD X (compareOp .GtE) (rOrd (fun i j => decide (j ≤ i)) (fun s t => !ltS s t)) := od_ord op_ge op_ge_str
/-! ### is None -/
def D.isNon : D → Bool
  | .non => true
  | _ => false
theorem Sh.isNon {K : PySem.W.Frag} {bg : Option (Addr × Addr)} {O : Addr → Prop} {H : Hp} {v : V} {d : D} (h : Sh K bg O H v d) : decide (v = .non) = d.isNon := by
  cases h with
  | rep h => cases h <;> first | rfl | exact decide_eq_false (fun z => nomatch z)
  | @own a u o hb h r => cases o <;> exact decide_eq_false (fun z => nomatch z)
def rIsN (neg : Bool) : RR := fun x y Q => match y with
  | .non => Q (.bl (if neg then !x.isNon else x.isNon))
  | _ => False
theorem od_isN : OpD X (compareOp .Is) (rIsN false) := by
  refine ⟨⟨_, op_isN, ?_⟩⟩
  intro bg O H v1 v2 d1 d2 Q0 Q hO s1 s2 h q
  unfold rIsN at h
  split at h
  · cases s2.non'
    refine ⟨rfl, ?_⟩
    rw [s1.isNon]
    exact q _ h _ _ (.refl _) (.bl _)
  · exact h.elim
theorem od_notN : OpD X (compareOp .IsNot) (rIsN true) := by
  refine ⟨⟨_, op_notN, ?_⟩⟩
  intro bg O H v1 v2 d1 d2 Q0 Q hO s1 s2 h q
  unfold rIsN at h
  split at h
  · cases s2.non'
    refine ⟨rfl, ?_⟩
    rw [s1.isNon]
    exact q _ h _ _ (.refl _) (.bl _)
  · exact h.elim
/-! ### in -/
def inS (s t : Str) : Bool := !(Builtin.Str.occurrences t s 0 t.length 1).isEmpty
def D.flatD : D → Bool
  | .non | .bl _ | .int _ | .str _ => true
  | _ => false
def rInD (neg : Bool) : RR := fun x y Q => match y with
  | .str t => ∃ s, x = .str s ∧ Q (.bl (if neg then !inS s t else inS s t))
  | .lst ys => (x.data = true ∧ D.datas ys = true ∧ x.dep ≤ 63 ∧ D.deps ys ≤ 63) ∧ Q (.bl (if neg then !ys.any fun z => z.eqv x else ys.any fun z => z.eqv x))
  | .tup ys => (x.flatD = true ∧ ys.all D.flatD = true) ∧ Q (.bl (if neg then !ys.any fun z => z.eqv x else ys.any fun z => z.eqv x))
  | _ => False
theorem flat_v {K : PySem.W.Frag} {bg : Option (Addr × Addr)} {H : Hp} {v : V} {d : D} (h : Rep K bg H v d) (z : d.flatD = true) : flatV v = true := by
  cases h <;> first | rfl | exact absurd z Bool.false_ne_true
theorem flat_eq {K : PySem.W.Frag} {bg : Option (Addr × Addr)} {H : Hp} {v w : V} {d e : D} (h : Rep K bg H v d) (k : Rep K bg H w e) (z : d.flatD = true) (y : e.flatD = true) : eqV v w = d.eqv e := by
  cases h <;> first | exact absurd z Bool.false_ne_true | (cases k <;> first | exact absurd y Bool.false_ne_true | rfl)
theorem flats_v {K : PySem.W.Frag} {bg : Option (Addr × Addr)} {H : Hp} : ∀ {v : List V} {d : List D}, RepL K bg H v d → d.all D.flatD = true → v.all flatV = true
  | _, _, .nil, _ => rfl
  | _, _, .cons h t, z => by
    rw [List.all_cons, Bool.and_eq_true] at z
    rw [List.all_cons, flat_v h z.1, flats_v t z.2]
    rfl
theorem flats_in {K : PySem.W.Frag} {bg : Option (Addr × Addr)} {H : Hp} {w : V} {e : D} (k : Rep K bg H w e) (y : e.flatD = true) : ∀ {v : List V} {d : List D}, RepL K bg H v d → d.all D.flatD = true → inV w v = d.any fun z => z.eqv e
  | _, _, .nil, _ => rfl
  | _, _, .cons h t, z => by
    rw [List.all_cons, Bool.and_eq_true] at z
    have ih := flats_in k y t z.2
    unfold inV at ih ⊢
    rw [List.any_cons, List.any_cons, flat_eq h k z.1 y, ih]
theorem flatD_flat {d : D} (h : d.flatD = true) : d.flat = true := by cases d <;> first | rfl | exact absurd h Bool.false_ne_true
theorem any_py {x : D} : ∀ {ys : List D}, ((D.pys ys).any fun z => PyData.eqv z x.py) = ys.any fun z => z.eqv x
  | [] => rfl
  | y :: ys => by rw [D.pys, List.any_cons, List.any_cons, any_py (ys := ys)]; rfl
theorem Sh.toRep {K : PySem.W.Frag} {bg : Option (Addr × Addr)} {O : Addr → Prop} {H : Hp} {v : V} {d : D} (h : Sh K bg O H v d) (z : d.flatD = true) : Rep K bg (cut O H) v d := h.flat (flatD_flat z)
theorem link_in {K : PySem.W.Frag} (neg : Bool) : LinkD K (fun x y H Q => (∃ i j, x = .str i ∧ y = .str j ∧ Q (.bl (if neg then !inS i j else inS i j)) H) ∨ (∃ d ds, Dp K H x d ∧ Dp K H y (.list ds) ∧ SeqAt.shaped d = true ∧ SeqAt.shaped (.list ds) = true ∧ Q (.bl (if neg then !ds.any fun z => PyData.eqv z d else ds.any fun z => PyData.eqv z d)) H) ∨ rIn K neg x y H Q) (rInD neg) := by
  intro bg O H v1 v2 d1 d2 Q0 Q hO s1 s2 h q
  unfold rInD at h
  split at h
  · obtain ⟨s, rfl, h⟩ := h
    cases s1.str'.1; cases s2.str'.1
    exact .inl ⟨_, _, rfl, rfl, q _ h _ _ (.refl _) (.bl _)⟩
  · rename_i ys
    obtain ⟨⟨h1, h2, h3, h4⟩, h⟩ := h
    obtain ⟨p1, l1⟩ := s1.dp h1
    obtain ⟨p2, l2⟩ := s2.dp (show (D.lst ys).data = true by rw [D.data]; exact h2)
    rw [D.py] at p2
    refine .inr (.inl ⟨_, _, p1, p2, shaped_py l1 (by omega), ?_, ?_⟩)
    · exact shaped_py (d := .lst ys) l2 (by rw [D.dep]; omega)
    · rw [any_py]
      exact q _ h _ _ (.refl _) (.bl _)
  · rename_i ys
    obtain ⟨⟨h1, h2⟩, h⟩ := h
    obtain ⟨a, vs, rfl, ha, hl, r⟩ := s2.tup'
    have k := s1.toRep h1
    refine .inr (.inr ⟨a, vs, rfl, .inr ha, flat_v k h1, flats_v r h2, ?_⟩)
    rw [flats_in k h1 r h2]
    exact q _ h _ _ (.refl _) (.bl _)
  · exact h.elim
theorem od_in (hu : X.A.units + 65 < cLine) : OpD X (compareOp .In) (rInD false) := by
  refine ⟨⟨_, OpR.or op_in_str (OpR.or (op_inD hu) op_in_seq), ?_⟩⟩
  exact link_in (K := X.K) false
theorem od_notIn (hu : X.A.units + 65 < cLine) : OpD X (compareOp .NotIn) (rInD true) := by
  refine ⟨⟨_, OpR.or op_notIn_str (OpR.or (op_notInD hu) op_notIn_seq), ?_⟩⟩
  exact link_in (K := X.K) true
/-! ### times -/
theorem op_mulSt : OpR X (binaryOp .Mult) (fun x y H Q => ∃ (s : Str) (n : Int), x = .str s ∧ y = .int n ∧ s.length ≤ 4096 ∧ -4096 ≤ n ∧ n ≤ 4096 ∧ Q (.str (Txt.mul s n)) H) := by
  intro pins s σ H x y v u Q I rx ry h
  obtain ⟨z, n, rfl, rfl, h1, h2, h3, q⟩ := h
  obtain ⟨t, rfl⟩ := rx
  obtain ⟨t', rfl⟩ := ry
  exact PySem.SB.mul (mulOk_of 4096 4096 h1 (by omega) (by omega) (by decide) (by decide)) fun t' tk => ⟨.str (Txt.mul z n), H, I.tok _, ⟨_, rfl⟩, q⟩
def rMulD : RR := fun x y Q => match x, y with
  | .int i, .int j => CMulW i j ∧ Q (.int (i * j))
  | .str s, .int n => (s.length ≤ 4096 ∧ -4096 ≤ n ∧ n ≤ 4096) ∧ Q (.str (Txt.mul s n))
  | .lst xs, .int n => (0 ≤ n ∧ n < 2 ^ 63 ∧ xs.length * n.toNat ≤ sizeLine) ∧ Q (.lst (List.replicate n.toNat xs).flatten)
  | _, _ => False
theorem RepL.rep {K : PySem.W.Frag} {bg : Option (Addr × Addr)} {H : Hp} {vs : List V} {ds : List D} (h : RepL K bg H vs ds) : ∀ n : Nat, RepL K bg H (List.replicate n vs).flatten (List.replicate n ds).flatten
  | 0 => .nil
  | n + 1 => by
    rw [List.replicate_succ, List.replicate_succ, List.flatten_cons, List.flatten_cons]
    exact h.app (RepL.rep h n)
/-- texts of an int times: its signs -/
theorem mul_good {s : Str} {n : Int} (h : GoodS s) (h1 : s.length ≤ 4096) (h2 : n ≤ 4096) : GoodS (Txt.mul s n) := by
  unfold Txt.mul
  by_cases h0 : n < 1
  · rw [if_pos h0]
    exact ⟨Nat.zero_le _, good_iff.2 fun c hc => by cases hc⟩
  · rw [if_neg h0]
    split
    · exact h
    · have key : ∀ (k : Nat) (a : Array Nat), ((List.replicate k s.cps).foldl (· ++ ·) a).size = a.size + k * s.cps.size ∧ ((∀ c ∈ a.toList, c < 0x110000) → ∀ c ∈ ((List.replicate k s.cps).foldl (· ++ ·) a).toList, c < 0x110000) := by
        intro k
        induction k with
        | zero => intro a; exact ⟨by simp, fun h => h⟩
        | succ k ih =>
          intro a
          obtain ⟨i1, i2⟩ := ih (a ++ s.cps)
          rw [List.replicate_succ, List.foldl_cons]
          refine ⟨by rw [i1, Array.size_append, Nat.succ_mul]; omega, fun ha => i2 fun c hc => ?_⟩
          rw [Array.toList_append, List.mem_append] at hc
          exact hc.elim (ha c) (good_iff.1 h.ok c)
      obtain ⟨k1, k2⟩ := key n.toNat #[]
      have hz : n.toNat ≤ 4096 := by omega
      have hm : n.toNat * s.cps.size ≤ 4096 * 4096 := Nat.mul_le_mul hz h1
      refine ⟨?_, good_iff.2 (k2 (by simp))⟩
      show ((List.replicate n.toNat s.cps).foldl (· ++ ·) #[]).size ≤ _
      rw [k1]
      have : sizeLine = 16777216 := sizeLine_eq
      simp only [List.size_toArray, List.length_nil]
      omega
theorem od_mul : OpD X (binaryOp .Mult) rMulD := by
  refine ⟨⟨_, OpR.or op_mulW (OpR.or op_mulSt op_rep), ?_⟩⟩
  intro bg O H v1 v2 d1 d2 Q0 Q hO s1 s2 h q
  unfold rMulD at h
  split at h
  · cases s1.int'; cases s2.int'
    exact .inl ⟨_, _, rfl, rfl, h.1, q _ h.2 _ _ (.refl _) (.int _)⟩
  · have g := s1.str'.2
    cases s1.str'.1; cases s2.int'
    obtain ⟨⟨h1, h2, h3⟩, h⟩ := h
    exact .inr (.inl ⟨_, _, rfl, rfl, h1, h2, h3, q _ h _ _ (.refl _) (.str (mul_good g h1 h3))⟩)
  · obtain ⟨⟨h1, h2, h3⟩, h⟩ := h
    rename_i xs n
    cases s2.int'
    obtain ⟨a, vs, rfl, ha, hl, r⟩ := s1.lst'
    refine .inr (.inr ⟨a, _, vs, rfl, rfl, ha, by omega, h2, by rw [r.len]; exact h3, fun p hp => ?_⟩)
    obtain ⟨sm, rp⟩ := rep_new hO hp (by rw [(r.rep n.toNat).len, List.length_flatten, List.map_replicate, List.sum_replicate_nat]; rw [Nat.mul_comm]; exact h3) (r.rep n.toNat)
    exact q _ h _ _ sm rp
  · exact h.elim
/-! ### places -/
/-- x[i]: a list's or tuple's item, a text's sign -/
def rIxD : RR := fun x y Q => match x, y with
  | .lst xs, .int i => ∃ d, atI xs i = some d ∧ Q d
  | .tup xs, .int i => ∃ d, atI xs i = some d ∧ Q d
  | .str s, .int i => ∃ c, atI s.cps.toList i = some c ∧ Q (.str ⟨#[c]⟩)
  | _, _ => False
theorem RepL.atI {K : PySem.W.Frag} {bg : Option (Addr × Addr)} {H : Hp} {vs : List V} {ds : List D} {i : Int} {d : D} (h : RepL K bg H vs ds) (e : atI ds i = some d) : ∃ v, L2.atI vs i = some v ∧ Rep K bg H v d := by
  unfold L2.atI at e ⊢
  rw [h.len]
  cases z : ixN ds.length i with
  | none => rw [z] at e; cases e
  | some j =>
    rw [z] at e
    exact h.getD (i := j) e
theorem atI_mem {α : Type} {xs : List α} {i : Int} {d : α} (e : atI xs i = some d) : d ∈ xs := by
  unfold L2.atI at e
  cases z : ixN xs.length i with
  | none => rw [z] at e; cases e
  | some j => rw [z] at e; exact List.mem_of_getElem? e
theorem one_good {c : Nat} {s : Str} (h : GoodS s) (m : c ∈ s.cps.toList) : GoodS ⟨#[c]⟩ := ⟨by show 1 ≤ sizeLine; decide, good_iff.2 fun d hd => by
  have : d = c := by simpa using hd
  rw [this]
  exact good_iff.1 h.ok c m⟩
theorem link_ix {K : PySem.W.Frag} : LinkD K (rIx K) rIxD := by
  intro bg O H v1 v2 d1 d2 Q0 Q hO s1 s2 h q
  unfold rIxD at h
  split at h
  · obtain ⟨d, e, h⟩ := h
    obtain ⟨a, vs, rfl, ha, hl, r⟩ := s1.lst'
    cases s2.int'
    obtain ⟨v, e2, rp⟩ := r.atI e
    exact .inl ⟨a, vs, _, v, rfl, rfl, .inl (.inl ha), e2, q _ h _ _ (.refl _) rp⟩
  · obtain ⟨d, e, h⟩ := h
    obtain ⟨a, vs, rfl, ha, hl, r⟩ := s1.tup'
    cases s2.int'
    obtain ⟨v, e2, rp⟩ := r.atI e
    exact .inr (.inl ⟨a, vs, _, v, rfl, rfl, ha, e2, q _ h _ _ (.refl _) rp⟩)
  · obtain ⟨c, e, h⟩ := h
    have g := s1.str'.2
    cases s1.str'.1; cases s2.int'
    exact .inr (.inr ⟨_, _, c, rfl, rfl, g.len, e, q _ h _ _ (.refl _) (.str (one_good g (atI_mem e)))⟩)
  · exact h.elim
theorem de_ix {a b : Expr} {wa wb : WE} {pos : Pos} (ha : DB X a wa) (hb : DB X b wb) (hs : PlainIx b := by exact fun _ _ => rfl) : DE X (.Subscript a b pos) (wOp rIxD wa wb) := by
  refine .of (pe_ix ix_seq ha.pe hb.pe hs) fun σ H Q ⟨c, ad, n, env, Q0, R, q0, q⟩ => ?_
  exact two (P0 := fun d1 d2 n2 => rIxD d1 d2 fun d => Q0 d n2) R q0 fun v1 v2 d1 d2 n2 H2 e s1 s2 q2 => link_ix c.bg _ H2 v1 v2 d1 d2 _ _ (R.step e).oaD s1 s2 q2 fun d hd v H3 sm rp => q d n2 hd v H3 (e.trans (.of_same e.bag sm)) rp
/-! ### -a -/
def rNegD (x : D) (Q : D → Prop) : Prop := match x with
  | .int i => Q (.int (-i))
  | _ => False
theorem de_neg {a : Expr} {wa : WE} {pos : Pos} (ha : DB X a wa) : DE X (.UnaryOp .USub a pos) (fun env n Q => wa env n fun d n1 => rNegD d fun e => Q e n1) := by
  refine .of (pe_un un_neg ha.pe) fun σ H Q ⟨c, ad, n, env, Q0, R, q0, q⟩ => ?_
  refine ⟨c, ad, n, env, _, R, q0, fun d n1 q1 v1 H1 e1 s1 => ?_⟩
  unfold rNegD at q1
  split at q1
  · cases s1.int'
    exact ⟨_, rfl, q _ _ q1 _ H1 e1 (.int _)⟩
  · exact q1.elim
/-! ### slices -/
def wPart (w : WE) : En → Nat → (Option Int → Nat → Prop) → Prop := fun env n Q => w env n fun d n1 => ∃ i, d = .int i ∧ Q (some i) n1
def wNoPart : En → Nat → (Option Int → Nat → Prop) → Prop := fun _ n Q => Q none n
def lO (K : PySem.W.Frag) (w : En → Nat → (Option Int → Nat → Prop) → Prop) : TO := fun σ H Q => ∃ c ad n env Q0, Rel K c ad n σ H env ∧ w env n Q0 ∧ ∀ b n', Q0 b n' → ∀ H', EStp c H H' n' → Q b H'
structure DO (X : Cx) (e : Option Expr) (w : En → Nat → (Option Int → Nat → Prop) → Prop) : Prop where
  po : PO X e (lO X.K w)
theorem poImp {e : Option Expr} {t t' : TO} (h : PO X e t) (k : ∀ σ H Q, t' σ H Q → t σ H Q) : PO X e t' := ⟨fun pins s σ H Q I q => h.run pins s σ H Q I (k _ _ _ q)⟩
theorem do_some {e : Expr} {w : WE} (h : DE X e w) : DO X (some e) (wPart w) := ⟨poImp (po_some h.pe) fun σ H Q ⟨c, ad, n, env, Q0, R, q0, q⟩ => ⟨c, ad, n, env, _, R, q0, fun d n1 ⟨i, hd, q1⟩ v H' e r => by
  subst hd
  cases r
  exact ⟨i, rfl, q _ _ q1 _ e⟩⟩⟩
theorem do_none : DO X none wNoPart := ⟨poImp po_none fun σ H Q ⟨c, ad, n, env, Q0, R, q0, q⟩ => q _ _ q0 _ (.refl R.bag)⟩
def cutL {α : Type} (xs : List α) (lo hi : Option Int) : List α := (xs.drop (HT.sIx xs.length 0 lo)).take (HT.sIx xs.length xs.length hi - HT.sIx xs.length 0 lo)
def rSlD (x : D) (lo hi : Option Int) (Q : D → Prop) : Prop := match x with
  | .lst xs => Q (.lst (cutL xs lo hi))
  | .tup xs => Q (.tup (cutL xs lo hi))
  | .str s => Q (.str (cutS s lo hi))
  | _ => False
theorem RepL.cutL {K : PySem.W.Frag} {bg : Option (Addr × Addr)} {H : Hp} {vs : List V} {ds : List D} (h : RepL K bg H vs ds) (lo hi : Option Int) : RepL K bg H (cutV vs lo hi) (cutL ds lo hi) := by
  unfold cutV Dv.cutL
  rw [h.len]
  exact (h.drop _).take _
theorem cutL_len {α : Type} (xs : List α) (lo hi : Option Int) : (cutL xs lo hi).length ≤ xs.length := by
  unfold Dv.cutL
  rw [List.length_take, List.length_drop]
  omega
theorem cutL_whole {α : Type} {xs : List α} {lo hi : Option Int} (h : HT.sIx xs.length 0 lo = 0 ∧ HT.sIx xs.length xs.length hi = xs.length) : cutL xs lo hi = xs := by
  unfold Dv.cutL
  rw [h.1, h.2]
  simp
theorem cutS_good {s : Str} (h : GoodS s) (lo hi : Option Int) : GoodS (cutS s lo hi) := by
  refine ⟨Nat.le_trans (cutS_length s lo hi) h.len, good_iff.2 fun c hc => good_iff.1 h.ok c ?_⟩
  unfold cutS at hc
  first | exact List.mem_of_mem_drop (List.mem_of_mem_take (by simpa using hc)) | (simp at hc; exact ?hole)
def wSl (wa : WE) (wl wh : En → Nat → (Option Int → Nat → Prop) → Prop) : WE := fun env n Q => wa env n fun d n1 => wl env n1 fun lo n2 => wh env n2 fun hi n3 => rSlD d lo hi fun e => Q e n3
theorem de_slice {e : Expr} {lo hi : Option Expr} {wa : WE} {wl wh : En → Nat → (Option Int → Nat → Prop) → Prop} {p2 pos : Pos} (ha : DB X e wa) (hl : DO X lo wl) (hh : DO X hi wh) : DE X (.Subscript e (.Slice lo hi none p2) pos) (wSl wa wl wh) := by
  refine .of (pe_slice (SlR.or sl_list (SlR.or sl_tupA sl_str)) ha.pe hl.po hh.po) fun σ H Q ⟨c, ad, n, env, Q0, R, q0, q⟩ => ?_
  refine ⟨c, ad, n, env, _, R, q0, fun d n1 q1 v1 H1 e1 s1 => ⟨c, ad, n1, env, _, R.step e1, q1, fun lo n2 q2 H2 e2 => ⟨c, ad, n2, env, _, (R.step e1).step e2, q2, fun hi n3 q3 H3 e3 => ?_⟩⟩⟩
  have R3 := ((R.step e1).step e2).step e3
  have s3 := (s1.step e2 R.oaB).step e3 R.oaB
  have ee := (e1.trans e2).trans e3
  unfold rSlD at q3
  split at q3
  · obtain ⟨a, vs, rfl, ha, hl, r⟩ := s3.lst'
    refine .inl ⟨a, vs, rfl, .inl (.inl ha), fun p hp => ?_⟩
    obtain ⟨sm, rp⟩ := rep_new R3.oaD hp (Nat.le_trans (by unfold cutV; rw [List.length_take, List.length_drop]; omega) hl) (r.cutL lo hi)
    exact q _ _ q3 _ _ (ee.trans (.of_same ee.bag sm)) rp
  · obtain ⟨a, vs, rfl, ha, hl, r⟩ := s3.tup'
    refine .inr (.inl ⟨a, vs, rfl, ha, fun z => ?_, fun _ p hp => ?_⟩)
    · have := q _ _ q3 (.ref a) _ ee
      rw [cutL_whole (by rw [← r.len]; exact z)] at this
      exact this s3.tupRep
    · obtain ⟨sm, rp⟩ := rep_newT R3.oaD hp (Nat.le_trans (by unfold cutV; rw [List.length_take, List.length_drop]; omega) hl) (r.cutL lo hi)
      exact q _ _ q3 _ _ (ee.trans (.of_same ee.bag sm)) rp
  · have g := s3.str'.2
    cases s3.str'.1
    exact .inr (.inr ⟨_, rfl, g.len, q _ _ q3 _ _ ee (.str (cutS_good g lo hi))⟩)
  · exact q3.elim
end
end Dv

set_option Elab.async false
set_option linter.all false
set_option maxRecDepth 100000
set_option maxHeartbeats 4000000
/-! Dv3: tests, and, or, not; argument lists; built-ins; isinstance; texts' methods; tuples and lists written -/
namespace Dv
open PySem PySem.Spec PyProof.Rows L2
section
variable {X : Cx} {a b e : Expr} {wa wb wc : WE} {wt wu : WT} {pos : Pos} {rest : List Expr}
/-! ### truth -/
def D.tru : D → Option Bool
  | .non => some false
  | .bl b => some b
  | .int i => some (i != 0)
  | .str s => some ((s.length : Int) != 0)
  | .lst xs => some (!xs.isEmpty)
  | .tup xs => some (!xs.isEmpty)
  | _ => none
theorem RepL.emp {K : PySem.W.Frag} {bg : Option (Addr × Addr)} {H : Hp} {vs : List V} {ds : List D} (h : RepL K bg H vs ds) : vs.isEmpty = ds.isEmpty := by cases h <;> rfl
theorem Sh.tru {K : PySem.W.Frag} {bg : Option (Addr × Addr)} {O : Addr → Prop} {H : Hp} {v : V} {d : D} {k : Bool} (h : Sh K bg O H v d) (e : d.tru = some k) : TruV K v H k := by
  unfold D.tru at e
  split at e
  · cases e; cases h.non'; exact rfl
  · cases e; cases h.bl'; exact rfl
  · cases e; cases h.int'; exact rfl
  · cases e; have g := h.str'.2; cases h.str'.1; exact ⟨g.len, rfl⟩
  · cases e
    obtain ⟨p, vs, rfl, hp, hl, r⟩ := h.lst'
    exact .inl ⟨vs, .inl (.inl hp), by rw [r.emp]⟩
  · cases e
    obtain ⟨p, vs, rfl, hp, hl, r⟩ := h.tup'
    exact .inr (.inl ⟨vs, hp, by rw [r.emp]⟩)
  · cases e
def wTru (w : WE) : WT := fun env n Q => w env n fun d n1 => ∃ k, d.tru = some k ∧ Q k n1
theorem dt_tru (h : DB X e wa) (he : ∀ whole, isTrue e X.env whole = (do let v ← whole; standAt e.pos; holding [v] (truthy v)) := by intro _; rfl) : DT X e (wTru wa) :=
  ⟨ptImp (pt_truth h.pe he) fun σ H Q ⟨c, ad, n, env, Q0, R, q0, q⟩ => ⟨c, ad, n, env, _, R, q0, fun d n1 ⟨k, ek, q1⟩ v H' e s => ⟨k, s.tru ek, q _ _ q1 _ e⟩⟩⟩
/-- an expression whose value is a bool, as a test -/
theorem dt_val (h : DE X e wa) (he : ∀ whole, isTrue e X.env whole = (do let v ← whole; standAt e.pos; holding [v] (truthy v)) := by intro _; rfl) : DT X e (wTest wa) :=
  ⟨ptImp (pt_val h.pe he) fun σ H Q ⟨c, ad, n, env, Q0, R, q0, q⟩ => ⟨c, ad, n, env, _, R, q0, fun d n1 ⟨k, ek, q1⟩ v H' e r => by
    subst ek
    cases r
    exact ⟨k, rfl, q _ _ q1 _ e⟩⟩⟩
def wNot (w : WT) : WT := fun env n Q => w env n fun k n1 => Q (!k) n1
theorem dt_not (h : DT X a wt) : DT X (.UnaryOp .Not a pos) (wNot wt) := ⟨ptImp (pt_not h.pt) fun σ H Q ⟨c, ad, n, env, Q0, R, q0, q⟩ => ⟨c, ad, n, env, _, R, q0, fun k n1 q1 H' e => q _ _ q1 _ e⟩⟩
def wAnd (w u : WT) : WT := fun env n Q => w env n fun k n1 => if k = true then u env n1 Q else Q false n1
def wOr (w u : WT) : WT := fun env n Q => w env n fun k n1 => if k = true then Q true n1 else u env n1 Q
theorem dw_and1 (h : DT X a wt) : DW X (.BoolOp .And [a] pos) wt := ⟨pw_and1 h.pt⟩
theorem dw_or1 (h : DT X a wt) : DW X (.BoolOp .Or [a] pos) wt := ⟨pw_or1 h.pt⟩
theorem dw_and (h : DT X a wt) (k : DW X (.BoolOp .And (b :: rest) pos) wu) : DW X (.BoolOp .And (a :: b :: rest) pos) (wAnd wt wu) := ⟨pwImp (pw_and h.pt k.pw) fun σ H Q ⟨c, ad, n, env, Q0, R, q0, q⟩ => ⟨c, ad, n, env, _, R, q0, fun k n1 q1 H' e => by
  cases k with
  | true => rw [if_pos rfl] at q1 ⊢; exact ⟨c, ad, n1, env, _, R.step e, q1, fun k2 n2 q2 H2 e2 => q _ _ q2 _ (e.trans e2)⟩
  | false => rw [if_neg Bool.false_ne_true] at q1 ⊢; exact q _ _ q1 _ e⟩⟩
theorem dw_or (h : DT X a wt) (k : DW X (.BoolOp .Or (b :: rest) pos) wu) : DW X (.BoolOp .Or (a :: b :: rest) pos) (wOr wt wu) := ⟨pwImp (pw_or h.pt k.pw) fun σ H Q ⟨c, ad, n, env, Q0, R, q0, q⟩ => ⟨c, ad, n, env, _, R, q0, fun k n1 q1 H' e => by
  cases k with
  | false => rw [if_neg Bool.false_ne_true] at q1 ⊢; exact ⟨c, ad, n1, env, _, R.step e, q1, fun k2 n2 q2 H2 e2 => q _ _ q2 _ (e.trans e2)⟩
  | true => rw [if_pos rfl] at q1 ⊢; exact q _ _ q1 _ e⟩⟩
theorem DW.t {wt : WT} (h : DW X e wt) : DT X e wt := ⟨h.pw.pt⟩
/-! ### and, or as values, all but the last a bool -/
theorem de_one {op} (h : DE X a wa) : DE X (.BoolOp op [a] pos) wa := ⟨pe_one h.pe⟩
def wAndV (wa wb : WE) : WE := fun env n Q => wa env n fun d n1 => ∃ k, d = .bl k ∧ if k = true then wb env n1 Q else Q (.bl false) n1
def wOrV (wa wb : WE) : WE := fun env n Q => wa env n fun d n1 => ∃ k, d = .bl k ∧ if k = true then Q (.bl true) n1 else wb env n1 Q
theorem de_and (h : DE X a wa) (k : DE X (.BoolOp .And (b :: rest) pos) wb) : DE X (.BoolOp .And (a :: b :: rest) pos) (wAndV wa wb) := .of (pe_and h.pe k.pe) fun σ H Q ⟨c, ad, n, env, Q0, R, q0, q⟩ => ⟨c, ad, n, env, _, R, q0, fun d n1 ⟨k, ek, q1⟩ v H' e r => by
  subst ek
  cases r
  refine ⟨k, rfl, ?_⟩
  cases k with
  | true => rw [if_pos rfl] at q1 ⊢; exact ⟨c, ad, n1, env, _, R.step e, q1, fun k2 n2 q2 v2 H2 e2 r2 => q _ _ q2 _ _ (e.trans e2) r2⟩
  | false => rw [if_neg Bool.false_ne_true] at q1 ⊢; exact q _ _ q1 _ _ e (.bl _)⟩
theorem de_or (h : DE X a wa) (k : DE X (.BoolOp .Or (b :: rest) pos) wb) : DE X (.BoolOp .Or (a :: b :: rest) pos) (wOrV wa wb) := .of (pe_or h.pe k.pe) fun σ H Q ⟨c, ad, n, env, Q0, R, q0, q⟩ => ⟨c, ad, n, env, _, R, q0, fun d n1 ⟨k, ek, q1⟩ v H' e r => by
  subst ek
  cases r
  refine ⟨k, rfl, ?_⟩
  cases k with
  | false => rw [if_neg Bool.false_ne_true] at q1 ⊢; exact ⟨c, ad, n1, env, _, R.step e, q1, fun k2 n2 q2 v2 H2 e2 r2 => q _ _ q2 _ _ (e.trans e2) r2⟩
  | true => rw [if_pos rfl] at q1 ⊢; exact q _ _ q1 _ _ e (.bl _)⟩
def wNotV (wa : WE) : WE := fun env n Q => wa env n fun d n1 => ∃ k, d.tru = some k ∧ Q (.bl (!k)) n1
theorem de_not (h : DB X a wa) : DE X (.UnaryOp .Not a pos) (wNotV wa) := .of (pe_notT h.pe) fun σ H Q ⟨c, ad, n, env, Q0, R, q0, q⟩ => ⟨c, ad, n, env, _, R, q0, fun d n1 ⟨k, ek, q1⟩ v H' e s => ⟨k, s.tru ek, q _ _ q1 _ _ e (.bl _)⟩⟩
def wIfE (w : WT) (wa wb : WE) : WE := fun env n Q => w env n fun k n1 => if k = true then wa env n1 Q else wb env n1 Q
theorem de_if {t : Expr} (h : DT X t wt) (ha : DE X a wa) (hb : DE X b wb) : DE X (.IfExp t a b pos) (wIfE wt wa wb) := .of (pe_ifExp h.pt ha.pe hb.pe) fun σ H Q ⟨c, ad, n, env, Q0, R, q0, q⟩ => ⟨c, ad, n, env, _, R, q0, fun k n1 q1 H' e => by
  cases k with
  | true => rw [if_pos rfl] at q1 ⊢; exact ⟨c, ad, n1, env, _, R.step e, q1, fun k2 n2 q2 v2 H2 e2 r2 => q _ _ q2 _ _ (e.trans e2) r2⟩
  | false => rw [if_neg Bool.false_ne_true] at q1 ⊢; exact ⟨c, ad, n1, env, _, R.step e, q1, fun k2 n2 q2 v2 H2 e2 r2 => q _ _ q2 _ _ (e.trans e2) r2⟩⟩
/-! ### argument lists -/
def wNil : WA := fun _ n Q => Q [] n
def wCons (w : WE) (r : WA) : WA := fun env n Q => w env n fun d n1 => r env n1 fun ds n2 => Q (d :: ds) n2
theorem da_nil : DA X [] wNil := ⟨paImp pa_nil fun σ H Q ⟨c, ad, n, env, Q0, R, q0, q⟩ => q _ _ q0 _ _ (.refl R.bag) .nil⟩
theorem dab_nil : DAB X [] wNil := ⟨paImp pa_nil fun σ H Q ⟨c, ad, n, env, Q0, R, q0, q⟩ => q _ _ q0 _ _ (.refl R.bag) .nil⟩
theorem da_cons {es : List Expr} {w : WA} (h : DE X a wa) (k : DA X es w) (hs : starEach (a :: es) X.env = (false, eval a X.env) :: starEach es X.env := by rfl) : DA X (a :: es) (wCons wa w) := ⟨paImp (pa_cons h.pe k.pa hs) fun σ H Q ⟨c, ad, n, env, Q0, R, q0, q⟩ => ⟨c, ad, n, env, _, R, q0, fun d n1 q1 v H1 e1 r1 => ⟨c, ad, n1, env, _, R.step e1, q1, fun ds n2 q2 vs H2 e2 r2 => q _ _ q2 _ _ (e1.trans e2) (.cons (r1.same (e2.cut R.oaB)) r2)⟩⟩⟩
theorem dab_cons {es : List Expr} {w : WA} (h : DB X a wa) (k : DAB X es w) (hs : starEach (a :: es) X.env = (false, eval a X.env) :: starEach es X.env := by rfl) : DAB X (a :: es) (wCons wa w) := ⟨paImp (pa_cons h.pe k.pa hs) fun σ H Q ⟨c, ad, n, env, Q0, R, q0, q⟩ => ⟨c, ad, n, env, _, R, q0, fun d n1 q1 v H1 e1 r1 => ⟨c, ad, n1, env, _, R.step e1, q1, fun ds n2 q2 vs H2 e2 r2 => q _ _ q2 _ _ (e1.trans e2) (.cons (r1.step e2 R.oaB) r2)⟩⟩⟩
/-! ### tuples and lists written -/
def wTup (w : WA) : WE := fun env n Q => w env n fun ds n1 => ds.length ≤ sizeLine ∧ Q (.tup ds) n1
theorem de_tup {es : List Expr} {w : WA} {x1} (h : DA X es w) : DE X (.Tuple es x1 pos) (wTup w) := .of (pe_tup h.pa) fun σ H Q ⟨c, ad, n, env, Q0, R, q0, q⟩ => ⟨c, ad, n, env, _, R, q0, fun ds n1 ⟨hz, q1⟩ vs H1 e1 r1 => ⟨by rw [r1.len]; exact hz, fun p hp => by
  obtain ⟨sm, rp⟩ := rep_newT (R.step e1).oaD hp (by rw [r1.len]; exact hz) r1
  exact q _ _ q1 _ _ (e1.trans (.of_same e1.bag sm)) rp⟩⟩
theorem DF.of {e : Expr} {t : TE} {w : WO} (h : PE X e t) (k : ∀ σ H Q, lF X.K w σ H Q → t σ H Q) : DF X e w := ⟨peImp h k⟩
def wLst (w : WA) : WO := fun env n Q => w env n fun ds n1 => ds.length ≤ sizeLine ∧ Q (.lst ds) n1
theorem new_at {K : PySem.W.Frag} {c : Ctx} {ad : Nat → Addr} {n n1 : Nat} {σ : L2.St} {H H1 : Hp} {env : En} {p : Addr} {vs : List V} {ds : List D} (R : Rel K c ad n σ H env) (e : EStp c H H1 n1) (hp : H1 p = none) (hl : vs.length ≤ sizeLine) (r : RepL K c.bg (cut (Oa c ad env) H1) vs ds) :
    H p = none ∧ EStp c H (upd H1 p (.lst vs)) n1 ∧ upd H1 p (.lst vs) p = some (.lst vs) ∧ RepO K c.bg (cut (fun a => Oa c ad env a ∨ a = p) (upd H1 p (.lst vs))) (.lst vs) (.lst ds) := by
  refine ⟨?_, e.trans (.new e.bag hp), upd_same, .lst hl (r.same (cut_mono fun a o h1 h2 => ?_))⟩
  · cases z : H p with
    | none => rfl
    | some o =>
      by_cases hb : c.isBag p
      · obtain ⟨l, eb⟩ := hb
        obtain ⟨⟨ns, q, r', m, k, h1, _⟩, _⟩ := e.bag _ _ eb
        rw [hp] at h1; cases h1
      · rw [e.keep p o z hb] at hp; cases hp
  · have hne : a ≠ p := fun z => by subst z; rw [hp] at h2; cases h2
    exact ⟨fun z => z.elim h1 hne, by rw [upd_ne hne]; exact h2⟩
theorem df_lst {es : List Expr} {w : WA} (h : DA X es w) : DF X (.List es pos) (wLst w) := .of (pe_lst h.pa) fun σ H Q ⟨c, ad, n, env, Q0, R, q0, q⟩ => ⟨c, ad, n, env, _, R, q0, fun ds n1 ⟨hz, q1⟩ vs H1 e1 r1 => ⟨by rw [r1.len]; exact hz, fun p hp => by
  obtain ⟨h1, h2, h3, h4⟩ := new_at R e1 hp (by rw [r1.len]; exact hz) r1
  exact q _ _ q1 p _ _ h1 h2 h3 h4⟩⟩
/-- a new object as a value -/
def wOb (w : WO) : WE := fun env n Q => w env n fun o n1 => Q o.d n1
theorem DF.toE {w : WO} (h : DF X e w) : DE X e (wOb w) := .of h.pe fun σ H Q ⟨c, ad, n, env, Q0, R, q0, q⟩ => ⟨c, ad, n, env, _, R, q0, fun o n1 q1 p u H1 hp e1 hu r1 => by
  refine q _ _ q1 _ _ e1 (r1.rep (cut_mono fun a o h1 h2 => ⟨fun z => h1 (.inl z), h2⟩) ?_)
  rw [cut_out (R.free hp)]
  exact hu⟩
theorem de_lst {es : List Expr} {w : WA} (h : DA X es w) : DE X (.List es pos) (wOb (wLst w)) := (df_lst h).toE
/-! ### built-ins, by the values of the arguments -/
abbrev RC := List D → (D → Prop) → Prop
def LinkC (K : PySem.W.Frag) (r : List V → Hp → VK → Prop) (Rd : RC) : Prop := ∀ (bg : Option (Addr × Addr)) (O : Addr → Prop) (H : Hp) (vs : List V) (ds : List D) (Q0 : D → Prop) (Q : VK), (∀ a, O a → H a ≠ none) → ShL K bg O H vs ds → Rd ds Q0 →
  (∀ d, Q0 d → ∀ v H', Same H H' → Rep K bg (cut O H') v d → Q v H') → r vs H Q
structure CallD (X : Cx) (f : Value) (Rd : RC) : Prop where
  ex : ∃ r, CallR X f r ∧ LinkC X.K r Rd
def wCall (Rd : RC) (w : WA) : WE := fun env n Q => w env n fun ds n1 => Rd ds fun d => Q d n1
theorem de_bi {id : String} {x : Str} {p : Pos} {es : List Expr} {w : WA} {Rd : RC} (hc : CallD X (.builtin id) Rd) (hm : X.mg x = none) (ha : DAB X (e :: es) w) (hg : Gl X x := by rfl) (hv : bootBuiltins x = some (.builtin id) := by decide +kernel) (hn : x ≠ "__name__" := by decide) (hdb : (x == ("__debug__" : Str)) = false := by decide)
    (he : starEach (e :: es) X.env = (false, eval e X.env) :: starEach es X.env := by rfl) (hpl : (backTo pos (starEach es X.env)).any (·.1) = false := by rfl) : DE X (.Call (.Name x p) (e :: es) [] pos) (wCall Rd w) := by
  obtain ⟨r, hr, hl⟩ := hc.ex
  exact .of (pe_callB hr hg hm hv ha.pa hn hdb he hpl) fun σ H Q ⟨c, ad, n, env, Q0, R, q0, q⟩ => ⟨c, ad, n, env, _, R, q0, fun ds n1 q1 vs H1 e1 s1 => hl c.bg _ H1 vs ds _ _ (R.step e1).oaD s1 q1 fun d hd v H2 sm rp => q _ _ hd _ _ (e1.trans (.of_same e1.bag sm)) rp⟩
theorem de_tyc {T : String} {x : Str} {p : Pos} {es : List Expr} {w : WA} {Rd : RC} (hc : CallD X (.type T) Rd) (hm : X.mg x = none) (ha : DAB X (e :: es) w) (hg : Gl X x := by rfl) (hv : bootBuiltins x = some (.type T) := by decide +kernel) (hn : x ≠ "__name__" := by decide) (hdb : (x == ("__debug__" : Str)) = false := by decide)
    (he : starEach (e :: es) X.env = (false, eval e X.env) :: starEach es X.env := by rfl) (hpl : (backTo pos (starEach es X.env)).any (·.1) = false := by rfl) : DE X (.Call (.Name x p) (e :: es) [] pos) (wCall Rd w) := by
  obtain ⟨r, hr, hl⟩ := hc.ex
  exact .of (pe_callTy hr hg hm hv ha.pa hn hdb he hpl) fun σ H Q ⟨c, ad, n, env, Q0, R, q0, q⟩ => ⟨c, ad, n, env, _, R, q0, fun ds n1 q1 vs H1 e1 s1 => hl c.bg _ H1 vs ds _ _ (R.step e1).oaD s1 q1 fun d hd v H2 sm rp => q _ _ hd _ _ (e1.trans (.of_same e1.bag sm)) rp⟩
theorem ShL.one {K : PySem.W.Frag} {bg : Option (Addr × Addr)} {O : Addr → Prop} {H : Hp} {vs : List V} {d : D} (h : ShL K bg O H vs [d]) : ∃ v, vs = [v] ∧ Sh K bg O H v d := by
  cases h with
  | cons h t => cases t; exact ⟨_, rfl, h⟩
theorem ShL.two {K : PySem.W.Frag} {bg : Option (Addr × Addr)} {O : Addr → Prop} {H : Hp} {vs : List V} {d e : D} (h : ShL K bg O H vs [d, e]) : ∃ v w, vs = [v, w] ∧ Sh K bg O H v d ∧ Sh K bg O H w e := by
  cases h with
  | cons h t => obtain ⟨w, rfl, k⟩ := t.one; exact ⟨_, _, rfl, h, k⟩
/-- len -/
def D.len : D → Option Nat
  | .str s => some s.length
  | .lst xs => some xs.length
  | .tup xs => some xs.length
  | _ => none
def rLenD : RC := fun ds Q => match ds with
  | [d] => ∃ n, d.len = some n ∧ Q (.int (n : Nat))
  | _ => False
theorem Sh.len {K : PySem.W.Frag} {bg : Option (Addr × Addr)} {O : Addr → Prop} {H : Hp} {v : V} {d : D} {n : Nat} (h : Sh K bg O H v d) (e : d.len = some n) : LenV K v H n := by
  unfold D.len at e
  split at e
  · cases e; have g := h.str'.2; cases h.str'.1; exact ⟨g.len, rfl⟩
  · cases e
    obtain ⟨p, vs, rfl, hp, hl, r⟩ := h.lst'
    exact .inl ⟨vs, .inl (.inl hp), by rw [r.len]⟩
  · cases e
    obtain ⟨p, vs, rfl, hp, hl, r⟩ := h.tup'
    exact .inr ⟨vs, hp, by rw [r.len]⟩
  · cases e
theorem cd_len : CallD X (.builtin "len") rLenD := by
  refine ⟨⟨_, call_len, ?_⟩⟩
  intro bg O H vs ds Q0 Q hO s h q
  unfold rLenD at h
  split at h
  · obtain ⟨v, rfl, s'⟩ := s.one
    obtain ⟨n, e, h⟩ := h
    exact ⟨v, n, rfl, s'.len e, q _ h _ _ (.refl _) (.int _)⟩
  · exact h.elim
def rInt1 (f : Int → Int) : RC := fun ds Q => match ds with
  | [.int i] => Q (.int (f i))
  | _ => False
theorem cd_abs : CallD X (.builtin "abs") (rInt1 fun i => if i < 0 then -i else i) := by
  refine ⟨⟨_, call_abs, ?_⟩⟩
  intro bg O H vs ds Q0 Q hO s h q
  unfold rInt1 at h
  split at h
  · obtain ⟨v, rfl, s'⟩ := s.one
    cases s'.int'
    exact ⟨_, rfl, q _ h _ _ (.refl _) (.int _)⟩
  · exact h.elim
def rIntD : RC := fun ds Q => match ds with
  | [.int i] => Q (.int i)
  | [.bl k] => Q (.int (if k then 1 else 0))
  | _ => False
theorem cd_int : CallD X (.type "int") rIntD := by
  refine ⟨⟨_, call_int1, ?_⟩⟩
  intro bg O H vs ds Q0 Q hO s h q
  unfold rIntD at h
  split at h
  · obtain ⟨v, rfl, s'⟩ := s.one
    cases s'.int'
    exact .inl ⟨_, rfl, q _ h _ _ (.refl _) (.int _)⟩
  · obtain ⟨v, rfl, s'⟩ := s.one
    cases s'.bl'
    exact .inr ⟨_, rfl, q _ h _ _ (.refl _) (.int _)⟩
  · exact h.elim
/-- the items of a list or a tuple -/
def D.items : D → Option (List D)
  | .lst xs => some xs
  | .tup xs => some xs
  | _ => none
def rListD : WA → WO := fun w env n Q => w env n fun ds n1 => ∃ d xs, ds = [d] ∧ d.items = some xs ∧ Q (.lst xs) n1
theorem df_list {x : Str} {p : Pos} {w : WA} (hm : X.mg x = none) (ha : DAB X [e] w) (hg : Gl X x := by rfl) (hv : bootBuiltins x = some (.type "list") := by decide +kernel) (hn : x ≠ "__name__" := by decide) (hdb : (x == ("__debug__" : Str)) = false := by decide)
    (he : starEach (e :: []) X.env = (false, eval e X.env) :: starEach [] X.env := by rfl) (hpl : (backTo pos (starEach [] X.env)).any (·.1) = false := by rfl) : DF X (.Call (.Name x p) [e] [] pos) (rListD w) := by
  refine .of (pe_callTy call_list_of hg hm hv ha.pa hn hdb he hpl) fun σ H Q ⟨c, ad, n, env, Q0, R, q0, q⟩ => ⟨c, ad, n, env, _, R, q0, fun ds n1 ⟨d, xs, ed, ei, q1⟩ vs H1 e1 s1 => ?_⟩
  subst ed
  obtain ⟨v, rfl, s'⟩ := s1.one
  unfold D.items at ei
  split at ei
  · cases ei
    obtain ⟨p, ws, rfl, hp, hl, r⟩ := s'.lst'
    refine ⟨p, ws, rfl, .inl (.inl (.inl hp)), fun l hl' => ?_⟩
    obtain ⟨h1, h2, h3, h4⟩ := new_at R e1 hl' hl r
    exact q _ _ q1 l _ _ h1 h2 h3 h4
  · cases ei
    obtain ⟨p, ws, rfl, hp, hl, r⟩ := s'.tup'
    refine ⟨p, ws, rfl, .inr hp, fun l hl' => ?_⟩
    obtain ⟨h1, h2, h3, h4⟩ := new_at R e1 hl' hl r
    exact q _ _ q1 l _ _ h1 h2 h3 h4
  · cases ei
def rTupleD : RC := fun ds Q => match ds with
  | [d] => ∃ xs, d.items = some xs ∧ Q (.tup xs)
  | _ => False
theorem cd_tuple : CallD X (.type "tuple") rTupleD := by
  refine ⟨⟨_, call_tuple_of, ?_⟩⟩
  intro bg O H vs ds Q0 Q hO s h q
  unfold rTupleD at h
  split at h
  · obtain ⟨v, rfl, s'⟩ := s.one
    obtain ⟨xs, ei, h⟩ := h
    unfold D.items at ei
    split at ei
    · cases ei
      obtain ⟨p, ws, rfl, hp, hl, r⟩ := s'.lst'
      refine ⟨p, ws, rfl, .inl ⟨.inl (.inl hp), fun l hn => ?_⟩⟩
      obtain ⟨sm, rp⟩ := rep_newT hO hn hl r
      exact q _ h _ _ sm rp
    · cases ei
      obtain ⟨p, ws, e', hp, hl, r⟩ := s'.tup'
      subst e'
      exact ⟨p, ws, rfl, .inr ⟨hp, q _ h _ _ (.refl _) s'.tupRep⟩⟩
    · cases ei
  · exact h.elim
/-! ### isinstance -/
def D.tyName : D → Option String
  | .non => some "NoneType"
  | .bl _ => some "bool"
  | .int _ => some "int"
  | .str _ => some "str"
  | .lst _ => some "list"
  | .tup _ => some "tuple"
  | .dk _ => some "dict"
  | .dt _ => some "dict"
  | _ => none
/-- isinstance(x, T), T a built-in type -/
def isT (d : D) (T : String) : Option Bool := d.tyName.bind fun t => kitB t T
def rIsD : RC := fun ds Q => match ds with
  | [d, .ty T] => ∃ b, isT d T = some b ∧ Q (.bl b)
  | _ => False
theorem Sh.ty {K : PySem.W.Frag} {bg : Option (Addr × Addr)} {O : Addr → Prop} {H : Hp} {v : V} {d : D} {t : String} (h : Sh K bg O H v d) (e : d.tyName = some t) : TyX K H v (.type t) := by
  cases h with
  | rep h =>
    cases h with
    | non => cases e; exact .base .non
    | bl b => cases e; exact .base (.bl _)
    | int b => cases e; exact .base (.int _)
    | str b => cases e; exact .base (.str _)
    | lst h hl r => cases e; exact .base (.lst (cut_le _ _ h))
    | tup h hl r =>
      cases e
      rcases h with (h | ⟨o, h⟩) | h
      · exact .base (.tup (cut_le _ _ h))
      · exact .fTuple (cut_le _ _ h)
      · obtain ⟨o, its, n, h1, h2, _⟩ := h
        exact .kTuple h1 h2
    | dk h r => cases e; exact .base (.dK (cut_le _ _ h))
    | dt h r => cases e; exact .base (.dT (cut_le _ _ h))
    | bag h => cases e
    | ty n => cases e
    | ref a => cases e
    | ins h r => cases e
  | @own a u o hb h r =>
    cases r with
    | lst hl r => cases e; exact .base (.lst h)
    | dk r => cases e; exact .base (.dK h)
    | dt r => cases e; exact .base (.dT h)
theorem cd_is : CallD X (.builtin "isinstance") rIsD := by
  refine ⟨⟨_, call_isi, ?_⟩⟩
  intro bg O H vs ds Q0 Q hO s h q
  unfold rIsD at h
  split at h
  · obtain ⟨v, w, rfl, s1, s2⟩ := s.two
    cases s2.ty'
    obtain ⟨b, e, h⟩ := h
    unfold isT at e
    rename_i d T
    cases z : d.tyName with
    | none => rw [z] at e; cases e
    | some t =>
      rw [z] at e
      exact ⟨v, .ty T, .type t, .type T, b, rfl, .ty _, s1.ty z, kit_ty e, q _ h _ _ (.refl _) (.bl _)⟩
  · exact h.elim
/-- isinstance(x, (T1, T2, ..)) -/
def rIsiS (K : PySem.W.Frag) : List V → Hp → VK → Prop := fun xs H Q => ∃ (x : V) (tp : Addr) (cs : List V) (t : Value) (us : List Value) (b : Bool), xs = [x, .ref tp] ∧ SqT K H tp cs ∧ Paired ClsV cs us ∧ TyX K H x t ∧ PySem.W.kitAny K t us = some b ∧ Q (.bl b) H
theorem call_isiS : CallR X (.builtin "isinstance") (rIsiS X.K) := by
  intro pins s σ H xs us Q I r h
  obtain ⟨x, tp, cs, t, ws, b, rfl, hT, k, ty, e, q⟩ := h
  obtain ⟨u1, u2, rfl, r1, r2⟩ := vals2 r
  cases (show u2 = Value.ref tp from r2)
  obtain ⟨P, Z, p, hx⟩ := kit_of I r1 ty
  obtain ⟨its, rv, ⟨o, h1, h2, n, h3⟩, _⟩ := I.tuple hT
  have e3 := ClsV.all k rv
  subst e3
  obtain ⟨oc, od, dt, sl⟩ := o
  simp only at h2 h3
  subst h2 h3
  exact PySem.W.kia_tup Z I.kIn p h1 e hx fun tk => ⟨.bl b, H, I.tok tk, rfl, q⟩
def tysOf : List D → Option (List String)
  | [] => some []
  | .ty n :: r => (tysOf r).map (n :: ·)
  | _ :: _ => none
/-- one of several built-in types -/
def isTs (d : D) : List String → Option Bool
  | [] => some false
  | T :: r => (isT d T).bind fun b => (isTs d r).map fun c => b || c
theorem kitAny_of {K : PySem.W.Frag} {d : D} {t : String} (ht : d.tyName = some t) : ∀ {Ts : List String} {b : Bool}, isTs d Ts = some b → PySem.W.kitAny K (.type t) (Ts.map Value.type) = some b
  | [], b, h => by cases h; rfl
  | T :: r, b, h => by
    unfold isTs at h
    cases e : isT d T with
    | none => rw [e] at h; cases h
    | some b1 =>
      rw [e] at h
      cases e2 : isTs d r with
      | none => rw [e2] at h; cases h
      | some b2 =>
        rw [e2] at h
        have hb : b = (b1 || b2) := (Option.some.inj h).symm
        have hk : PySem.W.kitOne K (.type t) (.type T) = some b1 := by
          unfold isT at e
          rw [ht] at e
          exact kit_ty e
        have ih := kitAny_of (K := K) ht e2
        subst hb
        rw [List.map_cons]
        unfold PySem.W.kitAny
        show (match PySem.W.kitOne K (Value.type t) (Value.type T) with
          | some true => some true
          | some false => PySem.W.kitAny K (Value.type t) (r.map Value.type)
          | none => none) = _
        rw [hk]
        cases b1 with
        | true => rfl
        | false => exact ih
theorem tys_rep {K : PySem.W.Frag} {bg : Option (Addr × Addr)} {H : Hp} : ∀ {vs : List V} {ds : List D} {Ts : List String}, RepL K bg H vs ds → tysOf ds = some Ts → Paired ClsV vs (Ts.map Value.type)
  | _, _, Ts, .nil, h => by cases h; exact .nil
  | _, d :: ds, Ts, .cons h t, e => by
    cases h with
    | ty n =>
      unfold tysOf at e
      cases e2 : tysOf ds with
      | none => rw [e2] at e; cases e
      | some r =>
        rw [e2] at e
        cases e
        exact .cons (.ty n) (tys_rep t e2)
    | _ => cases e
def rIsTD : RC := fun ds Q => match ds with
  | [d, .tup cs] => ∃ Ts b, tysOf cs = some Ts ∧ d.tyName.isSome = true ∧ isTs d Ts = some b ∧ Q (.bl b)
  | _ => False
theorem cd_isT : CallD X (.builtin "isinstance") rIsTD := by
  refine ⟨⟨_, call_isiS, ?_⟩⟩
  intro bg O H vs ds Q0 Q hO s h q
  unfold rIsTD at h
  split at h
  · obtain ⟨v, w, rfl, s1, s2⟩ := s.two
    obtain ⟨Ts, b, e1, e0, e2, h⟩ := h
    obtain ⟨p, ws, rfl, hp, hl, r⟩ := s2.tup'
    obtain ⟨t, ht⟩ := Option.isSome_iff_exists.1 e0
    exact ⟨v, p, ws, .type t, _, b, rfl, hp, tys_rep r e1, s1.ty ht, kitAny_of ht e2, q _ h _ _ (.refl _) (.bl _)⟩
  · exact h.elim
/-! ### methods of texts -/
/-- of one argument -/
def wM1 (Rd : RR) (wa wb : WE) : WE := wOp Rd wa wb
structure MtD1 (X : Cx) (id : String) (Rd : RR) : Prop where
  ex : ∃ r, MtR X id r ∧ ∀ (bg : Option (Addr × Addr)) (O : Addr → Prop) (H : Hp) (v1 v2 : V) (d1 d2 : D) (Q0 : D → Prop) (Q : VK), (∀ a, O a → H a ≠ none) → Sh X.K bg O H v1 d1 → Sh X.K bg O H v2 d2 → Rd d1 d2 Q0 →
    (∀ d, Q0 d → ∀ v H', Same H H' → Rep X.K bg (cut O H') v d → Q v H') → r v1 [v2] H Q
def D.isStr : D → Bool
  | .str _ => true
  | _ => false
theorem Sh.isStr {K : PySem.W.Frag} {bg : Option (Addr × Addr)} {O : Addr → Prop} {H : Hp} {v : V} {d : D} (h : Sh K bg O H v d) (e : d.isStr = true) : ∃ z, v = .str z := by
  cases d <;> first | exact absurd e Bool.false_ne_true | exact ⟨_, h.str'.1⟩
def wMt1 (Rd : RR) (wa wb : WE) : WE := fun env n Q => wa env n fun d1 n1 => d1.isStr = true ∧ wb env n1 fun d2 n2 => Rd d1 d2 fun d => Q d n2
theorem de_m1 {o e : Expr} {wa wb : WE} {id : String} {name : Str} {apos pos : Pos} {Rd : RR} (slot : Slot "str" name id) (ty : typeOf (.builtin id) = pure (.type "method_descriptor")) (rule : MtD1 X id Rd) (ho : DB X o wa) (he : DB X e wb)
    (hs : starEach [e] X.env = [(false, eval e X.env)] := by rfl) (hbase : attributeBase o name X.env (eval o X.env) = eval o X.env := by rfl) (hline : (apos.endLine == pos.line) = true := by rfl) : DE X (.Call (.Attribute o name apos) [e] [] pos) (wMt1 Rd wa wb) := by
  obtain ⟨r, hr, hl⟩ := rule.ex
  refine .of (pe_m1 slot ty hr ho.pe he.pe hs hbase hline) fun σ H Q ⟨c, ad, n, env, Q0, R, q0, q⟩ => ?_
  refine ⟨c, ad, n, env, _, R, q0, fun d1 n1 ⟨hstr, q1⟩ v1 H1 e1 s1 => ⟨s1.isStr hstr, ⟨c, ad, n1, env, _, R.step e1, q1, fun d2 n2 q2 v2 H2 e2 s2 => ?_⟩⟩⟩
  exact hl c.bg _ H2 v1 v2 d1 d2 _ _ ((R.step e1).step e2).oaD (s1.step e2 R.oaB) s2 q2 fun d hd v H3 sm rp => q d n2 hd v H3 ((e1.trans e2).trans (.of_same e2.bag sm)) rp
theorem sub_good {s t : Str} (h : GoodS s) (hl : t.length ≤ s.length) (hm : ∀ c ∈ t.cps.toList, c ∈ s.cps.toList) : GoodS t := ⟨Nat.le_trans hl h.len, good_iff.2 fun c hc => good_iff.1 h.ok c (hm c hc)⟩
theorem extract_good {s : Str} (h : GoodS s) (i j : Nat) : GoodS ⟨s.cps.extract i j⟩ := by
  refine sub_good h ?_ fun c hc => ?_
  · show (s.cps.extract i j).size ≤ s.cps.size
    rw [Array.size_extract]
    omega
  · have hc' : c ∈ (s.cps.extract i j).toList := hc
    rw [Array.toList_extract] at hc'
    exact List.mem_of_mem_drop (List.mem_of_mem_take (by simpa using hc'))
/-- x.strip(y) -/
def rStripD : RR := fun x y Q => match x, y with
  | .str a, .str b => Q (.str (Txt.stripChars a b))
  | _, _ => False
theorem stripBy_good {s : Str} (h : GoodS s) (g : Nat → Bool) (l r : Bool) : GoodS (Txt.stripBy g l r s) := by
  unfold Txt.stripBy
  split
  · exact h
  · unfold PySem.stripped
    exact extract_good h _ _
theorem md_strip : MtD1 X "str.strip" rStripD := by
  refine ⟨⟨_, mt_stripChars, ?_⟩⟩
  intro bg O H v1 v2 d1 d2 Q0 Q hO s1 s2 h q
  unfold rStripD at h
  split at h
  · have g := s1.str'.2
    cases s1.str'.1; cases s2.str'.1
    exact ⟨_, _, rfl, rfl, g.len, q _ h _ _ (.refl _) (.str (stripBy_good g _ _ _))⟩
  · exact h.elim
theorem de_strip {o e : Expr} {wa wb : WE} {apos pos : Pos} (ho : DB X o wa) (he : DB X e wb)
    (hs : starEach [e] X.env = [(false, eval e X.env)] := by rfl) (hbase : attributeBase o "strip" X.env (eval o X.env) = eval o X.env := by rfl) (hline : (apos.endLine == pos.line) = true := by rfl) : DE X (.Call (.Attribute o "strip" apos) [e] [] pos) (wMt1 rStripD wa wb) :=
  de_m1 PySem.F.slot_str_strip PySem.F.type_str_strip md_strip ho he hs hbase hline
/-- sep.join(texts) -/
def strsOf : List D → Option (List Str)
  | [] => some []
  | .str s :: r => (strsOf r).map (s :: ·)
  | _ :: _ => none
theorem strsOf_map (ss : List Str) : strsOf (ss.map D.str) = some ss := by
  induction ss with
  | nil => rfl
  | cons s r ih => rw [List.map_cons, strsOf, ih]; rfl
theorem strs_rep {K : PySem.W.Frag} {bg : Option (Addr × Addr)} {H : Hp} : ∀ {vs : List V} {ds : List D} {ss : List Str}, RepL K bg H vs ds → strsOf ds = some ss → vs = ss.map V.str ∧ ∀ s ∈ ss, GoodS s
  | _, _, ss, .nil, h => by cases h; exact ⟨rfl, fun s h => by cases h⟩
  | _, d :: ds, ss, .cons h t, e => by
    cases h with
    | str g =>
      unfold strsOf at e
      cases e2 : strsOf ds with
      | none => rw [e2] at e; cases e
      | some r =>
        rw [e2] at e
        cases e
        obtain ⟨h1, h2⟩ := strs_rep t e2
        refine ⟨by rw [h1]; rfl, fun s hs => ?_⟩
        rcases List.mem_cons.1 hs with rfl | hs
        · exact g
        · exact h2 s hs
    | _ => cases e
theorem join_codes (a : Str) : ∀ (ys : List Str), (Txt.join a ys).cps.toList = ((ys.map (fun z : Str => z.cps.toList)).intersperse a.cps.toList).flatten := by
  intro ys
  show ((ys.drop 1).foldl (fun acc p => acc ++ a.cps ++ p.cps) (ys.headD Str.empty).cps).toList = _
  cases ys with
  | nil => rfl
  | cons y r =>
    show ((r).foldl (fun acc p => acc ++ a.cps ++ p.cps) y.cps).toList = _
    have key : ∀ (r : List Str) (z : Array Nat), (r.foldl (fun acc p => acc ++ a.cps ++ p.cps) z).toList = z.toList ++ (r.map fun p => a.cps.toList ++ p.cps.toList).flatten := by
      intro r
      induction r with
      | nil => intro z; simp
      | cons p r ih => intro z; rw [List.foldl_cons, ih]; simp
    rw [key]
    induction r generalizing y with
    | nil => simp
    | cons p r ih =>
      have := ih p
      rw [List.map_cons, List.map_cons, List.map_cons, List.intersperse_cons₂, List.flatten_cons, List.flatten_cons, List.flatten_cons]
      rw [List.map_cons] at this
      rw [← this]
      simp
theorem join_good {a : Str} {ys : List Str} (ga : GoodS a) (gy : ∀ s ∈ ys, GoodS s) (h : (ys.map (·.length)).sum + ys.length * a.length ≤ 16777216) : GoodS (Txt.join a ys) := by
  have hl : (Txt.join a ys).length ≤ (ys.map (·.length)).sum + ys.length * a.length := by
    show (Txt.join a ys).cps.size ≤ _
    rw [← Array.length_toList, join_codes]
    clear h gy
    induction ys with
    | nil => simp
    | cons y r ih =>
      cases r with
      | nil =>
        simp
        show y.cps.size ≤ y.cps.size + a.length
        omega
      | cons z r =>
        rw [List.map_cons, List.map_cons, List.intersperse_cons₂, List.flatten_cons, List.flatten_cons]
        rw [List.map_cons] at ih
        rw [List.length_append, List.length_append, List.map_cons, List.sum_cons, List.length_cons]
        have e1 : y.cps.toList.length = y.length := Array.length_toList
        have e2 : a.cps.toList.length = a.length := Array.length_toList
        rw [Nat.succ_mul]
        omega
  refine ⟨Nat.le_trans hl (by rw [sizeLine_eq]; exact h), good_iff.2 fun c hc => ?_⟩
  rw [join_codes] at hc
  clear h hl
  have hh : ∀ (l : List (List Nat)), c ∈ (l.intersperse a.cps.toList).flatten → c ∈ a.cps.toList ∨ ∃ y ∈ l, c ∈ y := by
    intro l
    induction l with
    | nil => intro h; simp at h
    | cons y r ih =>
      cases r with
      | nil => intro h; exact .inr ⟨y, by simp, by simpa using h⟩
      | cons z r =>
        intro h
        rw [List.intersperse_cons₂, List.flatten_cons, List.flatten_cons, List.mem_append, List.mem_append] at h
        rcases h with h | h | h
        · exact .inr ⟨y, List.mem_cons_self, h⟩
        · exact .inl h
        · rcases ih h with h | ⟨u, hu, h⟩
          · exact .inl h
          · exact .inr ⟨u, List.mem_cons_of_mem _ hu, h⟩
  rcases hh _ hc with h | ⟨y, hy, h⟩
  · exact good_iff.1 ga.ok c h
  · obtain ⟨s, hs, rfl⟩ := List.mem_map.1 hy
    exact good_iff.1 (gy s hs).ok c h
def rJoinD : RR := fun x y Q => ∃ a xs ss, x = .str a ∧ y.items = some xs ∧ strsOf xs = some ss ∧ (ss.map (·.length)).sum + ss.length * a.length ≤ 16777216 ∧ Q (.str (Txt.join a ss))
theorem md_join : MtD1 X "str.join" rJoinD := by
  refine ⟨⟨_, mt_join, ?_⟩⟩
  rintro bg O H v1 v2 d1 d2 Q0 Q hO s1 s2 ⟨a, xs, ss, rfl, ei, es, hz, h⟩ q
  have g := s1.str'.2
  cases s1.str'.1
  unfold D.items at ei
  split at ei
  · cases ei
    obtain ⟨p, ws, rfl, hp, hl, r⟩ := s2.lst'
    obtain ⟨h1, h2⟩ := strs_rep r es
    subst h1
    exact ⟨_, p, ss, rfl, rfl, .inl (.inl (.inl hp)), hz, q _ h _ _ (.refl _) (.str (join_good g h2 hz))⟩
  · cases ei
    obtain ⟨p, ws, rfl, hp, hl, r⟩ := s2.tup'
    obtain ⟨h1, h2⟩ := strs_rep r es
    subst h1
    exact ⟨_, p, ss, rfl, rfl, .inr hp, hz, q _ h _ _ (.refl _) (.str (join_good g h2 hz))⟩
  · cases ei
theorem de_join {o e : Expr} {wa wb : WE} {apos pos : Pos} (ho : DB X o wa) (he : DB X e wb)
    (hs : starEach [e] X.env = [(false, eval e X.env)] := by rfl) (hbase : attributeBase o "join" X.env (eval o X.env) = eval o X.env := by rfl) (hline : (apos.endLine == pos.line) = true := by rfl) : DE X (.Call (.Attribute o "join" apos) [e] [] pos) (wMt1 rJoinD wa wb) :=
  de_m1 PySem.F.slot_str_join PySem.F.type_str_join md_join ho he hs hbase hline
end
end Dv

set_option Elab.async false
set_option linter.all false
set_option maxRecDepth 100000
set_option maxHeartbeats 4000000
/-! Dv4: statements, targets, loops, comprehensions by value -/
namespace Dv
open PySem PySem.Spec PyProof.Rows L2
/-! ### a slot stored -/
section
variable {K : PySem.W.Frag} {c : Ctx} {ad : Nat → Addr} {n n' : Nat} {σ σ' : L2.St} {H H' : Hp} {env : En}
theorem own_set {i j : Nat} {s : SD} (h : Own (env.set i s) j) : (j = i ∧ i < env.length ∧ ∃ o, s = .own o) ∨ (j ≠ i ∧ Own env j) := by
  obtain ⟨o, e⟩ := h
  by_cases z : j = i
  · subst z
    by_cases hl : j < env.length
    · rw [List.getElem?_set_self hl] at e
      exact .inl ⟨rfl, hl, o, Option.some.inj e⟩
    · rw [List.getElem?_eq_none (by simpa using hl)] at e; cases e
  · rw [List.getElem?_set_ne (Ne.symm z)] at e
    exact .inr ⟨z, o, e⟩
theorem own_set_ne {i j : Nat} {s : SD} (hn : j ≠ i) (h : Own env j) : Own (env.set i s) j := by
  obtain ⟨o, e⟩ := h
  exact ⟨o, by rw [List.getElem?_set_ne (Ne.symm hn)]; exact e⟩
/-- a slot that owns nothing any more: less is forbidden -/
theorem oa_less {i : Nat} {s : SD} (hs : ∀ o, s ≠ .own o) {a : Addr} (h : Oa c ad (env.set i s) a) : Oa c ad env a := by
  rcases h with h | ⟨j, hj, rfl⟩
  · exact .inl h
  · rcases own_set hj with ⟨_, _, o, e⟩ | ⟨_, hj⟩
    · exact absurd e (hs o)
    · exact .inr ⟨j, hj, rfl⟩
theorem Rel.setS (R : Rel K c ad n σ H env) {i : Nat} {s : SD} (hs : ∀ o, s ≠ .own o) (hl : σ.length ≤ σ'.length) (hσ : ∀ j, j ≠ i → σ'[j]? = σ[j]?) (h : ∀ d, s = .val d → i < env.length → ∃ v, σ'[i]? = some (some v) ∧ Rep K c.bg (cut (Oa c ad env) H) v d) : Rel K c ad n σ' H (env.set i s) := by
  have sm : Same (cut (Oa c ad env) H) (cut (Oa c ad (env.set i s)) H) := cut_mono fun a o h1 h2 => ⟨fun z => h1 (oa_less hs z), h2⟩
  refine ⟨by rw [List.length_set]; exact Nat.le_trans R.len hl, R.base, R.dom, R.bag, fun j k h1 h2 e => ?_, fun j h1 => ?_, fun j h1 => ?_, fun j sd e => ?_⟩
  · rcases own_set h1 with ⟨_, _, o, e⟩ | ⟨_, h1⟩
    · exact absurd e (hs o)
    · rcases own_set h2 with ⟨_, _, o, e⟩ | ⟨_, h2⟩
      · exact absurd e (hs o)
      · exact R.inj j k h1 h2 e
  · rcases own_set h1 with ⟨_, _, o, e⟩ | ⟨_, h1⟩
    · exact absurd e (hs o)
    · exact R.fresh j h1
  · rcases own_set h1 with ⟨_, _, o, e⟩ | ⟨_, h1⟩
    · exact absurd e (hs o)
    · exact R.notO j h1
  · by_cases z : j = i
    · subst z
      by_cases hl : j < env.length
      · rw [List.getElem?_set_self hl] at e
        have e' := Option.some.inj e
        rw [← e']
        cases s with
        | un => trivial
        | val d => obtain ⟨v, h1, h2⟩ := h d rfl hl; exact ⟨v, h1, h2.same sm⟩
        | own o => exact absurd rfl (hs o)
      · rw [List.getElem?_eq_none (by simpa using hl)] at e; cases e
    · rw [List.getElem?_set_ne (Ne.symm z)] at e
      have := R.slot j sd e
      cases sd with
      | un => trivial
      | val d =>
        obtain ⟨v, h1, h2⟩ := this
        exact ⟨v, by rw [hσ j z]; exact h1, h2.same sm⟩
      | own o =>
        obtain ⟨h1, u, h2, h3⟩ := this
        exact ⟨by rw [hσ j z]; exact h1, u, h2, h3.same sm⟩
theorem Rel.set (R : Rel K c ad n σ H env) {i : Nat} {v : V} {d : D} (h : Rep K c.bg (cut (Oa c ad env) H) v d) : Rel K c ad n (σ.set i (some v)) H (env.set i (.val d)) := by
  refine R.setS (fun o z => nomatch z) (by rw [List.length_set]; exact Nat.le_refl _) (fun j z => by rw [List.getElem?_set_ne (Ne.symm z)]) fun d' e hl => ⟨v, ?_, ?_⟩
  · rw [List.getElem?_set_self (Nat.lt_of_lt_of_le hl R.len)]
  · cases e; exact h
/-- forgotten -/
theorem Rel.forget (R : Rel K c ad n σ H env) {i : Nat} : Rel K c ad n σ H (env.set i .un) :=
  R.setS (fun o z => nomatch z) (Nat.le_refl _) (fun _ _ => rfl) fun d' e _ => by cases e
/-- owned no more: a value from now on -/
theorem Rel.frz (R : Rel K c ad n σ H env) {i : Nat} {o : Ob} (e : env[i]? = some (.own o)) : Rel K c ad n σ H (env.set i (.val o.d)) := by
  have sl := R.slot i _ e
  obtain ⟨h1, u, h2, h3⟩ := sl
  have hs : ∀ o', (SD.val o.d) ≠ .own o' := fun o z => nomatch z
  have sm : Same (cut (Oa c ad env) H) (cut (Oa c ad (env.set i (.val o.d))) H) := cut_mono fun a o h1 h2 => ⟨fun z => h1 (oa_less hs z), h2⟩
  have hi : ¬ Oa c ad (env.set i (.val o.d)) (ad i) := fun z => by
    rcases z with z | ⟨j, hj, ej⟩
    · exact R.notO i ⟨o, e⟩ z
    · rcases own_set hj with ⟨_, _, o, e⟩ | ⟨hn, hj⟩
      · exact absurd e (hs o)
      · exact hn (R.inj j i hj ⟨o, e⟩ ej.symm)
  -- forget first, then store the value
  have R1 := R.forget (i := i)
  have R2 : Rel K c ad n σ H ((env.set i .un).set i (.val o.d)) := by
    refine R1.setS hs (Nat.le_refl _) (fun _ _ => rfl) fun d' e' _ => ⟨.ref (ad i), h1, ?_⟩
    cases e'
    have sm1 : Same (cut (Oa c ad env) H) (cut (Oa c ad (env.set i .un)) H) := cut_mono fun a o h1 h2 => ⟨fun z => h1 (oa_less (fun o z => by cases z) z), h2⟩
    refine h3.rep sm1 ?_
    rw [cut_out]
    · exact h2
    · intro z
      rcases z with z | ⟨j, hj, ej⟩
      · exact R.notO i ⟨o, e⟩ z
      · rcases own_set hj with ⟨_, _, o, e⟩ | ⟨hn, hj⟩
        · cases e
        · exact hn (R.inj j i hj ⟨o, e⟩ ej.symm)
  rw [List.set_set] at R2
  exact R2
def adSet (ad : Nat → Addr) (i : Nat) (p : Addr) : Nat → Addr := fun j => if j = i then p else ad j
theorem adSet_same {ad : Nat → Addr} {i : Nat} {p : Addr} {j : Nat} (h : j = i) : adSet ad i p j = p := if_pos h
theorem adSet_ne {ad : Nat → Addr} {i : Nat} {p : Addr} {j : Nat} (h : j ≠ i) : adSet ad i p j = ad j := if_neg h
/-- a new object, owned -/
theorem Rel.setOwn (R : Rel K c ad n σ H env) {i : Nat} {p : Addr} {u : HO} {o : Ob} (hp : H p = none) (e : EStp c H H' n') (hu : H' p = some u) (r : RepO K c.bg (cut (fun a => Oa c ad env a ∨ a = p) H') u o) :
    Rel K c (adSet ad i p) n' (σ.set i (some (.ref p))) H' (env.set i (.own o)) := by
  have R' := R.step e
  have pb : ¬ c.isBag p := fun ⟨l, eb⟩ => by
    obtain ⟨⟨ns, q, r', m, k, h1, _⟩, _⟩ := R.bag _ _ eb
    rw [hp] at h1; cases h1
  have pO : ¬ Oa c ad env p := R.free hp
  have ne : ∀ j, Own env j → ad j ≠ p := fun j hj z => pO (.inr ⟨j, hj, z.symm⟩)
  have oa : ∀ a, Oa c (adSet ad i p) (env.set i (.own o)) a → Oa c ad env a ∨ a = p := fun a h => by
    rcases h with h | ⟨j, hj, rfl⟩
    · exact .inl (.inl h)
    · rcases own_set hj with ⟨z, _⟩ | ⟨z, hj⟩
      · exact .inr (by rw [adSet_same z])
      · rw [adSet_ne z]; exact .inl (.inr ⟨j, hj, rfl⟩)
  have sm : Same (cut (fun a => Oa c ad env a ∨ a = p) H') (cut (Oa c (adSet ad i p) (env.set i (.own o))) H') := cut_mono fun a o h1 h2 => ⟨fun z => h1 (oa a z), h2⟩
  have sm0 : Same (cut (Oa c ad env) H) (cut (Oa c (adSet ad i p) (env.set i (.own o))) H') := cut_mono fun a u h1 h2 => by
    have hb : ¬ c.isBag a := fun z => h1 (R.oaB a z)
    refine ⟨fun z => ?_, e.keep a u h2 hb⟩
    rcases oa a z with z | z
    · exact h1 z
    · rw [z, hp] at h2; cases h2
  refine ⟨by rw [List.length_set, List.length_set]; exact R.len, R'.base, R'.dom, R'.bag, fun j k h1 h2 ejk => ?_, fun j h1 => ?_, fun j h1 => ?_, fun j sd ej => ?_⟩
  · rcases own_set h1 with ⟨z1, _⟩ | ⟨z1, h1⟩ <;> rcases own_set h2 with ⟨z2, _⟩ | ⟨z2, h2⟩
    · rw [z1, z2]
    · rw [adSet_same z1, adSet_ne z2] at ejk; exact absurd ejk.symm (ne k h2)
    · rw [adSet_ne z1, adSet_same z2] at ejk; exact absurd ejk (ne j h1)
    · rw [adSet_ne z1, adSet_ne z2] at ejk; exact R.inj j k h1 h2 ejk
  · rcases own_set h1 with ⟨z1, _⟩ | ⟨z1, h1⟩
    · rw [adSet_same z1]
      cases q : c.H0 p with
      | none => rfl
      | some o' => have := R.base p o' q pb; rw [hp] at this; cases this
    · rw [adSet_ne z1]; exact R.fresh j h1
  · rcases own_set h1 with ⟨z1, _⟩ | ⟨z1, h1⟩
    · rw [adSet_same z1]; exact fun z => R.dom p z hp
    · rw [adSet_ne z1]; exact R.notO j h1
  · by_cases z : j = i
    · subst z
      by_cases hl : j < env.length
      · rw [List.getElem?_set_self hl] at ej
        obtain rfl := Option.some.inj ej
        refine ⟨?_, u, ?_, r.same sm⟩
        · rw [List.getElem?_set_self (Nat.lt_of_lt_of_le hl R.len), adSet_same rfl]
        · rw [adSet_same rfl]; exact hu
      · rw [List.getElem?_eq_none (by simpa using hl)] at ej; cases ej
    · rw [List.getElem?_set_ne (Ne.symm z)] at ej
      have := R.slot j sd ej
      cases sd with
      | un => trivial
      | val d =>
        obtain ⟨v, h1, h2⟩ := this
        exact ⟨v, by rw [List.getElem?_set_ne (Ne.symm z)]; exact h1, h2.same sm0⟩
      | own o' =>
        obtain ⟨h1, u', h2, h3⟩ := this
        refine ⟨by rw [List.getElem?_set_ne (Ne.symm z), adSet_ne z]; exact h1, u', ?_, h3.same sm0⟩
        rw [adSet_ne z]
        exact e.keep _ _ h2 (R.nbag ⟨o', ej⟩)
/-- an owned object changed -/
theorem Rel.change (R : Rel K c ad n σ H env) {i : Nat} {u : HO} {o o' : Ob} (e : env[i]? = some (.own o)) (r : RepO K c.bg (cut (Oa c ad env) H) u o') : Rel K c ad n σ (upd H (ad i) u) (env.set i (.own o')) := by
  have hi : Own env i := ⟨o, e⟩
  have il : i < env.length := (List.getElem?_eq_some_iff.1 e).1
  have ow : ∀ j, Own (env.set i (.own o')) j ↔ Own env j := fun j => by
    constructor
    · intro h
      rcases own_set h with ⟨z, _⟩ | ⟨_, h⟩
      · rw [z]; exact hi
      · exact h
    · intro h
      by_cases z : j = i
      · rw [z]; exact ⟨o', by rw [List.getElem?_set_self il]⟩
      · exact own_set_ne z h
  have oa : Oa c ad (env.set i (.own o')) = Oa c ad env := by
    funext a
    unfold Oa
    exact propext ⟨fun h => h.imp id fun ⟨j, hj, ej⟩ => ⟨j, (ow j).1 hj, ej⟩, fun h => h.imp id fun ⟨j, hj, ej⟩ => ⟨j, (ow j).2 hj, ej⟩⟩
  have cu : cut (Oa c ad env) (upd H (ad i) u) = cut (Oa c ad env) H := cut_upd (.inr ⟨i, hi, rfl⟩)
  have neb : ∀ b l, c.bg = some (b, l) → b ≠ ad i ∧ l ≠ ad i := fun b l eb => ⟨fun z => R.notO i hi (by rw [← z]; exact (R.bag _ _ eb).2.1), fun z => R.notO i hi (by rw [← z]; exact (R.bag _ _ eb).2.2)⟩
  refine ⟨by rw [List.length_set]; exact R.len, fun a u' h hb => ?_, fun a ha => ?_, fun b l eb => ?_, fun j k h1 h2 ejk => R.inj j k ((ow j).1 h1) ((ow k).1 h2) ejk, fun j h => R.fresh j ((ow j).1 h), fun j h => R.notO j ((ow j).1 h), fun j sd ej => ?_⟩
  · rw [upd_ne (fun z => by rw [z, R.fresh i hi] at h; cases h)]
    exact R.base a u' h hb
  · rw [upd_ne (fun z => R.notO i hi (by rw [← z]; exact ha))]
    exact R.dom a ha
  · obtain ⟨⟨ns, q, r', m, k, h1, h2, h3⟩, h4, h5⟩ := R.bag _ _ eb
    obtain ⟨n1, n2⟩ := neb b l eb
    exact ⟨⟨ns, q, r', m, k, by rw [upd_ne n1]; exact h1, by rw [upd_ne n2]; exact h2, h3⟩, h4, h5⟩
  · by_cases z : j = i
    · subst z
      rw [List.getElem?_set_self il] at ej
      obtain rfl := Option.some.inj ej
      have sl := R.slot j _ e
      refine ⟨sl.1, u, upd_same, ?_⟩
      rw [oa, cu]
      exact r
    · rw [List.getElem?_set_ne (Ne.symm z)] at ej
      have sl := R.slot j sd ej
      cases sd with
      | un => trivial
      | val d =>
        obtain ⟨v, h1, h2⟩ := sl
        refine ⟨v, h1, ?_⟩
        rw [oa, cu]
        exact h2
      | own o2 =>
        obtain ⟨h1, u2, h2, h3⟩ := sl
        refine ⟨h1, u2, ?_, ?_⟩
        · rw [upd_ne (fun q => z (R.inj j i ⟨o2, ej⟩ hi q))]
          exact h2
        · rw [oa, cu]
          exact h3
end
end Dv

set_option Elab.async false
set_option linter.all false
set_option maxRecDepth 100000
set_option maxHeartbeats 4000000
/-! Dv5: statements, targets, loops by value -/
namespace Dv
open PySem PySem.Spec PyProof.Rows L2
section
variable {X : Cx} {st : Stmt} {rest : List Stmt} {w u : WS} {we : WE} {wo : WO} {wt : WT} {e : Expr} {pos : Pos}
theorem DS.of {t : TS} (h : PS X st t) (k : ∀ D σ H, lS X.K w D σ H → t D σ H) : DS X st w := ⟨psImp h k⟩
def wNx : WS := fun D env n => D.nx env n
def wSeq (w u : WS) : WS := fun D env n => w { D with nx := u D } env n
theorem dss_nil : DSs X [] wNx := ⟨pssImp pss_nil fun E σ H ⟨c, ad, n, env, D0, R, q0, S⟩ => S.nx _ _ q0 _ _ _ R⟩
theorem dss_cons (h : DS X st w) (k : DSs X rest u) : DSs X (st :: rest) (wSeq w u) := ⟨pssImp (pss_cons h.ps k.ps) fun E σ H ⟨c, ad, n, env, D0, R, q0, S⟩ =>
  ⟨c, ad, n, env, _, R, q0, ⟨fun env n h σ H ad R => ⟨c, ad, n, env, D0, R, h, S⟩, S.bk, S.ct, S.rt, S.rf⟩⟩⟩
theorem dss_one (h : DS X st w) : DSs X [st] w := ⟨pss_one h.ps⟩
/-- a statement, then the rest, with a word between them -/
def wCut (w u : WS) : WS := fun D env n => ∃ Mid : En → Nat → Prop, w { D with nx := Mid } env n ∧ ∀ env n, Mid env n → u D env n
theorem dss_cut (h : DS X st w) (k : DSs X rest u) : DSs X (st :: rest) (wCut w u) := ⟨pssImp (pss_cons h.ps k.ps) fun E σ H ⟨c, ad, n, env, D0, R, ⟨Mid, q0, q1⟩, S⟩ =>
  ⟨c, ad, n, env, _, R, q0, ⟨fun env n h σ H ad R => ⟨c, ad, n, env, D0, R, q1 _ _ h, S⟩, S.bk, S.ct, S.rt, S.rf⟩⟩⟩
def wPass : WS := wNx
theorem ds_pass : DS X (.Pass pos) wNx := .of ps_pass fun E σ H ⟨c, ad, n, env, D0, R, q0, S⟩ => S.nx _ _ q0 _ _ _ R
theorem ds_doc {x j pos'} : DS X (.Expr (.Constant (.str x) j pos) pos') wNx := .of ps_doc fun E σ H ⟨c, ad, n, env, D0, R, q0, S⟩ => S.nx _ _ q0 _ _ _ R
def wBk : WS := fun D env n => D.bk env n
def wCt : WS := fun D env n => D.ct env n
theorem ds_break : DS X (.Break pos) wBk := .of ps_break fun E σ H ⟨c, ad, n, env, D0, R, q0, S⟩ => S.bk _ _ q0 _ _ _ R
theorem ds_cont : DS X (.Continue pos) wCt := .of ps_continue fun E σ H ⟨c, ad, n, env, D0, R, q0, S⟩ => S.ct _ _ q0 _ _ _ R
def wDrop (we : WE) : WS := fun D env n => we env n fun _ n1 => D.nx env n1
theorem ds_expr (h : DE X e we) (hs : swapsWith e none pos.line X.env = pure false := by rfl) : DS X (.Expr e pos) (wDrop we) := .of (ps_expr h.pe hs) fun E σ H ⟨c, ad, n, env, D0, R, q0, S⟩ =>
  ⟨c, ad, n, env, _, R, q0, fun d n1 q1 v H1 e1 r1 => S.nx _ _ q1 _ _ _ (R.step e1)⟩
/-- what is handed back leans on nothing of one's own -/
theorem Rel.back {K : PySem.W.Frag} {c : Ctx} {ad : Nat → Addr} {n n' : Nat} {σ : L2.St} {H H' : Hp} {env : En} (R : Rel K c ad n σ H env) (e : EStp c H H' n') : ∀ a o, c.H0 a = some o → ¬ c.isBag a → H' a = some o := (R.step e).base
theorem oa_ge {c : Ctx} {ad : Nat → Addr} {env : En} {H : Hp} : Same (cut (Oa c ad env) H) (cut c.O0 H) := cut_mono fun a o h1 h2 => ⟨fun z => h1 (.inl z), h2⟩
def wRet (we : WE) : WS := fun D env n => we env n D.rt
theorem ds_ret (h : DE X e we) : DS X (.Return (some e) pos) (wRet we) := .of (ps_ret h.pe) fun E σ H ⟨c, ad, n, env, D0, R, q0, S⟩ =>
  ⟨c, ad, n, env, _, R, q0, fun d n1 q1 v H1 e1 r1 => S.rt _ _ q1 _ _ (R.back e1) e1.bag (r1.same oa_ge)⟩
def wRetN : WS := fun D _ n => D.rt .non n
theorem ds_retN : DS X (.Return none pos) wRetN := .of ps_retN fun E σ H ⟨c, ad, n, env, D0, R, q0, S⟩ => S.rt _ _ q0 _ _ R.base R.bag .non
/-- return x, x owned: it is handed over -/
def wRetO (i : Nat) : WS := fun D env n => ∃ s d, env[i]? = some s ∧ s.get = some d ∧ D.rt d n
theorem ds_retO (i : Nat) {x : Str} {p : Pos} (hN : X.N[i]? = some x := by rfl) (hv : Vis X.env.scope x := by first | exact Or.inl rfl | exact Or.inr (Or.inl rfl) | exact Or.inr (Or.inr rfl)) (hd : (x == ("__debug__" : Str)) = false := by decide)
    (hcd : (x == ("__classdict__" : Str)) = false := by decide) : DS X (.Return (some (.Name x p)) pos) (wRetO i) := .of (ps_ret (pe_var hN hv hd hcd)) fun E σ H ⟨c, ad, n, env, D0, R, ⟨s, d, es, eg, q0⟩, S⟩ => by
  cases s with
  | un => cases eg
  | val d' =>
    cases eg
    obtain ⟨v, h1, h2⟩ := R.slot i _ es
    exact ⟨v, h1, S.rt _ _ q0 _ _ R.base R.bag (h2.same oa_ge)⟩
  | own o =>
    cases eg
    have R2 := R.frz es
    have il : i < env.length := (List.getElem?_eq_some_iff.1 es).1
    obtain ⟨v, h1, h2⟩ := R2.slot i _ (List.getElem?_set_self il)
    exact ⟨v, h1, S.rt _ _ q0 _ _ R.base R.bag (h2.same oa_ge)⟩
/-- return of a new object -/
def wRetF (wo : WO) : WS := fun D env n => wo env n D.rf
theorem ds_retF (h : DF X e wo) : DS X (.Return (some e) pos) (wRetF wo) := .of (ps_ret h.pe) fun E σ H ⟨c, ad, n, env, D0, R, q0, S⟩ =>
  ⟨c, ad, n, env, _, R, q0, fun o n1 q1 p u H1 hp e1 hu r1 => S.rf _ _ q1 p u H1 (by
    cases z : c.H0 p with
    | none => rfl
    | some o' =>
      by_cases hb : c.isBag p
      · obtain ⟨l, eb⟩ := hb
        obtain ⟨⟨ns, q, r', m, k, h1, _⟩, _⟩ := R.bag _ _ eb
        rw [hp] at h1; cases h1
      · rw [R.base p o' z hb] at hp; cases hp) (R.back e1) e1.bag hu (r1.same (cut_mono fun a o h1 h2 => ⟨fun z => h1 (z.imp .inl id), h2⟩))⟩
/-- return x, x owned, as a new object -/
def wRetOF (i : Nat) : WS := fun D env n => ∃ o, env[i]? = some (.own o) ∧ D.rf o n
theorem ds_retOF (i : Nat) {x : Str} {p : Pos} (hN : X.N[i]? = some x := by rfl) (hv : Vis X.env.scope x := by first | exact Or.inl rfl | exact Or.inr (Or.inl rfl) | exact Or.inr (Or.inr rfl)) (hd : (x == ("__debug__" : Str)) = false := by decide)
    (hcd : (x == ("__classdict__" : Str)) = false := by decide) : DS X (.Return (some (.Name x p)) pos) (wRetOF i) := .of (ps_ret (pe_var hN hv hd hcd)) fun E σ H ⟨c, ad, n, env, D0, R, ⟨o, es, q0⟩, S⟩ => by
  obtain ⟨h1, u, h2, h3⟩ := R.slot i _ es
  refine ⟨_, h1, S.rf _ _ q0 (ad i) u H (R.fresh i ⟨o, es⟩) R.base R.bag h2 (h3.same (cut_mono fun a o' g1 g2 => ⟨fun z => ?_, g2⟩))⟩
  rcases z with z | z
  · exact g1 (.inl z)
  · exact g1 (.inr ⟨i, ⟨o, es⟩, z⟩)
def wSet (i : Nat) (we : WE) : WS := fun D env n => we env n fun d n1 => D.nx (env.set i (.val d)) n1
theorem ds_set {i : Nat} {x : Str} {pos' : Pos} (hN : X.N.Nodup) (hi : X.N[i]? = some x) (hx : Loc X.env.scope x) (h : DE X e we) (hs : swapsWith e (some (.Name x pos')) pos.line X.env = pure false := by rfl) (hf : X.fn x = true ∨ X.env.scope.names.lookup x = some .local := by first | exact .inl rfl | exact .inr rfl | assumption) :
    DS X (.Assign [.Name x pos'] e pos) (wSet i we) := .of (ps_set hN hi hx h.pe hs hf) fun E σ H ⟨c, ad, n, env, D0, R, q0, S⟩ =>
  ⟨c, ad, n, env, _, R, q0, fun d n1 q1 v H1 e1 r1 => S.nx _ _ q1 _ _ _ ((R.step e1).set r1)⟩
def wOwn (i : Nat) (wo : WO) : WS := fun D env n => wo env n fun o n1 => D.nx (env.set i (.own o)) n1
theorem ds_own {i : Nat} {x : Str} {pos' : Pos} (hN : X.N.Nodup) (hi : X.N[i]? = some x) (hx : Loc X.env.scope x) (h : DF X e wo) (hs : swapsWith e (some (.Name x pos')) pos.line X.env = pure false := by rfl) (hf : X.fn x = true ∨ X.env.scope.names.lookup x = some .local := by first | exact .inl rfl | exact .inr rfl | assumption) :
    DS X (.Assign [.Name x pos'] e pos) (wOwn i wo) := .of (ps_set hN hi hx h.pe hs hf) fun E σ H ⟨c, ad, n, env, D0, R, q0, S⟩ =>
  ⟨c, ad, n, env, _, R, q0, fun o n1 q1 p u H1 hp e1 hu r1 => S.nx _ _ q1 _ _ _ (R.setOwn hp e1 hu r1)⟩
/-- an owned slot becomes a value, ahead of a statement -/
def frzE (i : Nat) (env : En) : En := match env[i]? with
  | some (.own o) => env.set i (.val o.d)
  | _ => env
theorem Rel.frzE {K : PySem.W.Frag} {c : Ctx} {ad : Nat → Addr} {n : Nat} {σ : L2.St} {H : Hp} {env : En} (R : Rel K c ad n σ H env) (i : Nat) : Rel K c ad n σ H (frzE i env) := by
  unfold Dv.frzE
  split
  · rename_i o e; exact R.frz e
  · exact R
theorem ds_frz (i : Nat) (h : DS X st w) : DS X st (fun D env n => w D (frzE i env) n) := .of h.ps fun E σ H ⟨c, ad, n, env, D0, R, q0, S⟩ => ⟨c, ad, n, _, D0, R.frzE i, q0, S⟩
theorem dss_frz (i : Nat) (h : DSs X rest w) : DSs X rest (fun D env n => w D (frzE i env) n) := ⟨pssImp h.ps fun E σ H ⟨c, ad, n, env, D0, R, q0, S⟩ => ⟨c, ad, n, _, D0, R.frzE i, q0, S⟩⟩
def wIf (wt : WT) (w u : WS) : WS := fun D env n => wt env n fun k n1 => if k = true then w D env n1 else u D env n1
theorem ds_if {a b : List Stmt} (hc : DT X e wt) (ha : DSs X a w) (hb : DSs X b u) : DS X (.If e a b pos) (wIf wt w u) := .of (ps_if hc.pt ha.ps hb.ps) fun E σ H ⟨c, ad, n, env, D0, R, q0, S⟩ =>
  ⟨c, ad, n, env, _, R, q0, fun k n1 q1 H1 e1 => by
    cases k with
    | true => rw [if_pos rfl] at q1 ⊢; exact ⟨c, ad, n1, env, D0, R.step e1, q1, S⟩
    | false => rw [if_neg Bool.false_ne_true] at q1 ⊢; exact ⟨c, ad, n1, env, D0, R.step e1, q1, S⟩⟩
/-- never come to -/
theorem dss_never {sts : List Stmt} : DSs X sts (fun _ _ _ => False) := ⟨pssImp pss_never fun E σ H ⟨c, ad, n, env, D0, R, q0, S⟩ => q0⟩
theorem ds_never : DS X st (fun _ _ _ => False) := .of ps_never fun E σ H ⟨c, ad, n, env, D0, R, q0, S⟩ => q0
/-! ### owned lists changed -/
theorem rel_own_lst {K : PySem.W.Frag} {c : Ctx} {ad : Nat → Addr} {n : Nat} {σ : L2.St} {H : Hp} {env : En} {i : Nat} {xs : List D} (R : Rel K c ad n σ H env) (h : env[i]? = some (.own (.lst xs))) :
    ∃ vs, σ[i]? = some (some (.ref (ad i))) ∧ H (ad i) = some (.lst vs) ∧ vs.length ≤ sizeLine ∧ RepL K c.bg (cut (Oa c ad env) H) vs xs := by
  obtain ⟨h1, u, h2, h3⟩ := R.slot i _ h
  cases h3 with
  | lst hl r => exact ⟨_, h1, h2, hl, r⟩
def wAppend (i : Nat) (we : WE) : WS := fun D env n => ∃ xs, env[i]? = some (.own (.lst xs)) ∧ we env n fun d n1 => xs.length < sizeLine ∧ D.nx (env.set i (.own (.lst (xs ++ [d])))) n1
theorem ds_append (i : Nat) {x : Str} {p apos cpos : Pos} (h : DE X e we) (hN : X.N[i]? = some x := by rfl) (hv : Vis X.env.scope x := by first | exact Or.inl rfl | exact Or.inr (Or.inl rfl) | exact Or.inr (Or.inr rfl)) (hd : (x == ("__debug__" : Str)) = false := by decide)
    (hcd : (x == ("__classdict__" : Str)) = false := by decide) (hs : swapsWith (.Call (.Attribute (.Name x p) "append" apos) [e] [] cpos) none pos.line X.env = pure false := by rfl)
    (hbase : attributeBase (.Name x p) "append" X.env (eval (.Name x p) X.env) = eval (.Name x p) X.env := by rfl)
    (hfew : ((backTo cpos (starEach (e :: []) X.env)).all (fun x => !x.1) && (backToKw cpos (keywordEach [] X.env)).all (fun x => x.1.isSome)
      && decide ((e :: ([] : List Expr)).length + ([] : List Keyword).length + (if ([] : List Keyword).isEmpty then 0 else 1) < 30)) = true := by rfl)
    (hline : (apos.endLine == cpos.line) = true := by rfl) (hst : starEach (e :: []) X.env = (false, eval e X.env) :: starEach [] X.env := by rfl) (hplain : (backTo cpos (starEach [] X.env)).any (·.1) = false := by rfl) :
    DS X (.Expr (.Call (.Attribute (.Name x p) "append" apos) [e] [] cpos) pos) (wAppend i we) :=
  .of (ps_expr (pe_bm PySem.F.plainAttrs_list PySem.F.slot_list_append PySem.F.type_list_append mt_append (pe_var hN hv hd hcd) (pa_cons h.pe pa_nil hst) hbase hfew hline hst hplain) hs) fun E σ H ⟨c, ad, n, env, D0, R, ⟨xs, hx, q0⟩, S⟩ => by
    obtain ⟨vs, h1, h2, hl, r⟩ := rel_own_lst R hx
    refine ⟨_, h1, .inl ⟨rfl, _, .inl (.inl h2)⟩, ⟨c, ad, n, env, _, R, q0, fun d n1 ⟨hz, q1⟩ v H1 e1 r1 => ?_⟩⟩
    have R1 := R.step e1
    obtain ⟨vs, h1, h2, hl, r⟩ := rel_own_lst R1 hx
    have hl2 := r.len
    refine ⟨ad i, vs, v, rfl, rfl, h2, by omega, S.nx _ _ q1 _ _ _ (R1.change hx (.lst (by rw [List.length_append]; show vs.length + 1 ≤ _; omega) (r.app (.cons r1 .nil))))⟩
def wReverse (i : Nat) : WS := fun D env n => ∃ xs, env[i]? = some (.own (.lst xs)) ∧ D.nx (env.set i (.own (.lst xs.reverse))) n
theorem ds_reverse (i : Nat) {x : Str} {p apos cpos : Pos} (hN : X.N[i]? = some x := by rfl) (hv : Vis X.env.scope x := by first | exact Or.inl rfl | exact Or.inr (Or.inl rfl) | exact Or.inr (Or.inr rfl)) (hd : (x == ("__debug__" : Str)) = false := by decide)
    (hcd : (x == ("__classdict__" : Str)) = false := by decide) (hs : swapsWith (.Call (.Attribute (.Name x p) "reverse" apos) [] [] cpos) none pos.line X.env = pure false := by rfl)
    (hbase : attributeBase (.Name x p) "reverse" X.env (eval (.Name x p) X.env) = eval (.Name x p) X.env := by rfl) (hline : (apos.endLine == cpos.line) = true := by rfl) :
    DS X (.Expr (.Call (.Attribute (.Name x p) "reverse" apos) [] [] cpos) pos) (wReverse i) :=
  .of (ps_expr (pe_bm0 PySem.F.plainAttrs_list PySem.F.slot_list_reverse PySem.F.type_list_reverse mt_reverse (pe_var hN hv hd hcd) hbase hline) hs) fun E σ H ⟨c, ad, n, env, D0, R, ⟨xs, hx, q0⟩, S⟩ => by
    obtain ⟨vs, h1, h2, hl, r⟩ := rel_own_lst R hx
    exact ⟨_, h1, .inl ⟨rfl, _, .inl (.inl h2)⟩, ad i, vs, rfl, rfl, h2, S.nx _ _ q0 _ _ _ (R.change hx (.lst (by rw [List.length_reverse]; exact hl) r.rev))⟩
/-- x[j] = e -/
def wPutI (i : Nat) (wj we : WE) : WS := fun D env n => ∃ xs, env[i]? = some (.own (.lst xs)) ∧ we env n fun d n1 => wj env n1 fun j n2 => ∃ k m, j = .int k ∧ ixN xs.length k = some m ∧ D.nx (env.set i (.own (.lst (xs.set m d)))) n2
theorem ds_putI (i : Nat) {x : Str} {p spos : Pos} {j : Expr} {wj : WE} (hj : DE X j wj) (h : DE X e we) (hN : X.N[i]? = some x := by rfl) (hv : Vis X.env.scope x := by first | exact Or.inl rfl | exact Or.inr (Or.inl rfl) | exact Or.inr (Or.inr rfl)) (hd : (x == ("__debug__" : Str)) = false := by decide)
    (hcd : (x == ("__classdict__" : Str)) = false := by decide)
    (ha : ∀ v, assign (.Subscript (.Name x p) j spos) X.env v = (do
      let ov ← holding [v] (eval (.Name x p) X.env)
      let iv ← holding [v, ov] (eval j X.env)
      standAt spos
      holding [v, ov, iv] (setItem ov iv v)
      release [v, ov, iv] []) := by intro _; rfl)
    (hs : swapsWithSole [.Subscript (.Name x p) j spos] e pos.line X.env = pure false := by rfl) (hw : swappedStores [.Subscript (.Name x p) j spos] e X.env = pure none := by rfl)
    (h1 : (assignEach [.Subscript (.Name x p) j spos] X.env).map (·.2) = [assign (.Subscript (.Name x p) j spos) X.env] := by rfl) : DS X (.Assign [.Subscript (.Name x p) j spos] e pos) (wPutI i wj we) :=
  .of (ps_asg h.pe (pg_sub (pe_var hN hv hd hcd) hj.pe set_list ha) hs hw h1) fun E σ H ⟨c, ad, n, env, D0, R, ⟨xs, hx, q0⟩, S⟩ =>
    ⟨c, ad, n, env, _, R, q0, fun d n1 q1 v H1 e1 r1 => by
      obtain ⟨_, g1, _⟩ := rel_own_lst (R.step e1) hx
      refine ⟨_, g1, ⟨c, ad, n1, env, _, R.step e1, q1, fun j n2 ⟨k, m, ej, hm, q2⟩ vj H2 e2 r2 => ?_⟩⟩
      subst ej
      cases r2
      have R2 := (R.step e1).step e2
      obtain ⟨vs, h1, h2, hl, r⟩ := rel_own_lst R2 hx
      exact ⟨ad i, vs, k, m, rfl, rfl, h2, by rw [r.len]; exact hm, S.nx _ _ q2 _ _ _ (R2.change hx (.lst (by rw [List.length_set]; exact hl) (r.set m (r1.same (e2.cut R.oaB)))))⟩⟩
/-! ### targets -/
abbrev WG := D → En → (En → Prop) → Prop
def lG (K : PySem.W.Frag) (vs : List Nat) (w : WG) : TG := fun v σ H Q => ∃ c ad n env d Q0, Rel K c ad n σ H env ∧ Rep K c.bg (cut (Oa c ad env) H) v d ∧ w d env Q0 ∧ ∀ env', Q0 env' → (∀ j, j ∉ vs → env'[j]? = env[j]?) → ∀ σ', wipe σ' vs = wipe σ vs → Rel K c ad n σ' H env' → Q σ' H
structure DG (X : Cx) (t : Expr) (vs : List Nat) (w : WG) : Prop where
  pg : PG X t (lG X.K vs w)
theorem pgImp {t : Expr} {g g' : TG} (h : PG X t g) (k : ∀ v σ H Q, g' v σ H Q → g v σ H Q) : PG X t g' := ⟨fun pins s σ H v u Q I r q => h.run pins s σ H v u Q I r (k _ _ _ _ q)⟩
def gNm (i : Nat) : WG := fun d env Q => Q (env.set i (.val d))
theorem wipe_set {σ : L2.St} {i : Nat} {x : Option V} : ∀ {vs : List Nat}, i ∈ vs → wipe (σ.set i x) vs = wipe σ vs
  | v :: vs, h => by
    unfold wipe
    by_cases z : i ∈ vs
    · rw [wipe_set z]
    · have : i = v := by
        rcases List.mem_cons.1 h with h | h
        · exact h
        · exact absurd h z
      subst this
      have key : ∀ vs : List Nat, i ∉ vs → wipe (σ.set i x) vs = (wipe σ vs).set i x := by
        intro vs
        induction vs with
        | nil => intro _; rfl
        | cons v vs ih =>
          intro h
          rw [List.mem_cons, not_or] at h
          unfold wipe
          rw [ih h.2, List.set_comm _ _ h.1]
      rw [key vs z, List.set_set]
theorem dg_name {i : Nat} {x : Str} {vs : List Nat} (hN : X.N.Nodup) (hi : X.N[i]? = some x) (hx : Loc X.env.scope x) (hm : i ∈ vs := by decide) (hf : X.fn x = true ∨ X.env.scope.names.lookup x = some .local := by first | exact .inl rfl | exact .inr rfl | assumption) : DG X (.Name x pos) vs (gNm i) :=
  ⟨pgImp (pg_name hN hi hx hf) fun v σ H Q ⟨c, ad, n, env, d, Q0, R, r, q0, q⟩ => q _ q0 (fun j hj => List.getElem?_set_ne (fun z => hj (by rw [← z]; exact hm))) _ (wipe_set hm) (R.set r)⟩
abbrev WGs := List D → En → (En → Prop) → Prop
def lGs (K : PySem.W.Frag) (vs : List Nat) (w : WGs) : TGs := fun vl σ H Q => ∃ c ad n env ds Q0, ∃ (σ0 : L2.St) (env0 : En), Rel K c ad n σ H env ∧ (wipe σ vs = wipe σ0 vs ∧ ∀ j, j ∉ vs → env[j]? = env0[j]?) ∧ RepL K c.bg (cut (Oa c ad env) H) vl ds ∧ w ds env Q0 ∧ ∀ env', Q0 env' → (∀ j, j ∉ vs → env'[j]? = env0[j]?) → ∀ σ', wipe σ' vs = wipe σ0 vs → Rel K c ad n σ' H env' → Q σ' H
structure DGs (X : Cx) (t : List Expr) (vs : List Nat) (w : WGs) : Prop where
  pgs : PGs X t (lGs X.K vs w)
theorem pgsImp {t : List Expr} {g g' : TGs} (h : PGs X t g) (k : ∀ v σ H Q, g' v σ H Q → g v σ H Q) : PGs X t g' := ⟨fun pins s σ H v u Q I r q => h.run pins s σ H v u Q I r (k _ _ _ _ q)⟩
def gsNil : WGs := fun ds env Q => ds = [] ∧ Q env
def gsName (i : Nat) (w : WGs) : WGs := fun ds env Q => ∃ d r, ds = d :: r ∧ w r (env.set i (.val d)) Q
theorem dgs_nil {vs : List Nat} : DGs X [] vs gsNil := ⟨pgsImp pgs_nil fun vl σ H Q ⟨c, ad, n, env, ds, Q0, σ0, env0, R, hw, r, ⟨ed, q0⟩, q⟩ => by
  subst ed
  cases r
  exact ⟨rfl, q _ q0 hw.2 _ hw.1 R⟩⟩
theorem dgs_name {i : Nat} {x : Str} {p : Pos} {es : List Expr} {vs : List Nat} {w : WGs} (hN : X.N.Nodup) (hi : X.N[i]? = some x) (hx : Loc X.env.scope x) (k : DGs X es vs w) (hm : i ∈ vs := by decide) (hf : X.fn x = true ∨ X.env.scope.names.lookup x = some .local := by first | exact .inl rfl | exact .inr rfl | assumption)
    (hs : (assignEach (.Name x p :: es) X.env).map (·.2) = assign (.Name x p) X.env :: (assignEach es X.env).map (·.2) := by rfl) : DGs X (.Name x p :: es) vs (gsName i w) :=
  ⟨pgsImp (pgs_cons (pg_name hN hi hx hf) k.pgs hs) fun vl σ H Q ⟨c, ad, n, env, ds, Q0, σ0, env0, R, hw, r, ⟨d, rr, ed, q0⟩, q⟩ => by
    subst ed
    cases r with
    | @cons v _ vr _ r1 r2 =>
      have oal : ∀ a, Oa c ad (env.set i (.val d)) a → Oa c ad env a := fun a => oa_less (fun o z => by cases z)
      exact ⟨v, vr, rfl, c, ad, n, _, rr, Q0, σ0, env0, R.set r1, ⟨(wipe_set hm).trans hw.1, fun j hj => (List.getElem?_set_ne (fun z => hj (by rw [← z]; exact hm))).trans (hw.2 j hj)⟩, r2.same (cut_mono fun a o h1 h2 => ⟨fun z => h1 (oal a z), h2⟩), q0, q⟩⟩
def gTp (k : Nat) (w : WGs) : WG := fun d env Q => ∃ ds, d = .tup ds ∧ ds.length = k ∧ w ds env Q
theorem dg_tup {es : List Expr} {kx : Nat} {vs : List Nat} {w : WGs} {k : Nat} (h : DGs X es vs w) (hc : X.calm = true := by rfl) (hn : (assignEach es X.env).length = k := by rfl) (hst : (assignEach es X.env).findIdx? (·.1) = none := by rfl) : DG X (.Tuple es kx pos) vs (gTp k w) :=
  ⟨pgImp (pg_tup hc h.pgs hn hst) fun v σ H Q ⟨c, ad, n, env, d, Q0, R, r, ⟨ds, ed, hl, q0⟩, q⟩ => by
    subst ed
    cases r with
    | @tup a ws _ hs _ r => exact ⟨a, ws, rfl, sqt_same cut_le hs, by rw [r.len]; exact hl, c, ad, n, env, ds, Q0, σ, env, R, ⟨rfl, fun _ _ => rfl⟩, r, q0, q⟩⟩
/-- a, b = e -/
def wAsg (we : WE) (g : WG) : WS := fun D env n => we env n fun d n1 => g d env fun env' => D.nx env' n1
theorem ds_asg {tg : Expr} {g : WG} {vs : List Nat} (h : DE X e we) (hg : DG X tg vs g) (hs : swapsWithSole [tg] e pos.line X.env = pure false := by rfl) (hw : swappedStores [tg] e X.env = pure none := by rfl)
    (h1 : (assignEach [tg] X.env).map (·.2) = [assign tg X.env] := by rfl) : DS X (.Assign [tg] e pos) (wAsg we g) :=
  .of (ps_asg h.pe hg.pg hs hw h1) fun E σ H ⟨c, ad, n, env, D0, R, q0, S⟩ => ⟨c, ad, n, env, _, R, q0, fun d n1 q1 v H1 e1 r1 => ⟨c, ad, n1, env, d, _, R.step e1, r1, q1, fun env' q2 _ σ' _ R' => S.nx _ _ q2 _ _ _ R'⟩⟩
/-- a, b = e1, e2 with plain local names -/
def wPar (i j : Nat) (w : WA) : WS := fun D env n => w env n fun ds n1 => ∃ d e, ds = [d, e] ∧ D.nx ((env.set i (.val d)).set j (.val e)) n1
end
end Dv

set_option Elab.async false
set_option linter.all false
set_option maxRecDepth 100000
set_option maxHeartbeats 4000000
/-! Dv6: what is walked, by value; for, while, comprehensions -/
namespace Dv
open PySem PySem.Spec PyProof.Rows L2 RZ
/-- what is walked yields ys, one after another, as long as what was shared at H1 stays -/
structure Yl (K : PySem.W.Frag) (bg : Option (Addr × Addr)) (O1 : Addr → Prop) (H1 : Hp) (J : It) (ys : List D) : Prop where
  stop : ∀ H2, Same (cut O1 H1) H2 → J.stop ys.length H2
  go : ∀ i H2, Same (cut O1 H1) H2 → i < ys.length → J.go i H2
  yld : ∀ i H2 x H3, i < ys.length → Same (cut O1 H1) H2 → J.yld i H2 x H3 → ∃ y, ys[i]? = some y ∧ Same H2 H3 ∧ ∀ O2 : Addr → Prop, (∀ a, O2 a → H2 a ≠ none) → (∀ a o, cut O1 H1 a = some o → ¬ O2 a) → Rep K bg (cut O2 H3) x y
abbrev WI := En → Nat → (List D → Nat → Prop) → Prop
def lI (K : PySem.W.Frag) (w : WI) : TI := fun σ H R => ∃ c ad n env Y0, Rel K c ad n σ H env ∧ w env n Y0 ∧ ∀ ys n', Y0 ys n' → ∀ H' J, EStp c H H' n' → Yl K c.bg (Oa c ad env) H' J ys → R J H'
structure DI (X : Cx) (tg iter : Expr) (w : WI) : Prop where
  pi : PI X tg iter (lI X.K w)
section
variable {X : Cx} {tg iter e : Expr} {pos : Pos} {we wa wb : WE} {wt wu : WT} {w u : WS} {wi : WI}
theorem DI.of {t : TI} (h : PI X tg iter t) (k : ∀ σ H R, lI X.K wi σ H R → t σ H R) : DI X tg iter wi := ⟨⟨fun pins s σ H R I q => h.run pins s σ H R I (k _ _ _ q)⟩⟩
theorem yl_list {K : PySem.W.Frag} {bg : Option (Addr × Addr)} {O : Addr → Prop} {H : Hp} {a : Addr} {vs : List V} {ys : List D} (ha : cut O H a = some (.lst vs)) (r : RepL K bg (cut O H) vs ys) : Yl K bg O H (Itl K a) ys := by
  have at_ : ∀ H2, Same (cut O H) H2 → SqL K H2 a vs := fun H2 sm => .inl (.inl (sm _ _ ha))
  refine ⟨fun H2 sm => ⟨vs, at_ H2 sm, by rw [r.len]; exact Nat.le_refl _⟩, fun i H2 sm hi => ⟨vs, vs[i]'(by rw [r.len]; exact hi), at_ H2 sm, by simp⟩, fun i H2 x H3 _ sm ⟨e, hx⟩ => ?_⟩
  subst e
  obtain ⟨y, h1, h2⟩ := r.get (hx vs (at_ _ sm))
  exact ⟨y, h1, .refl _, fun O2 _ hO => h2.same fun b o hb => by rw [cut_out (hO b o hb)]; exact sm b o hb⟩
theorem yl_tup {K : PySem.W.Frag} {bg : Option (Addr × Addr)} {O : Addr → Prop} {H : Hp} {a : Addr} {vs : List V} {ys : List D} (ha : SqT K (cut O H) a vs) (r : RepL K bg (cut O H) vs ys) : Yl K bg O H (Itt K a) ys := by
  have at_ : ∀ H2, Same (cut O H) H2 → SqT K H2 a vs := fun H2 sm => sqt_same sm ha
  refine ⟨fun H2 sm => ⟨vs, at_ H2 sm, by rw [r.len]; exact Nat.le_refl _⟩, fun i H2 sm hi => ⟨vs, vs[i]'(by rw [r.len]; exact hi), at_ H2 sm, by simp⟩, fun i H2 x H3 _ sm ⟨e, hx⟩ => ?_⟩
  subst e
  obtain ⟨y, h1, h2⟩ := r.get (hx vs (at_ _ sm))
  exact ⟨y, h1, .refl _, fun O2 _ hO => h2.same fun b o hb => by rw [cut_out (hO b o hb)]; exact sm b o hb⟩
/-- the signs of a text -/
def signsD (s : Str) : List D := s.cps.toList.map fun c => .str ⟨#[c]⟩
theorem yl_str {K : PySem.W.Frag} {bg : Option (Addr × Addr)} {O : Addr → Prop} {H : Hp} {s : Str} (g : GoodS s) : Yl K bg O H (Its s) (signsD s) := by
  have hl : (signsD s).length = s.length := by
    unfold signsD
    rw [List.length_map]
    exact Array.length_toList
  refine ⟨fun H2 sm => ?_, fun i H2 sm hi => ?_, fun i H2 x H3 hlt sm hy => ?_⟩
  · rw [hl]
    exact Nat.le_refl _
  · rw [hl] at hi
    exact hi
  · obtain ⟨e, c, hc, ex⟩ := hy
    have hc' : s.cps.toList[i]? = some c := by rw [Array.getElem?_toList]; exact hc
    subst ex
    refine ⟨.str ⟨#[c]⟩, ?_, by rw [e]; exact .refl _, fun O2 _ _ => .str (one_good g (List.mem_of_getElem? hc'))⟩
    unfold signsD
    rw [List.getElem?_map, hc']
    rfl
/-- a list, a tuple or a text walked -/
def D.seq : D → Option (List D)
  | .lst xs => some xs
  | .tup xs => some xs
  | .str s => some (signsD s)
  | _ => none
def wSeqI (we : WE) : WI := fun env n Q => we env n fun d n1 => ∃ ys, d.seq = some ys ∧ Q ys n1
theorem di_seq (h : DE X iter we) : DI X tg iter (wSeqI we) := by
  refine ⟨⟨fun pins s σ H R I q => ?_⟩⟩
  obtain ⟨c, ad, n, env, Y0, RL, q0, q⟩ := q
  refine thn (h.pe.run pins s σ H (fun v H1 => ∃ n1 d ys, EStp c H H1 n1 ∧ Rep X.K c.bg (cut (Oa c ad env) H1) v d ∧ d.seq = some ys ∧ Y0 ys n1) I ⟨c, ad, n, env, _, RL, q0, fun d n1 ⟨ys, ey, hy⟩ v H1 e1 r1 => ⟨n1, d, ys, e1, r1, ey, hy⟩⟩) fun v s1 hv => ?_
  obtain ⟨x, H1, I1, rv, n1, d, ys, e1, r1, ey, hy⟩ := hv
  have R1 := RL.step e1
  unfold D.seq at ey
  split at ey
  · cases ey
    cases r1 with
    | @lst a vs _ ha hl r =>
      have k := pi_list (X := X) (tg := tg) (l := iter) (tl := fun σ' H' Q' => False) ⟨fun _ _ _ _ _ _ z => z.elim⟩
      cases rv
      obtain ⟨its, rv, p, hz⟩ := I1.list (.inl (.inl (cut_le _ _ ha)))
      refine wpAny_pyIter_list p.isList ?_
      refine ⟨s1.heap.objs.size, [s1.heap.objs.size], _, _, H1, rfl, I1.kept (t' := s1.toks) fun b o e => Heap.get?_push_of_some _ e, turn_list a _, ⟨_, Heap.get?_push_size _ rfl, rfl, rfl⟩, fun b hb => ?_, q _ _ hy _ _ e1 (yl_list ha r)⟩
      have e : b = s1.heap.objs.size := by simpa using hb
      subst e
      exact I1.fpOk (Nat.le_refl _) (I1.hok.fresh (Nat.le_refl _))
  · cases ey
    cases r1 with
    | @tup a vs _ ha hl r =>
      cases rv
      obtain ⟨its, rv, p, hz⟩ := I1.tuple (sqt_same cut_le ha)
      refine wpAny_pyIter_tuple (show s1.heap.IsTuple a its.toArray from p) ?_
      refine ⟨s1.heap.objs.size, [s1.heap.objs.size], _, _, H1, rfl, I1.kept (t' := s1.toks) fun b o e => Heap.get?_push_of_some _ e, turn_tuple a _, ⟨_, Heap.get?_push_size _ rfl, rfl, rfl⟩, fun b hb => ?_, q _ _ hy _ _ e1 (yl_tup ha r)⟩
      have e : b = s1.heap.objs.size := by simpa using hb
      subst e
      exact I1.fpOk (Nat.le_refl _) (I1.hok.fresh (Nat.le_refl _))
  · cases ey
    cases r1 with
    | str g =>
      rename_i z
      obtain ⟨t, rfl⟩ := rv
      cases ha : z.cps.all (· < 128)
      · exact wpAny_pyIter_wide ha (pi_one (tk := s1.toks) I1 _ (turn_str _ z t "str_iterator" (.inr rfl)) ⟨_, Heap.get?_push_size _ rfl, rfl, rfl⟩ (q _ _ hy _ _ e1 (yl_str g)))
      · exact wpAny_pyIter_ascii ha (pi_one (tk := s1.toks) I1 _ (turn_str _ z t "str_ascii_iterator" (.inl rfl)) ⟨_, Heap.get?_push_size _ rfl, rfl, rfl⟩ (q _ _ hy _ _ e1 (yl_str g)))
  · cases ey
/-- range(a), range(a, b) -/
def rngD (lo : Int) (n : Nat) : List D := (List.range n).map fun k => .int (lo + (k : Nat))
theorem yl_rng {K : PySem.W.Frag} {bg : Option (Addr × Addr)} {O : Addr → Prop} {H : Hp} (lo : Int) (n : Nat) : Yl K bg O H (Itr lo n) (rngD lo n) := by
  have hl : (rngD lo n).length = n := by unfold rngD; simp
  refine ⟨fun H2 sm => ?_, fun i H2 sm hi => ?_, fun i H2 x H3 hlt sm hy => ?_⟩
  · rw [hl]; exact Nat.le_refl _
  · rw [hl] at hi; exact hi
  · obtain ⟨e, ex⟩ := hy
    subst e ex
    rw [hl] at hlt
    refine ⟨.int (lo + (i : Nat)), ?_, .refl _, fun O2 _ _ => .int _⟩
    unfold rngD
    rw [List.getElem?_map, List.getElem?_range hlt]
    rfl
def wRng1 (w : WA) : WI := fun env n Q => w env n fun ds n1 => ∃ j : Int, ds = [.int j] ∧ -(2 ^ 62) ≤ j ∧ j < 2 ^ 62 ∧ Q (rngD 0 j.toNat) n1
theorem RepL.ints1 {K : PySem.W.Frag} {bg : Option (Addr × Addr)} {H : Hp} {vs : List V} {i : Int} (h : RepL K bg H vs [.int i]) : vs = [.int i] := by
  cases h with
  | cons h t => cases h; cases t; rfl
theorem RepL.ints2 {K : PySem.W.Frag} {bg : Option (Addr × Addr)} {H : Hp} {vs : List V} {i j : Int} (h : RepL K bg H vs [.int i, .int j]) : vs = [.int i, .int j] := by
  cases h with
  | cons h t => cases h; cases t.ints1; rfl
theorem di_rng1 {a : Expr} {w : WA} {p : Pos} (hm : X.mg "range" = none) (ha : DA X [a] w) (hg : Gl X "range" := by rfl) (hs : starEach [a] X.env = [(false, eval a X.env)] := by rfl) : DI X tg (.Call (.Name "range" p) [a] [] pos) (wRng1 w) :=
  .of (pi_range1 hg hm ha.pa hs) fun σ H R ⟨c, ad, n, env, Y0, RL, q0, q⟩ => ⟨c, ad, n, env, _, RL, q0, fun ds n1 ⟨j, ed, h1, h2, q1⟩ vs H1 e1 r1 => by
    subst ed
    exact ⟨j, r1.ints1, h1, h2, q _ _ q1 _ _ e1 (yl_rng 0 j.toNat)⟩⟩
def wRng2 (w : WA) : WI := fun env n Q => w env n fun ds n1 => ∃ i j : Int, ds = [.int i, .int j] ∧ (-(2 ^ 62) ≤ i ∧ i < 2 ^ 62 ∧ -(2 ^ 62) ≤ j ∧ j < 2 ^ 62) ∧ Q (rngD i (j - i).toNat) n1
theorem di_rng2 {a b : Expr} {w : WA} {p : Pos} (hm : X.mg "range" = none) (ha : DA X [a, b] w) (hg : Gl X "range" := by rfl) (hs : starEach [a, b] X.env = [(false, eval a X.env), (false, eval b X.env)] := by rfl) (hs2 : starEach [b] X.env = [(false, eval b X.env)] := by rfl) : DI X tg (.Call (.Name "range" p) [a, b] [] pos) (wRng2 w) :=
  .of (pi_range2 hg hm ha.pa hs hs2) fun σ H R ⟨c, ad, n, env, Y0, RL, q0, q⟩ => ⟨c, ad, n, env, _, RL, q0, fun ds n1 ⟨i, j, ed, h1, q1⟩ vs H1 e1 r1 => by
    subst ed
    exact ⟨i, j, r1.ints2, h1, q _ _ q1 _ _ e1 (yl_rng i (j - i).toNat)⟩⟩
/-! ### new pairs walked: zip, enumerate -/
/-- a new tuple at T, of what stands there -/
theorem pair_new {K : PySem.W.Frag} {bg : Option (Addr × Addr)} {O2 : Addr → Prop} {H2 : Hp} {T : Addr} {x y : V} {d e : D} (hT : H2 T = none) (hO : ∀ a, O2 a → H2 a ≠ none) (hx : Rep K bg (cut O2 H2) x d) (hy : Rep K bg (cut O2 H2) y e) :
    Same H2 (upd H2 T (.tup [x, y])) ∧ Rep K bg (cut O2 (upd H2 T (.tup [x, y]))) (.ref T) (.tup [d, e]) :=
  rep_newT hO hT (by show 2 ≤ sizeLine; decide) (.cons hx (.cons hy .nil))
def zipD (xs ys : List D) : List D := (xs.zip ys).map fun p => .tup [p.1, p.2]
theorem zipD_len (xs ys : List D) : (zipD xs ys).length = min xs.length ys.length := by unfold zipD; rw [List.length_map, List.length_zip]
theorem zipD_get {xs ys : List D} {i : Nat} {x y : D} (hx : xs[i]? = some x) (hy : ys[i]? = some y) : (zipD xs ys)[i]? = some (.tup [x, y]) := by
  unfold zipD
  rw [List.getElem?_map, List.getElem?_zip_eq_some (z := (x, y)) |>.2 ⟨hx, hy⟩]
  rfl
theorem yl_zip {K : PySem.W.Frag} {bg : Option (Addr × Addr)} {O : Addr → Prop} {H : Hp} {a b : Addr} {vs ws : List V} {xs ys : List D} (ha : cut O H a = some (.lst vs)) (hb : cut O H b = some (.lst ws)) (r : RepL K bg (cut O H) vs xs) (r2 : RepL K bg (cut O H) ws ys) : Yl K bg O H (Itz K a b) (zipD xs ys) := by
  have at1 : ∀ H2, Same (cut O H) H2 → SqL K H2 a vs := fun H2 sm => .inl (.inl (sm _ _ ha))
  have at2 : ∀ H2, Same (cut O H) H2 → SqL K H2 b ws := fun H2 sm => .inl (.inl (sm _ _ hb))
  have l1 := r.len
  have l2 := r2.len
  refine ⟨fun H2 sm => ⟨vs, ws, at1 _ sm, at2 _ sm, by rw [zipD_len]; omega⟩, fun i H2 sm hi => ?_, fun i H2 x H3 hlt sm ⟨T, u, v, ex, hT, e3, h1, h2⟩ => ?_⟩
  · rw [zipD_len] at hi
    exact ⟨vs, ws, vs[i]'(by omega), ws[i]'(by omega), at1 _ sm, at2 _ sm, by simp, by simp⟩
  · subst ex e3
    obtain ⟨d, g1, k1⟩ := r.get (h1 vs (at1 _ sm))
    obtain ⟨e, g2, k2⟩ := r2.get (h2 ws (at2 _ sm))
    refine ⟨_, zipD_get g1 g2, fun b o hb => ?_, fun O2 hO2 hO => ?_⟩
    · rw [upd_ne (fun z => by rw [z, hT] at hb; cases hb)]
      exact hb
    · have s2 : Same (cut O H) (cut O2 H2) := fun b o hb => by rw [cut_out (hO b o hb)]; exact sm b o hb
      exact (pair_new hT hO2 (k1.same s2) (k2.same s2)).2
theorem yl_zipT {K : PySem.W.Frag} {bg : Option (Addr × Addr)} {O : Addr → Prop} {H : Hp} {a b : Addr} {vs ws : List V} {xs ys : List D} (ha : SqT K (cut O H) a vs) (hb : SqT K (cut O H) b ws) (r : RepL K bg (cut O H) vs xs) (r2 : RepL K bg (cut O H) ws ys) : Yl K bg O H (ItzT K a b) (zipD xs ys) := by
  have at1 : ∀ H2, Same (cut O H) H2 → SqT K H2 a vs := fun H2 sm => sqt_same sm ha
  have at2 : ∀ H2, Same (cut O H) H2 → SqT K H2 b ws := fun H2 sm => sqt_same sm hb
  have l1 := r.len
  have l2 := r2.len
  refine ⟨fun H2 sm => ⟨vs, ws, at1 _ sm, at2 _ sm, by rw [zipD_len]; omega⟩, fun i H2 sm hi => ?_, fun i H2 x H3 hlt sm ⟨T, u, v, ex, hT, e3, h1, h2⟩ => ?_⟩
  · rw [zipD_len] at hi
    exact ⟨vs, ws, vs[i]'(by omega), ws[i]'(by omega), at1 _ sm, at2 _ sm, by simp, by simp⟩
  · subst ex e3
    obtain ⟨d, g1, k1⟩ := r.get (h1 vs (at1 _ sm))
    obtain ⟨e, g2, k2⟩ := r2.get (h2 ws (at2 _ sm))
    refine ⟨_, zipD_get g1 g2, fun b o hb => ?_, fun O2 hO2 hO => ?_⟩
    · rw [upd_ne (fun z => by rw [z, hT] at hb; cases hb)]
      exact hb
    · have s2 : Same (cut O H) (cut O2 H2) := fun b o hb => by rw [cut_out (hO b o hb)]; exact sm b o hb
      exact (pair_new hT hO2 (k1.same s2) (k2.same s2)).2
/-- zip of two lists, or of two tuples -/
def wZip (w : WA) : WI := fun env n Q => w env n fun ds n1 => ∃ xs ys, (ds = [.lst xs, .lst ys] ∨ ds = [.tup xs, .tup ys]) ∧ Q (zipD xs ys) n1
theorem di_zip {e1 e2 : Expr} {w : WA} {p tpos : Pos} {elts : List Expr} {kk : Nat} (hm : X.mg "zip" = none) (ha : DA X [e1, e2] w) (hg : Gl X "zip" := by rfl)
    (hs : starEach [e1, e2] X.env = (false, eval e1 X.env) :: starEach [e2] X.env := by rfl) (hpl : (backTo pos (starEach [e2] X.env)).any (·.1) = false := by rfl) : DI X (.Tuple elts kk tpos) (.Call (.Name "zip" p) [e1, e2] [] pos) (wZip w) :=
  .of (pi_zipA hg hm ha.pa hs hpl) fun σ H R ⟨c, ad, n, env, Y0, RL, q0, q⟩ => ⟨c, ad, n, env, _, RL, q0, fun ds n1 ⟨xs, ys, ed, q1⟩ vs H1 e1 r1 => by
    rcases ed with ed | ed
    · subst ed
      cases r1 with
      | cons h t => cases t with
        | cons h' t' =>
          cases t'
          cases h with
          | @lst a va _ ha hla ra => cases h' with
            | @lst b vb _ hb hlb rb => exact ⟨a, b, va, vb, rfl, .inl ⟨.inl (.inl (cut_le _ _ ha)), .inl (.inl (cut_le _ _ hb)), q _ _ q1 _ _ e1 (yl_zip ha hb ra rb)⟩⟩
    · subst ed
      cases r1 with
      | cons h t => cases t with
        | cons h' t' =>
          cases t'
          cases h with
          | @tup a va _ ha hla ra => cases h' with
            | @tup b vb _ hb hlb rb => exact ⟨a, b, va, vb, rfl, .inr ⟨sqt_same cut_le ha, sqt_same cut_le hb, q _ _ q1 _ _ e1 (yl_zipT ha hb ra rb)⟩⟩⟩
/-! ### for, while -/
theorem Rel.cx {K : PySem.W.Frag} {c c1 : Ctx} {ad : Nat → Addr} {n : Nat} {σ : L2.St} {H : Hp} {env : En} (R : Rel K c ad n σ H env) (h0 : c1.O0 = c.O0) (hb : c1.bg = c.bg) (hbase : ∀ a o, c1.H0 a = some o → ¬ c1.isBag a → H a = some o) (hf : ∀ i, Own env i → c1.H0 (ad i) = none) : Rel K c1 ad n σ H env := by
  obtain ⟨H0, O0, bg⟩ := c
  obtain ⟨H1, O1, bg1⟩ := c1
  simp only at h0 hb
  subst h0 hb
  exact ⟨R.len, hbase, R.dom, R.bag, R.inj, hf, R.notO, R.slot⟩
/-- the context of a loop: what is shared at its start must stay -/
noncomputable def loopC (c : Ctx) (ad : Nat → Addr) (env : En) (H : Hp) : Ctx := ⟨cut (fun a => ∃ i, Own env i ∧ a = ad i) H, c.O0, c.bg⟩
theorem loopC_H {c : Ctx} {ad : Nat → Addr} {env : En} {H : Hp} : (loopC c ad env H).H0 = cut (fun a => ∃ i, Own env i ∧ a = ad i) H := by
  unfold loopC
  rfl
theorem Rel.loop {K : PySem.W.Frag} {c : Ctx} {ad : Nat → Addr} {n : Nat} {σ : L2.St} {H : Hp} {env : En} (R : Rel K c ad n σ H env) : Rel K (loopC c ad env H) ad n σ H env :=
  R.cx rfl rfl (fun a o h _ => by rw [loopC_H] at h; exact (cut_some h).2) fun i hi => by rw [loopC_H]; exact cut_in ⟨i, hi, rfl⟩
/-- out of the loop: the context ahead of it -/
theorem Rel.unloop {K : PySem.W.Frag} {c : Ctx} {ad ad0 : Nat → Addr} {n n0 : Nat} {σ σ0 : L2.St} {H H0 : Hp} {env env0 : En} (R0 : Rel K c ad0 n0 σ0 H0 env0) (R : Rel K (loopC c ad0 env0 H0) ad n σ H env) : Rel K c ad n σ H env := by
  have sub : ∀ a o, c.H0 a = some o → ¬ c.isBag a → (loopC c ad0 env0 H0).H0 a = some o := fun a o h hb => by
    rw [loopC_H, cut_out]
    · exact R0.base a o h hb
    · rintro ⟨i, hi, rfl⟩
      rw [R0.fresh i hi] at h; cases h
  refine R.cx (c1 := c) rfl rfl (fun a o h hb => R.base a o (sub a o h hb) hb) fun i hi => ?_
  cases q : c.H0 (ad i) with
  | none => rfl
  | some o =>
    by_cases hb : c.isBag (ad i)
    · exact absurd hb (R.nbag hi)
    · have := sub _ o q hb
      rw [R.fresh i hi] at this; cases this
theorem Rel.loopSame {K : PySem.W.Frag} {c : Ctx} {ad ad0 : Nat → Addr} {n n0 : Nat} {σ σ0 : L2.St} {H H0 : Hp} {env env0 : En} (R0 : Rel K c ad0 n0 σ0 H0 env0) (R : Rel K (loopC c ad0 env0 H0) ad n σ H env) :
    Same (cut (Oa c ad0 env0) H0) H ∧ ∀ a o, cut (Oa c ad0 env0) H0 a = some o → ¬ Oa (loopC c ad0 env0 H0) ad env a := by
  have key : ∀ a o, cut (Oa c ad0 env0) H0 a = some o → (loopC c ad0 env0 H0).H0 a = some o ∧ ¬ c.isBag a ∧ ¬ c.O0 a := fun a o h => by
    obtain ⟨h1, h2⟩ := cut_some h
    refine ⟨?_, fun hb => h1 (R0.oaB a hb), fun z => h1 (.inl z)⟩
    rw [loopC_H, cut_out]
    · exact h2
    · intro z; exact h1 (.inr z)
  refine ⟨fun a o h => ?_, fun a o h z => ?_⟩
  · obtain ⟨h1, h2, h3⟩ := key a o h
    exact R.base a o h1 h2
  · obtain ⟨h1, h2, h3⟩ := key a o h
    rcases z with z | ⟨i, hi, rfl⟩
    · exact h3 z
    · rw [R.fresh i hi] at h1; cases h1
theorem SEnds.loop {K : PySem.W.Frag} {c : Ctx} {ad0 : Nat → Addr} {n0 : Nat} {σ0 : L2.St} {H0 : Hp} {env0 : En} {D0 : DEnds} {E : Ends} (R0 : Rel K c ad0 n0 σ0 H0 env0) (S : SEnds K c D0 E) : SEnds K (loopC c ad0 env0 H0) D0 E   := by
  have sub : ∀ a o, c.H0 a = some o → ¬ c.isBag a → (loopC c ad0 env0 H0).H0 a = some o := fun a o ha hna => by
    rw [loopC_H, cut_out]
    · exact R0.base a o ha hna
    · rintro ⟨i, hi, rfl⟩
      rw [R0.fresh i hi] at ha; cases ha
  refine ⟨fun env n h σ H ad R => S.nx env n h σ H ad (R0.unloop R), fun env n h σ H ad R => S.bk env n h σ H ad (R0.unloop R), fun env n h σ H ad R => S.ct env n h σ H ad (R0.unloop R), fun d n h v H hb hc r => S.rt d n h v H (fun a o ha hna => hb a o (sub a o ha hna) hna) hc r, fun o n h p u H hp hb hc hu r => S.rf o n h p u H ?_ (fun a o ha hna => hb a o (sub a o ha hna) hna) hc hu r⟩
  cases z : c.H0 p with
  | none => rfl
  | some o' =>
    by_cases hbg : c.isBag p
    · exfalso
      obtain ⟨l, eb⟩ := hbg
      obtain ⟨⟨ns, q, r', m, k, h1, _⟩, h2, _⟩ := R0.bag _ _ eb
      rw [loopC_H, cut_out (fun ⟨i, hi, e⟩ => R0.notO i hi (by rw [← e]; exact h2)), h1] at hp
      cases hp
    · rw [sub p o' z hbg] at hp; cases hp
def wFor (wi : WI) (g : WG) (w : WS) : WS := fun D env n => wi env n fun ys n1 => ∃ Inv : Nat → En → Nat → Prop, Inv 0 env n1 ∧ (∀ env n, Inv ys.length env n → D.nx env n) ∧
  ∀ i y env n, ys[i]? = some y → Inv i env n → g y env fun env' => w { D with nx := Inv (i + 1), ct := Inv (i + 1), bk := D.nx } env' n
theorem ds_for {body : List Stmt} {g : WG} {vs : List Nat} (hi : DI X tg iter wi) (hg : DG X tg vs g) (hb : DSs X body w) (hp : PassesOwn (model X.prog X.w) X.A X.env X.xe := by exact PassesOwn.never) (hc : X.calm = true := by rfl)
    (hs : ∀ x, foldedSetIterable iter X.env x = pure x := by intro _; rfl) : DS X (.For tg iter body [] pos) (wFor wi g w) :=
  .of (ps_for hp hc hi.pi hg.pg hb.ps hs) fun E σ H ⟨c, ad, n, env, D0, R, q0, S⟩ => ⟨c, ad, n, env, _, R, q0, fun ys n1 ⟨Iv, hv, hd, hs⟩ H1 J e1 Y => by
    have R1 := R.step e1
    refine ⟨fun i m σ2 H2 => m = ys.length - i ∧ i ≤ ys.length ∧ ∃ ad2 n2 env2, Rel X.K (loopC c ad env H1) ad2 n2 σ2 H2 env2 ∧ Iv i env2 n2, ⟨_, rfl, Nat.zero_le _, ad, n1, env, R1.loop, hv⟩, ?_⟩
    rintro i m σ2 H2 ⟨rfl, hle, ad2, n2, env2, R2, v2⟩
    obtain ⟨sm, so⟩ := R1.loopSame R2
    by_cases hlt : i < ys.length
    · refine .inr ⟨Y.go i H2 sm hlt, fun σ' H' => i + 1 ≤ ys.length ∧ ∃ ad2 n2 env2, Rel X.K (loopC c ad env H1) ad2 n2 σ' H' env2 ∧ Iv (i + 1) env2 n2, fun σ' H' ⟨h1, h2⟩ => ⟨ys.length - (i + 1), by omega, rfl, h1, h2⟩, fun x H3 hy => ?_⟩
      obtain ⟨y, ey, sm3, hr⟩ := Y.yld i H2 x H3 hlt sm hy
      have R3 := R2.step (.of_same R2.bag sm3)
      refine ⟨_, ad2, n2, env2, y, _, R3, hr _ R2.oaD so, hs i y env2 n2 ey v2, fun env' h' _ σ' _ R' => ?_⟩
      exact ⟨_, ad2, n2, env', _, R', h', ⟨fun env n h σ H ad R => ⟨hlt, ad, n, env, R, h⟩, fun env n h σ H ad R => S.nx _ _ h _ _ _ (R1.unloop R), fun env n h σ H ad R => ⟨hlt, ad, n, env, R, h⟩, (S.loop R1).rt, (S.loop R1).rf⟩⟩
    · have e : i = ys.length := by omega
      subst e
      exact .inl ⟨Y.stop H2 sm, S.nx _ _ (hd _ _ v2) _ _ _ (R1.unloop R2)⟩⟩
def wWhile (wt : WT) (w : WS) : WS := fun D env n => ∃ Inv : Nat → En → Nat → Prop, (∃ m, Inv m env n) ∧ ∀ m env n, Inv m env n → wt env n fun k n1 => if k = true then w { D with nx := fun e n => ∃ m', m' < m ∧ Inv m' e n, ct := fun e n => ∃ m', m' < m ∧ Inv m' e n, bk := D.nx } env n1 else D.nx env n1
theorem ds_while {body : List Stmt} (hc : DT X e wt) (hb : DSs X body w) (hp : PassesOwn (model X.prog X.w) X.A X.env X.xe := by exact PassesOwn.never) : DS X (.While e body [] pos) (wWhile wt w) :=
  .of (ps_while hp hc.pt hb.ps) fun E σ H ⟨c, ad, n, env, D0, R, ⟨Iv, ⟨m0, v0⟩, hs⟩, S⟩ => by
    refine ⟨fun m σ2 H2 => ∃ ad2 n2 env2, Rel X.K c ad2 n2 σ2 H2 env2 ∧ Iv m env2 n2, ⟨m0, ad, n, env, R, v0⟩, ?_⟩
    rintro m σ2 H2 ⟨ad2, n2, env2, R2, v2⟩
    refine ⟨c, ad2, n2, env2, _, R2, hs m env2 n2 v2, fun k n3 q3 H3 e3 => ?_⟩
    cases k with
    | true =>
      rw [if_pos rfl] at q3 ⊢
      refine ⟨fun σ' H' => ∃ m', m' < m ∧ ∃ ad2 n2 env2, Rel X.K c ad2 n2 σ' H' env2 ∧ Iv m' env2 n2, fun σ' H' h => h, c, ad2, n3, env2, _, R2.step e3, q3, ⟨fun env n ⟨m', hm, h⟩ σ H ad R => ⟨m', hm, ad, n, env, R, h⟩, fun env n h σ H ad R => S.nx _ _ h _ _ _ R, fun env n ⟨m', hm, h⟩ σ H ad R => ⟨m', hm, ad, n, env, R, h⟩, S.rt, S.rf⟩⟩
    | false =>
      rw [if_neg Bool.false_ne_true] at q3 ⊢
      exact S.nx _ _ q3 _ _ _ (R2.step e3)
end
end Dv

set_option Elab.async false
set_option linter.all false
set_option maxRecDepth 100000
set_option maxHeartbeats 4000000
/-! Dv7: comprehensions, calls, defs by value -/
namespace Dv
open PySem PySem.Spec PyProof.Rows L2
/-! ### comprehensions -/
def wipeE (env : En) : List Nat → En
  | [] => env
  | v :: vs => (wipeE env vs).set v .un
section
variable {K : PySem.W.Frag} {c : Ctx} {ad : Nat → Addr} {n n' : Nat} {σ σ' : L2.St} {H H' : Hp} {env : En}
theorem Rel.forgetS (R : Rel K c ad n σ H env) {i : Nat} {x : Option V} : Rel K c ad n (σ.set i x) H (env.set i .un) :=
  R.setS (fun o z => nomatch z) (by rw [List.length_set]; exact Nat.le_refl _) (fun j z => by rw [List.getElem?_set_ne (Ne.symm z)]) fun d' e _ => by cases e
theorem Rel.wipe (R : Rel K c ad n σ H env) : ∀ vs : List Nat, Rel K c ad n (L2.wipe σ vs) H (wipeE env vs)
  | [] => R
  | v :: vs => (Rel.wipe R vs).forgetS
theorem wipeE_own : ∀ {vs : List Nat} {j : Nat}, Own (wipeE env vs) j → Own env j
  | [], _, h => h
  | v :: vs, j, h => by
    rcases own_set h with ⟨_, _, o, e⟩ | ⟨_, h⟩
    · cases e
    · exact wipeE_own h
theorem wipe_idem {vs : List Nat} : L2.wipe (L2.wipe σ vs) vs = L2.wipe σ vs := by
  have key : ∀ (ws vs : List Nat), (∀ w ∈ ws, w ∈ vs) → L2.wipe (L2.wipe σ ws) vs = L2.wipe σ vs := by
    intro ws
    induction ws with
    | nil => intro vs _; rfl
    | cons w ws ih =>
      intro vs h
      show L2.wipe ((L2.wipe σ ws).set w none) vs = _
      rw [wipe_set (h w List.mem_cons_self)]
      exact ih vs fun x hx => h x (List.mem_cons_of_mem _ hx)
  exact key vs vs fun _ h => h
/-- one more address that nothing leans on -/
def Ctx.and (c : Ctx) (D : Addr) : Ctx := ⟨c.H0, fun a => c.O0 a ∨ a = D, c.bg⟩
theorem Rel.andD (R : Rel K c ad n σ H env) {D : Addr} {u : HO} (hD : H D = none) : Rel K (c.and D) ad n σ (upd H D u) env := by
  have e := EStp.new (o := u) R.bag hD
  have R' := R.step e
  have nD : ¬ Oa c ad env D := R.free hD
  refine ⟨R'.len, R'.base, fun a ha => ?_, fun b l eb => ?_, R'.inj, R'.fresh, fun i hi z => ?_, fun i sd es => ?_⟩
  · rcases ha with ha | rfl
    · exact R'.dom a ha
    · rw [upd_same]; exact fun z => nomatch z
  · obtain ⟨h1, h2, h3⟩ := R'.bag b l eb
    exact ⟨h1, .inl h2, .inl h3⟩
  · rcases z with z | z
    · exact R'.notO i hi z
    · exact nD (.inr ⟨i, hi, z.symm⟩)
  · have sm : Same (cut (Oa c ad env) H) (cut (Oa (c.and D) ad env) (upd H D u)) := cut_mono fun a o h1 h2 => by
      have ne : a ≠ D := fun z => by rw [z, hD] at h2; cases h2
      refine ⟨fun z => ?_, by rw [upd_ne ne]; exact h2⟩
      rcases z with (z | z) | z
      · exact h1 (.inl z)
      · exact ne z
      · exact h1 (.inr z)
    have sl := R.slot i sd es
    cases sd with
    | un => trivial
    | val d => obtain ⟨v, h1, h2⟩ := sl; exact ⟨v, h1, h2.same sm⟩
    | own o =>
      obtain ⟨h1, w, h2, h3⟩ := sl
      exact ⟨h1, w, by rw [upd_ne (fun z => nD (.inr ⟨i, ⟨o, es⟩, z.symm⟩))]; exact h2, h3.same sm⟩
/-- the address that nothing leans on changed -/
theorem Rel.atD {D : Addr} {u : HO} (R : Rel K (c.and D) ad n σ H env) (h0 : c.H0 D = none) (hb : ∀ l, c.bg ≠ some (D, l)) (hl : ∀ b, c.bg ≠ some (b, D)) : Rel K (c.and D) ad n σ (upd H D u) env := by
  have cu : cut (Oa (c.and D) ad env) (upd H D u) = cut (Oa (c.and D) ad env) H := cut_upd (.inl (.inr rfl))
  refine ⟨R.len, fun a o h hnb => ?_, fun a ha => ?_, fun b l eb => ?_, R.inj, R.fresh, R.notO, fun i sd es => ?_⟩
  · rw [upd_ne (fun z => by rw [z] at h; rw [show (c.and D).H0 D = c.H0 D from rfl, h0] at h; cases h)]
    exact R.base a o h hnb
  · by_cases z : a = D
    · rw [z, upd_same]; exact fun z => nomatch z
    · rw [upd_ne z]; exact R.dom a ha
  · obtain ⟨⟨ns, q, r', m, k, h1, h2, h3⟩, h4, h5⟩ := R.bag _ _ eb
    refine ⟨⟨ns, q, r', m, k, ?_, ?_, h3⟩, h4, h5⟩
    · rw [upd_ne (fun z => hb l (by rw [← z]; exact eb))]; exact h1
    · rw [upd_ne (fun z => hl b (by rw [← z]; exact eb))]; exact h2
  · have sl := R.slot i sd es
    cases sd with
    | un => trivial
    | val d => obtain ⟨v, h1, h2⟩ := sl; exact ⟨v, h1, by rw [cu]; exact h2⟩
    | own o =>
      obtain ⟨h1, w, h2, h3⟩ := sl
      exact ⟨h1, w, by rw [upd_ne (fun z => R.notO i ⟨o, es⟩ (.inr z))]; exact h2, by rw [cu]; exact h3⟩
end
section
variable {X : Cx} {tg iter elt : Expr} {pos : Pos} {we : WE} {wt : WT} {wi : WI} {g : WG}
/-- a clause's tests -/
structure DTs (X : Cx) (ifs : List Expr) (w : WT) : Prop where
  pts : PTs X ifs (lT X.K w)
theorem ptsImp {ifs : List Expr} {t t' : TT} (h : PTs X ifs t) (k : ∀ σ H Q, t' σ H Q → t σ H Q) : PTs X ifs t' := ⟨fun pins s σ H Q I q => h.run pins s σ H Q I (k _ _ _ q)⟩
def wYes : WT := fun _ n Q => Q true n
theorem dts_nil : DTs X [] wYes := ⟨ptsImp pts_nil fun σ H Q ⟨c, ad, n, env, Q0, R, q0, q⟩ => q _ _ q0 _ (.refl R.bag)⟩
theorem dts_one {e : Expr} (h : DT X e wt) : DTs X [e] wt := ⟨pts_one h.pt⟩
/-- [elt for tg in iter if ..]: vs the slots of the block's own names -/
def noOwn (env : En) (vs : List Nat) : Bool := vs.all fun j => match env[j]? with
  | some (.own _) => false
  | _ => true
theorem noOwn_ne {env : En} {vs : List Nat} (h : noOwn env vs = true) {j : Nat} (hj : Own env j) : j ∉ vs := fun hm => by
  obtain ⟨o, e⟩ := hj
  have := List.all_eq_true.1 h j hm
  rw [e] at this
  cases this
theorem wipeE_get {env : En} : ∀ {vs : List Nat} {j : Nat}, j ∉ vs → (wipeE env vs)[j]? = env[j]?
  | [], _, _ => rfl
  | v :: vs, j, h => by
    rw [List.mem_cons, not_or] at h
    show ((wipeE env vs).set v .un)[j]? = _
    rw [List.getElem?_set_ne (Ne.symm h.1), wipeE_get h.2]
def wLc (wi : WI) (g : WG) (wt : WT) (we : WE) (vs : List Nat) : WO := fun env n Q => noOwn env vs = true ∧ wi env n fun ys n1 => ∃ Iv : Nat → List D → Nat → Prop, Iv 0 [] n1 ∧ (∀ ds n, Iv ys.length ds n → Q (.lst ds) n) ∧
  ∀ i y ds n, ys[i]? = some y → Iv i ds n → g y (wipeE env vs) fun env2 => wt env2 n fun k n2 => if k = true then we env2 n2 fun d n3 => ds.length < sizeLine ∧ Iv (i + 1) (ds ++ [d]) n3 else Iv (i + 1) ds n2
theorem lc_read {K : PySem.W.Frag} {σ : L2.St} {H : Hp} {Q : VK} {vs : List Nat} (h : lF K (wLc wi g wt we vs) σ H Q) : tLc (lI K wi) (lG K vs g) (lT K wt) (lE K we) vs σ H Q := by
  obtain ⟨c, ad, n, env, Q0, R, ⟨hno, q0⟩, q⟩ := h
  refine ⟨c, ad, n, env, _, R, q0, fun ys n1 ⟨Iv, hv, hd, hs⟩ H1 J e1 Y => fun L hL => ?_⟩
  have R1 := R.step e1
  have hL0 : H L = none := by
    cases z : H L with
    | none => rfl
    | some o =>
      by_cases hb : c.isBag L
      · obtain ⟨l, eb⟩ := hb
        obtain ⟨⟨ns, q', r', m, k, h1, _⟩, _⟩ := R1.bag _ _ eb
        rw [hL] at h1; cases h1
      · rw [e1.keep L o z hb] at hL; cases hL
  have nbL : ∀ l, c.bg ≠ some (L, l) := fun l eb => by
    obtain ⟨⟨ns, q', r', m, k, h1, _⟩, _⟩ := R1.bag _ _ eb
    rw [hL] at h1; cases h1
  have nlL : ∀ b, c.bg ≠ some (b, L) := fun b eb => by
    obtain ⟨⟨ns, q', r', m, k, _, h1, _⟩, _⟩ := R1.bag _ _ eb
    rw [hL] at h1; cases h1
  have h0L : c.H0 L = none := by
    cases z : c.H0 L with
    | none => rfl
    | some o => rw [R1.base L o z (fun ⟨l, eb⟩ => nbL l eb)] at hL; cases hL
  -- what holds between the turns
  let Pw := fun (i : Nat) (H2 : Hp) => ∃ n2 ds ws, Rel K (c.and L) ad n2 (L2.wipe σ vs) H2 (wipeE env vs) ∧ EStp c H H2 n2 ∧ Same (cut (Oa c ad env) H1) H2 ∧ H2 L = some (.lst ws) ∧ ws.length ≤ sizeLine ∧ RepL K c.bg (cut (fun a => Oa c ad env a ∨ a = L) H2) ws ds ∧ Iv i ds n2
  have eL : EStp c H (upd H1 L (.lst [])) n1 := e1.trans (.new e1.bag hL)
  refine ⟨fun i m H2 => m = ys.length - i ∧ i ≤ ys.length ∧ Pw i H2, ⟨_, rfl, Nat.zero_le _, n1, [], [], (R1.wipe vs).andD hL, eL, ?_, upd_same, Nat.zero_le _, .nil, hv⟩, ?_⟩
  · intro a o h
    obtain ⟨h1, h2⟩ := cut_some h
    rw [upd_ne (fun z => by rw [z, hL] at h2; cases h2)]
    exact h2
  rintro i m H2 ⟨rfl, hle, n2, ds, ws, R2, e2, sm2, hl2, hlen, r2, v2⟩
  by_cases hlt : i < ys.length
  · refine .inr ⟨Y.go i H2 sm2 hlt, fun H' => i + 1 ≤ ys.length ∧ Pw (i + 1) H', fun H' ⟨h1, h2⟩ => ⟨ys.length - (i + 1), by omega, rfl, h1, h2⟩, fun x H3 hy => ?_⟩
    obtain ⟨y, ey, sm3, hr⟩ := Y.yld i H2 x H3 hlt sm2 hy
    have R3 := R2.step (.of_same R2.bag sm3)
    have so : ∀ a o, cut (Oa c ad env) H1 a = some o → ¬ Oa (c.and L) ad (wipeE env vs) a := fun a o h z => by
      obtain ⟨h1, h2⟩ := cut_some h
      rcases z with (z | z) | ⟨j, hj, z⟩
      · exact h1 (.inl z)
      · rw [z, hL] at h2; cases h2
      · exact h1 (.inr ⟨j, wipeE_own hj, z⟩)
    refine ⟨_, ad, n2, wipeE env vs, y, _, R3, hr _ R2.oaD so, hs i y ds n2 ey v2, fun env2 q2 hev σ2 hw R4 => ?_⟩
    refine ⟨by rw [hw, wipe_idem], _, ad, n2, env2, _, R4, q2, fun k n4 q4 H5 e5 => ?_⟩
    have R5 := R4.step e5
    -- back to the turn's beginning: the slots are wiped, all else stays
    have back : ∀ {H6 : Hp} {n6 : Nat}, EStp (c.and L) H3 H6 n6 → Rel K (c.and L) ad n6 (L2.wipe σ vs) H6 (wipeE env vs) ∧ EStp c H H6 n6 ∧ Same (cut (Oa c ad env) H1) H6 ∧ H6 L = some (.lst ws) ∧ RepL K c.bg (cut (fun a => Oa c ad env a ∨ a = L) H6) ws ds := fun {H6 n6} e6 => by
      have cw : CW c n6 H6 := fun b l eb => by
        obtain ⟨h1, _, _⟩ := e6.bag b l eb
        obtain ⟨_, h2, h3⟩ := R1.bag b l eb
        exact ⟨h1, h2, h3⟩
      have k6 : EStp c H3 H6 n6 := ⟨e6.keep, cw⟩
      have k23 : EStp c H2 H3 n2 := .of_same e2.bag sm3
      have k26 : EStp c H2 H6 n6 := k23.trans k6
      refine ⟨R3.step e6, e2.trans k26, fun a o h => ?_, ?_, r2.same (k26.cut fun x hx => .inl (.inl (oa_bag R.bag hx)))⟩
      · have hb : ¬ c.isBag a := fun z => (cut_some h).1 (R.oaB a z)
        exact k26.keep a o (sm2 a o h) hb
      · exact k26.keep L _ hl2 fun ⟨l, eb⟩ => nbL l eb
    cases k with
    | false =>
      rw [if_neg Bool.false_ne_true] at q4
      show i + 1 ≤ ys.length ∧ Pw (i + 1) H5
      obtain ⟨b1, b2, b3, b4, b5⟩ := back e5
      exact ⟨hlt, n4, ds, ws, b1, b2, b3, b4, hlen, b5, q4⟩
    | true =>
      rw [if_pos rfl] at q4
      refine (show lE K we σ2 H5 _ from ?_)
      refine ⟨_, ad, n4, env2, _, R5, q4, fun d n6 ⟨hz, q6⟩ v H6 e6 r6 => ?_⟩
      obtain ⟨b1, b2, b3, b4, b5⟩ := back (e5.trans e6)
      have hwl : ws.length < sizeLine := by rw [b5.len]; exact hz
      refine ⟨ws, b4, hwl, hlt, n6, ds ++ [d], ws ++ [v], b1.atD h0L nbL nlL, ?_, ?_, upd_same, ?_, ?_, q6⟩
      · refine ⟨fun a o h hb => ?_, fun b l eb => ?_⟩
        · rw [upd_ne (fun z => by rw [z, hL0] at h; cases h)]
          exact b2.keep a o h hb
        · obtain ⟨⟨ns, q', r', m, k, h1, h2, h3⟩, h4, h5⟩ := b2.bag _ _ eb
          refine ⟨⟨ns, q', r', m, k, ?_, ?_, h3⟩, h4, h5⟩
          · rw [upd_ne (fun z => nbL l (by rw [← z]; exact eb))]; exact h1
          · rw [upd_ne (fun z => nlL b (by rw [← z]; exact eb))]; exact h2
      · intro a o h
        obtain ⟨h1, h2⟩ := cut_some h
        rw [upd_ne (fun z => by rw [z, hL] at h2; cases h2)]
        exact b3 a o h
      · rw [List.length_append, List.length_singleton]
        exact hwl
      · rw [cut_upd (.inr rfl)]
        -- the new item: what it leans on is not forbidden at the turn's beginning either
        refine b5.app (.cons (r6.same (cut_mono fun a o h1 h2 => ⟨fun z => ?_, h2⟩)) .nil)
        rcases z with z | z
        · rcases z with z | ⟨j, hj, z⟩
          · exact h1 (.inl (.inl z))
          · refine h1 (.inr ⟨j, ?_, z⟩)
            obtain ⟨o, eo⟩ := hj
            have hj' := noOwn_ne hno ⟨o, eo⟩
            exact ⟨o, by rw [hev j hj', wipeE_get hj']; exact eo⟩
        · exact h1 (.inl (.inr z))
  · have e : i = ys.length := by omega
    subst e
    refine .inl ⟨Y.stop H2 sm2, q _ _ (hd _ _ v2) L _ H2 hL0 e2 hl2 (.lst hlen r2)⟩
theorem df_lc {ifs : List Expr} {scope : Scope} {own : List (Str × Nat)} (hN : X.N.Nodup) (hi : DI X tg iter wi) (ok : BlkOk X.N X.env.scope scope own)
    (hg : ∀ (s : Shared) (H : Hp) (C : Addr) (cl : List (Str × Addr)) (fp : List Addr), DG (X.blk s H scope (compEnvC scope cl C X.env) fp) tg (own.map (·.2)) g) (ht : ∀ (s : Shared) (H : Hp) (C : Addr) (cl : List (Str × Addr)) (fp : List Addr), DTs (X.blk s H scope (compEnvC scope cl C X.env) fp) ifs wt)
    (he : ∀ (s : Shared) (H : Hp) (C : Addr) (cl : List (Str × Addr)) (fp : List Addr), DE (X.blk s H scope (compEnvC scope cl C X.env) fp) elt we) (hc : X.calm = true := by rfl) (hs : ∀ x, foldedSetIterable iter X.env x = pure x := by intro _; rfl) :
    DF X (.ListComp elt [⟨tg, iter, ifs, 0⟩] scope pos) (wLc wi g wt we (own.map (·.2))) :=
  .of (pe_lc hc hN hi.pi ok (fun s H C cl fp => (hg s H C cl fp).pg) (fun s H C cl fp => (ht s H C cl fp).pts) (fun s H C cl fp => (he s H C cl fp).pe) hs) fun σ H Q h => lc_read h
/-- name = [..], owned -/
theorem ds_ownLc {ifs : List Expr} {scope : Scope} {own : List (Str × Nat)} {i : Nat} {y : Str} {py spos : Pos} (hN : X.N.Nodup) (hy : X.N[i]? = some y) (hyl : X.env.scope.names.lookup y = some .local) (hsw : swapsWith (.ListComp elt [⟨tg, iter, ifs, 0⟩] scope pos) (some (.Name y py)) spos.line X.env = pure true) (hi : DI X tg iter wi) (ok : BlkOk X.N X.env.scope scope own)
    (hg : ∀ (s : Shared) (H : Hp) (C : Addr) (cl : List (Str × Addr)) (fp : List Addr), DG (X.blk s H scope (compEnvC scope cl C X.env) fp) tg (own.map (·.2)) g) (ht : ∀ (s : Shared) (H : Hp) (C : Addr) (cl : List (Str × Addr)) (fp : List Addr), DTs (X.blk s H scope (compEnvC scope cl C X.env) fp) ifs wt)
    (he : ∀ (s : Shared) (H : Hp) (C : Addr) (cl : List (Str × Addr)) (fp : List Addr), DE (X.blk s H scope (compEnvC scope cl C X.env) fp) elt we) (hc : X.calm = true := by rfl) (hs : ∀ x, foldedSetIterable iter X.env x = pure x := by intro _; rfl) :
    DS X (.Assign [.Name y py] (.ListComp elt [⟨tg, iter, ifs, 0⟩] scope pos) spos) (wOwn i (wLc wi g wt we (own.map (·.2)))) :=
  .of (ps_setLc hc hN hy hyl hsw hi.pi ok (fun s H C cl fp => (hg s H C cl fp).pg) (fun s H C cl fp => (ht s H C cl fp).pts) (fun s H C cl fp => (he s H C cl fp).pe) hs) fun E σ H ⟨c, ad, n, env, D0, R, q0, S⟩ =>
    lc_read (Q := fun x H1 => gName i x σ H1 E.nx) ⟨c, ad, n, env, _, R, q0, fun o n1 q1 p u H1 hp e1 hu r1 => S.nx _ _ q1 _ _ _ (R.setOwn hp e1 hu r1)⟩
/-- name = [..], a value from then on -/
def wSetOb (i : Nat) (wo : WO) : WS := fun D env n => wo env n fun o n1 => D.nx (env.set i (.val o.d)) n1
theorem ds_setLc {ifs : List Expr} {scope : Scope} {own : List (Str × Nat)} {i : Nat} {y : Str} {py spos : Pos} (hN : X.N.Nodup) (hy : X.N[i]? = some y) (hyl : X.env.scope.names.lookup y = some .local) (hsw : swapsWith (.ListComp elt [⟨tg, iter, ifs, 0⟩] scope pos) (some (.Name y py)) spos.line X.env = pure true) (hi : DI X tg iter wi) (ok : BlkOk X.N X.env.scope scope own)
    (hg : ∀ (s : Shared) (H : Hp) (C : Addr) (cl : List (Str × Addr)) (fp : List Addr), DG (X.blk s H scope (compEnvC scope cl C X.env) fp) tg (own.map (·.2)) g) (ht : ∀ (s : Shared) (H : Hp) (C : Addr) (cl : List (Str × Addr)) (fp : List Addr), DTs (X.blk s H scope (compEnvC scope cl C X.env) fp) ifs wt)
    (he : ∀ (s : Shared) (H : Hp) (C : Addr) (cl : List (Str × Addr)) (fp : List Addr), DE (X.blk s H scope (compEnvC scope cl C X.env) fp) elt we) (hc : X.calm = true := by rfl) (hs : ∀ x, foldedSetIterable iter X.env x = pure x := by intro _; rfl) :
    DS X (.Assign [.Name y py] (.ListComp elt [⟨tg, iter, ifs, 0⟩] scope pos) spos) (wSetOb i (wLc wi g wt we (own.map (·.2)))) :=
  .of (ps_setLc hc hN hy hyl hsw hi.pi ok (fun s H C cl fp => (hg s H C cl fp).pg) (fun s H C cl fp => (ht s H C cl fp).pts) (fun s H C cl fp => (he s H C cl fp).pe) hs) fun E σ H ⟨c, ad, n, env, D0, R, q0, S⟩ =>
    lc_read (Q := fun x H1 => gName i x σ H1 E.nx) ⟨c, ad, n, env, _, R, q0, fun o n1 q1 p u H1 hp e1 hu r1 => S.nx _ _ q1 _ _ _ ((R.step e1).set (r1.rep (cut_mono fun a o h1 h2 => ⟨fun z => h1 (.inl z), h2⟩) (by rw [cut_out (R.free hp)]; exact hu)))⟩
end
end Dv

set_option Elab.async false
set_option linter.all false
set_option maxRecDepth 100000
set_option maxHeartbeats 4000000
/-! Dv8: calls, defs by value -/
namespace Dv
open PySem PySem.Spec PyProof.Rows L2
/-- an exception: its class, its fields -/
structure EX where
  C : Addr
  fs : Option (List (Str × D))
abbrev DSp := List D → Nat → (D → Nat → Prop) → (EX → Nat → Prop) → Prop
def ExR (K : PySem.W.Frag) (bg : Option (Addr × Addr)) (O : Addr → Prop) (H : Hp) (x : EX) : Option Addr → Prop
  | none => x.fs = none
  | some d => ∃ fs fv, x.fs = some fs ∧ H d = some (.xd fv) ∧ RepF K bg (cut O H) fv fs
/-- a promise by value as a promise -/
def lSp (K : PySem.W.Frag) (sp : DSp) : Sp := fun vs H Q E => ∃ c ds n Q0 E0, (c.H0 = H ∧ (∀ a, c.O0 a → H a ≠ none) ∧ CW c n H) ∧ RepL K c.bg (cut c.O0 H) vs ds ∧ sp ds n Q0 E0 ∧
  (∀ d n', Q0 d n' → ∀ v H', EStp c H H' n' → Rep K c.bg (cut c.O0 H') v d → Q v H') ∧ ∀ x n', E0 x n' → ∀ od H', EStp c H H' n' → ExR K c.bg c.O0 H' x od → E (.ref x.C) od H'
def noE : EX → Nat → Prop := fun _ _ => False
structure Cal (P : Program) (w : World) (K : PySem.W.Frag) (mg : Str → Option Value) (base : Heap) (CX : CXT) (k : Nat) (x : Str) (ps : List Str) (sp : DSp) : Prop where
  ex : ∃ g gd, FnOk P w K mg base CX k g gd ps (lSp K sp) ∧ mg x = some (.ref g) ∧ PySem.W.keepIn K (.ref g) = true ∧ Binds K gd ps []
theorem Cal.mono {P : Program} {w : World} {K : PySem.W.Frag} {mg : Str → Option Value} {base : Heap} {CX : CXT} {k j : Nat} {x : Str} {ps : List Str} {sp : DSp} (h : Cal P w K mg base CX k x ps sp) (hk : k ≤ j) : Cal P w K mg base CX j x ps sp := by
  obtain ⟨g, gd, F, r⟩ := h.ex
  exact ⟨g, gd, F.mono hk, r⟩
/-- a weaker promise -/
theorem Cal.imp {P : Program} {w : World} {K : PySem.W.Frag} {mg : Str → Option Value} {base : Heap} {CX : CXT} {k : Nat} {x : Str} {ps : List Str} {sp sp' : DSp} (h : Cal P w K mg base CX k x ps sp) (hs : ∀ ds n Q E, sp' ds n Q E → sp ds n Q E) : Cal P w K mg base CX k x ps sp' := by
  obtain ⟨g, gd, F, r⟩ := h.ex
  exact ⟨g, gd, F.imp fun vs H Q E ⟨c, ds, n, Q0, E0, h1, h2, h3, h4⟩ => ⟨c, ds, n, Q0, E0, h1, h2, hs _ _ _ _ h3, h4⟩, r⟩
theorem EStp.cx {c c' : Ctx} {H H' : Hp} {n n0 : Nat} (e : EStp c' H H' n) (hb : c'.bg = c.bg) (h0 : CW c n0 H) : EStp c H H' n := by
  refine ⟨fun a o h hn => e.keep a o h (fun ⟨l, z⟩ => hn ⟨l, by rw [← hb]; exact z⟩), fun b l z => ?_⟩
  obtain ⟨h1, _, _⟩ := e.bag b l (by rw [hb]; exact z)
  obtain ⟨_, h2, h3⟩ := h0 b l z
  exact ⟨h1, h2, h3⟩
section
variable {X : Cx} {pos : Pos} {wa : WA} {sp : DSp} {P : Program} {w : World} {K : PySem.W.Frag} {mg : Str → Option Value} {base : Heap}
def wFn (sp : DSp) (wa : WA) : WE := fun env n Q => wa env n fun ds n1 => sp ds n1 Q noE
theorem fn_read {K : PySem.W.Frag} {σ : L2.St} {H : Hp} {Q : VK} (h : lE K (wFn sp wa) σ H Q) : tCall (lSp K sp) [] E0 (lA K wa) σ H Q := by
  obtain ⟨c, ad, n, env, Q0, R, q0, q⟩ := h
  refine ⟨c, ad, n, env, _, R, q0, fun ds n1 q1 vs H1 e1 r1 => ?_⟩
  have R1 := R.step e1
  show lSp K sp (vs ++ []) H1 Q E0
  rw [List.append_nil]
  refine ⟨⟨H1, Oa c ad env, c.bg⟩, ds, n1, Q0, noE, ⟨rfl, R1.oaD, fun b l eb => ?_⟩, r1, q1, fun d n2 hd v H2 e2 r2 => ?_, fun x n2 z => z.elim⟩
  · obtain ⟨h1, h2, h3⟩ := R1.bag b l eb
    exact ⟨h1, .inl h2, .inl h3⟩
  · exact q _ _ hd _ _ (e1.trans (e2.cx (c := c) rfl R1.bag)) r2
theorem de_call {k : Nat} {x : Str} {ps : List Str} {p : Pos} {e : Expr} {es : List Expr} (C : Cal X.prog X.w X.K X.mg X.base CX0 k x ps sp) (hr : Room k X.A) (ha : DA X (e :: es) wa) (hg : Gl X x := by rfl)
    (hdb : (x == ("__debug__" : Str)) = false := by decide) (he : starEach (e :: es) X.env = (false, eval e X.env) :: starEach es X.env := by rfl) (hpl : (backTo pos (starEach es X.env)).any (·.1) = false := by rfl) : DE X (.Call (.Name x p) (e :: es) [] pos) (wFn sp wa) := by
  obtain ⟨g, gd, F, hm, hk, hb⟩ := C.ex
  exact .of (pe_call F hr hg hm hk hb .nil pass0 ha.pa hdb he hpl) fun σ H Q h => fn_read h
theorem de_call0 {k : Nat} {x : Str} {ps : List Str} {p : Pos} (C : Cal X.prog X.w X.K X.mg X.base CX0 k x ps sp) (hr : Room k X.A) (hg : Gl X x := by rfl) (hdb : (x == ("__debug__" : Str)) = false := by decide) : DE X (.Call (.Name x p) [] [] pos) (wFn sp wNil) := by
  obtain ⟨g, gd, F, hm, hk, hb⟩ := C.ex
  refine .of (pe_call0 F hr hg hm hk hb .nil pass0 hdb) fun σ H Q h => ?_
  obtain ⟨c, ad, n, env, Q0, R, q0, q⟩ := h
  show lSp X.K sp ([] ++ []) H Q E0
  exact fn_read (wa := wNil) (Q := Q) ⟨c, ad, n, env, Q0, R, q0, q⟩ |> fun z => by
    obtain ⟨c, ad, n, env, Q1, R, q1, q⟩ := z
    exact q _ _ q1 _ _ (.refl R.bag) .nil
/-- borrowed arguments: what comes back leans on none of them -/
def wFnB (sp : DSp) (wa : WA) : WE := fun env n Q => wa env n fun ds n1 => sp ds n1 (fun d n2 => d.flat = true ∧ Q d n2) noE
/-- the addresses of borrowed arguments -/
def Lent (O : Addr → Prop) (bg : Option (Addr × Addr)) (vs : List V) (a : Addr) : Prop := V.ref a ∈ vs ∧ ∀ p l, bg = some (p, l) → a ≠ p ∧ a ≠ l
theorem ShL.lent {K : PySem.W.Frag} {bg : Option (Addr × Addr)} {O : Addr → Prop} {H : Hp} : ∀ {vs : List V} {ds : List D}, ShL K bg O H vs ds → ∀ L : Addr → Prop, (∀ a, V.ref a ∈ vs → (∀ p l, bg = some (p, l) → a ≠ p ∧ a ≠ l) → L a) → RepL K bg (cut (fun a => O a ∧ ¬ L a) H) vs ds
  | _, _, .nil, _, _ => .nil
  | _, _, .cons h t, L, hL => by
    have sm : Same (cut O H) (cut (fun a => O a ∧ ¬ L a) H) := cut_mono fun a o h1 h2 => ⟨fun z => h1 z.1, h2⟩
    refine .cons ?_ (ShL.lent t L fun a ha hb => hL a (List.mem_cons_of_mem _ ha) hb)
    cases h with
    | rep h => exact h.same sm
    | @own a u o hb h r => exact r.rep sm (by rw [cut_out (fun z => z.2 (hL a List.mem_cons_self hb))]; exact h)
theorem fnB_read {K : PySem.W.Frag} {σ : L2.St} {H : Hp} {Q : VK} (h : lE K (wFnB sp wa) σ H Q) : tCall (lSp K sp) [] E0 (lAB K wa) σ H Q := by
  obtain ⟨c, ad, n, env, Q0, R, q0, q⟩ := h
  refine ⟨c, ad, n, env, _, R, q0, fun ds n1 q1 vs H1 e1 s1 => ?_⟩
  have R1 := R.step e1
  show lSp K sp (vs ++ []) H1 Q E0
  rw [List.append_nil]
  refine ⟨⟨H1, fun a => Oa c ad env a ∧ ¬ Lent (Oa c ad env) c.bg vs a, c.bg⟩, ds, n1, fun d n2 => d.flat = true ∧ Q0 d n2, noE, ⟨rfl, fun a h => R1.oaD a h.1, fun b l eb => ?_⟩, s1.lent _ fun a ha hb => ⟨ha, hb⟩, q1, fun d n2 ⟨hf, hd⟩ v H2 e2 r2 => ?_, fun x n2 z => z.elim⟩
  · obtain ⟨h1, h2, h3⟩ := R1.bag b l eb
    exact ⟨h1, ⟨.inl h2, fun z => (z.2 b l eb).1 rfl⟩, ⟨.inl h3, fun z => (z.2 b l eb).2 rfl⟩⟩
  · exact q _ _ hd _ _ (e1.trans (e2.cx (c := c) rfl R1.bag)) (r2.flat hf _)
theorem de_callB {k : Nat} {x : Str} {ps : List Str} {p : Pos} {e : Expr} {es : List Expr} (C : Cal X.prog X.w X.K X.mg X.base CX0 k x ps sp) (hr : Room k X.A) (ha : DAB X (e :: es) wa) (hg : Gl X x := by rfl)
    (hdb : (x == ("__debug__" : Str)) = false := by decide) (he : starEach (e :: es) X.env = (false, eval e X.env) :: starEach es X.env := by rfl) (hpl : (backTo pos (starEach es X.env)).any (·.1) = false := by rfl) : DE X (.Call (.Name x p) (e :: es) [] pos) (wFnB sp wa) := by
  obtain ⟨g, gd, F, hm, hk, hb⟩ := C.ex
  exact .of (pe_call F hr hg hm hk hb .nil pass0 ha.pa hdb he hpl) fun σ H Q h => fnB_read h
/-! ### a def by its body -/
def startD (N : List Str) (ds : List D) : En := ds.map .val ++ List.replicate (N.length - ds.length) .un
theorem rel_start {N : List Str} {H : Hp} {O : Addr → Prop} {bg : Option (Addr × Addr)} {n : Nat} {vs : List V} {ds : List D} (hO : ∀ a, O a → H a ≠ none) (hb : CW ⟨H, O, bg⟩ n H) (r : RepL K bg (cut O H) vs ds) : Rel K ⟨H, O, bg⟩ (fun _ => 0) n (L2.start N vs) H (startD N ds) := by
  have hl := r.len
  have no : ∀ i, ¬ Own (startD N ds) i := fun i ⟨o, e⟩ => by
    unfold startD at e
    by_cases hi : i < ds.length
    · rw [List.getElem?_append_left (by simpa using hi), List.getElem?_map] at e
      cases z : ds[i]? with
      | none => rw [z] at e; cases e
      | some d => rw [z] at e; cases e
    · rw [List.getElem?_append_right (by simpa using hi), List.getElem?_replicate] at e
      split at e <;> cases e
  refine ⟨?_, fun a o h _ => h, hO, hb, fun i j h => absurd h (no i), fun i h => absurd h (no i), fun i h => absurd h (no i), fun i sd e => ?_⟩
  · unfold startD L2.start
    simp [hl]
  · unfold startD at e
    by_cases hi : i < ds.length
    · rw [List.getElem?_append_left (by simpa using hi), List.getElem?_map] at e
      cases z : ds[i]? with
      | none => rw [z] at e; cases e
      | some d =>
        rw [z] at e
        cases e
        obtain ⟨v, h1, h2⟩ := r.getD z
        refine ⟨v, ?_, h2.same (cut_mono fun a o h1 h2 => ⟨fun w => ?_, h2⟩)⟩
        · unfold L2.start
          rw [List.getElem?_append_left (by rw [List.length_map, hl]; exact hi), List.getElem?_map, h1]
          rfl
        · rcases w with w | ⟨j, hj, _⟩
          · exact h1 w
          · exact no j hj
    · rw [List.getElem?_append_right (by simpa using hi), List.getElem?_replicate] at e
      split at e
      · cases e; trivial
      · cases e
def dEnds (Q : D → Nat → Prop) : DEnds := { nx := fun _ n => Q .non n, rt := Q, rf := fun o n => Q o.d n }
/-- the ends of a def that hands back a new object -/
def dEndsF (Q : Ob → Nat → Prop) : DEnds := { nx := fun _ _ => False, rt := fun _ _ => False, rf := Q }
/-- THE RULE for a def: its body as a term of rules, and the reading of that term by value -/
theorem dok {x qual : Str} {st : Stmt} {f : Addr} {fd : FuncData} {N ps : List Str} {k : Nat} {sp : DSp} (F : Fun K x qual st f fd) (S : FnScope N ps (defScope st)) (len : ∀ ds n Q E, sp ds n Q E → ds.length = ps.length)
    (hbody : ∀ (cdv : Value) (A : Around) (outer : List Env) (s : Shared) (H : Hp) (E : XK), Room k (A.deeper (envOfC qual (defScope st) s.heap.objs.size f cdv)) →
      ∃ t, DSs (cxOf CX0 P w K mg base N qual (defScope st) f cdv A outer s H E).nox (defBody st) t ∧ ∀ ds n Q E, sp ds n Q E → t (dEnds Q) (startD N ds) n) : FnOk P w K mg base CX0 (k + 1) f fd ps (lSp K sp) := by
  refine F.ok S (fun vs H Q E ⟨c, ds, n, Q0, E0, h1, h2, h3, h4⟩ => by rw [h2.len]; exact len _ _ _ _ h3) (fun cdv A outer s H vs Q E hr h => ?_)
  obtain ⟨t, ht, hq⟩ := hbody cdv A outer s H E hr
  obtain ⟨⟨H0, O0, bg⟩, ds, n, Q0, E0, ⟨h0, h1, hcw⟩, h2, h3, h4, h5⟩ := h
  simp only at h0
  subst h0
  refine ⟨_, ht.ps, ⟨_, _, n, _, dEnds Q0, rel_start h1 hcw h2, hq ds n Q0 E0 h3, ?_⟩⟩
  refine ⟨fun env n' hn σ H' ad R => ?_, fun env n' hn => hn.elim, fun env n' hn => hn.elim, fun d n' hd v H' hb hc r => ?_, fun o n' hd p u H' hp hb hc hu r => ?_⟩
  · exact h4 _ _ hn .non H' ⟨R.base, R.bag⟩ .non
  · exact h4 _ _ hd v H' ⟨hb, hc⟩ r
  · refine h4 _ _ hd _ H' ⟨hb, hc⟩ (r.rep (cut_mono fun a o h1 h2 => ⟨fun z => h1 (.inl z), h2⟩) ?_)
    rw [cut_out (fun z => h1 p z hp)]
    exact hu
/-! ### defs that hand back a new list or dict -/
abbrev DSpF := List D → Nat → (Ob → Nat → Prop) → (EX → Nat → Prop) → Prop
def lSpF (K : PySem.W.Frag) (sp : DSpF) : Sp := fun vs H Q E => ∃ c ds n Q0 E0, (c.H0 = H ∧ (∀ a, c.O0 a → H a ≠ none) ∧ CW c n H) ∧ RepL K c.bg (cut c.O0 H) vs ds ∧ sp ds n Q0 E0 ∧
  (∀ o n', Q0 o n' → ∀ p u H', H p = none → EStp c H H' n' → H' p = some u → RepO K c.bg (cut (fun a => c.O0 a ∨ a = p) H') u o → Q (.ref p) H') ∧ ∀ x n', E0 x n' → ∀ od H', EStp c H H' n' → ExR K c.bg c.O0 H' x od → E (.ref x.C) od H'
structure CalF (P : Program) (w : World) (K : PySem.W.Frag) (mg : Str → Option Value) (base : Heap) (CX : CXT) (k : Nat) (x : Str) (ps : List Str) (sp : DSpF) : Prop where
  ex : ∃ g gd, FnOk P w K mg base CX k g gd ps (lSpF K sp) ∧ mg x = some (.ref g) ∧ PySem.W.keepIn K (.ref g) = true ∧ Binds K gd ps []
theorem CalF.mono {CX : CXT} {k j : Nat} {x : Str} {ps : List Str} {sp : DSpF} (h : CalF P w K mg base CX k x ps sp) (hk : k ≤ j) : CalF P w K mg base CX j x ps sp := by
  obtain ⟨g, gd, F, r⟩ := h.ex
  exact ⟨g, gd, F.mono hk, r⟩
def wFnF (sp : DSpF) (wa : WA) : WO := fun env n Q => wa env n fun ds n1 => sp ds n1 Q noE
theorem fnF_read {spF : DSpF} {K : PySem.W.Frag} {σ : L2.St} {H : Hp} {Q : VK} (h : lF K (wFnF spF wa) σ H Q) : tCall (lSpF K spF) [] E0 (lA K wa) σ H Q := by
  obtain ⟨c, ad, n, env, Q0, R, q0, q⟩ := h
  refine ⟨c, ad, n, env, _, R, q0, fun ds n1 q1 vs H1 e1 r1 => ?_⟩
  have R1 := R.step e1
  show lSpF K spF (vs ++ []) H1 Q E0
  rw [List.append_nil]
  refine ⟨⟨H1, Oa c ad env, c.bg⟩, ds, n1, Q0, noE, ⟨rfl, R1.oaD, fun b l eb => ?_⟩, r1, q1, fun o n2 hd p u H2 hp e2 hu r2 => ?_, fun x n2 z => z.elim⟩
  · obtain ⟨h1, h2, h3⟩ := R1.bag b l eb
    exact ⟨h1, .inl h2, .inl h3⟩
  · refine q _ _ hd p u H2 ?_ (e1.trans (e2.cx (c := c) rfl R1.bag)) hu r2
    cases z : H p with
    | none => rfl
    | some o' =>
      by_cases hb : c.isBag p
      · obtain ⟨l, eb⟩ := hb
        obtain ⟨⟨ns, q', r', m, k, h1, _⟩, _⟩ := R1.bag _ _ eb
        rw [hp] at h1; cases h1
      · rw [e1.keep p o' z hb] at hp; cases hp
theorem df_call {spF : DSpF} {k : Nat} {x : Str} {ps : List Str} {p : Pos} {e : Expr} {es : List Expr} (C : CalF X.prog X.w X.K X.mg X.base CX0 k x ps spF) (hr : Room k X.A) (ha : DA X (e :: es) wa) (hg : Gl X x := by rfl)
    (hdb : (x == ("__debug__" : Str)) = false := by decide) (he : starEach (e :: es) X.env = (false, eval e X.env) :: starEach es X.env := by rfl) (hpl : (backTo pos (starEach es X.env)).any (·.1) = false := by rfl) : DF X (.Call (.Name x p) (e :: es) [] pos) (wFnF spF wa) := by
  obtain ⟨g, gd, F, hm, hk, hb⟩ := C.ex
  exact .of (pe_call F hr hg hm hk hb .nil pass0 ha.pa hdb he hpl) fun σ H Q h => fnF_read h
theorem dokF {x qual : Str} {st : Stmt} {f : Addr} {fd : FuncData} {N ps : List Str} {k : Nat} {sp : DSpF} (F : Fun K x qual st f fd) (S : FnScope N ps (defScope st)) (len : ∀ ds n Q E, sp ds n Q E → ds.length = ps.length)
    (hbody : ∀ (cdv : Value) (A : Around) (outer : List Env) (s : Shared) (H : Hp) (E : XK), Room k (A.deeper (envOfC qual (defScope st) s.heap.objs.size f cdv)) →
      ∃ t, DSs (cxOf CX0 P w K mg base N qual (defScope st) f cdv A outer s H E).nox (defBody st) t ∧ ∀ ds n Q E, sp ds n Q E → t (dEndsF Q) (startD N ds) n) : FnOk P w K mg base CX0 (k + 1) f fd ps (lSpF K sp) := by
  refine F.ok S (fun vs H Q E ⟨c, ds, n, Q0, E0, h1, h2, h3, h4⟩ => by rw [h2.len]; exact len _ _ _ _ h3) (fun cdv A outer s H vs Q E hr h => ?_)
  obtain ⟨t, ht, hq⟩ := hbody cdv A outer s H E hr
  obtain ⟨⟨H0, O0, bg⟩, ds, n, Q0, E0, ⟨h0, h1, hcw⟩, h2, h3, h4, h5⟩ := h
  simp only at h0
  subst h0
  refine ⟨_, ht.ps, ⟨_, _, n, _, dEndsF Q0, rel_start h1 hcw h2, hq ds n Q0 E0 h3, ?_⟩⟩
  refine ⟨fun env n' hn => hn.elim, fun env n' hn => hn.elim, fun env n' hn => hn.elim, fun d n' hd => hd.elim, fun o n' hd p u H' hp hb hc hu r => ?_⟩
  exact h4 _ _ hd p u H' hp ⟨hb, hc⟩ hu r
/-! ### calls by keywords alone -/
def pickL {α : Type} (r : Nat) (ix : List Nat) (us ws : List α) : List α := if us.length = 0 ∧ ws.length = r then ix.filterMap fun i => ws[i]? else []
theorem pick_rel {r : Nat} : ∀ {ix : List Nat} {vs : List V} {us : List Value} {zs : List V} {ws : List Value}, Vals vs us → Vals zs ws → Vals (pickL r ix vs zs) (pickL r ix us ws) := by
  intro ix vs us zs ws h k
  unfold pickL
  rw [← h.length, ← k.length]
  split
  · have key : ∀ ix : List Nat, Vals (ix.filterMap fun i => zs[i]?) (ix.filterMap fun i => ws[i]?) := by
      intro ix
      induction ix with
      | nil => exact .nil
      | cons i ix ih =>
        rw [List.filterMap_cons, List.filterMap_cons]
        cases e : zs[i]? with
        | none =>
          have e2 : ws[i]? = none := List.getElem?_eq_none (by rw [← k.length]; exact List.getElem?_eq_none_iff.1 e)
          rw [e2]
          exact ih
        | some v =>
          obtain ⟨u, e2, r⟩ := k.get e
          rw [e2]
          exact .cons r ih
    exact key ix
  · exact .nil
theorem pick_rep {K : PySem.W.Frag} {bg : Option (Addr × Addr)} {H : Hp} {r : Nat} {ix : List Nat} {zs : List V} {ds : List D} (k : RepL K bg H zs ds) : RepL K bg H (pickL r ix [] zs) (pickL r ix [] ds) := by
  unfold pickL
  rw [k.len]
  by_cases h : ([] : List V).length = 0 ∧ ds.length = r
  · rw [if_pos h, if_pos (show ([] : List D).length = 0 ∧ ds.length = r from h)]
    induction ix with
    | nil => exact .nil
    | cons i ix ih =>
      rw [List.filterMap_cons, List.filterMap_cons]
      cases e : zs[i]? with
      | none =>
        have e2 : ds[i]? = none := List.getElem?_eq_none (by rw [← k.len]; exact List.getElem?_eq_none_iff.1 e)
        rw [e2]
        exact ih
      | some v =>
        obtain ⟨u, e2, r⟩ := k.get e
        rw [e2]
        exact .cons r ih
  · rw [if_neg h, if_neg (show ¬ (([] : List D).length = 0 ∧ ds.length = r) from h)]
    exact .nil
structure CalK (P : Program) (w : World) (K : PySem.W.Frag) (mg : Str → Option Value) (base : Heap) (CX : CXT) (k : Nat) (x : Str) (ps ks : List Str) (ix : List Nat) (sp : DSp) : Prop where
  ex : ∃ g gd, FnOk P w K mg base CX k g gd ps (lSp K sp) ∧ mg x = some (.ref g) ∧ PySem.W.keepIn K (.ref g) = true ∧ KBinds K gd ps ks (pickL ks.length ix) (pickL ks.length ix)
structure CalFK (P : Program) (w : World) (K : PySem.W.Frag) (mg : Str → Option Value) (base : Heap) (CX : CXT) (k : Nat) (x : Str) (ps ks : List Str) (ix : List Nat) (sp : DSpF) : Prop where
  ex : ∃ g gd, FnOk P w K mg base CX k g gd ps (lSpF K sp) ∧ mg x = some (.ref g) ∧ PySem.W.keepIn K (.ref g) = true ∧ KBinds K gd ps ks (pickL ks.length ix) (pickL ks.length ix)
theorem kb_of {gd : FuncData} {ps ks : List Str} {ix : List Nat} (hp : ps ≠ []) (h : ∀ (s : Shared) (ws : List Value), ws.length = ks.length → BindsTo s gd ⟨[], ks.zip ws⟩ (ps.zip (ix.filterMap fun i => ws[i]?))) : KBinds K gd ps ks (pickL ks.length ix) (pickL ks.length ix) := by
  refine ⟨fun s us ws _ hl => ?_, pick_rel⟩
  unfold pickL at hl ⊢
  split at hl
  · rename_i z
    rw [if_pos z]
    have : us = [] := List.length_eq_zero_iff.1 z.1
    subst this
    exact h s ws z.2
  · exact absurd (List.length_eq_zero_iff.1 hl.symm) hp
/-- one parameter, by its name -/
theorem kb_one {gd : FuncData} {p : Str} (h : ∀ (s : Shared) (a : Value), BindsTo s gd ⟨[], [(p, a)]⟩ [(p, a)]) : KBinds K gd [p] [p] (pickL [p].length [0]) (pickL [p].length [0]) := kb_of (fun z => nomatch z) fun s ws hl => by
  cases ws with
  | nil => cases hl
  | cons a ws =>
    cases ws with
    | nil => exact h s a
    | cons b ws => cases hl
structure DK (X : Cx) (kws : List Keyword) (w : WA) : Prop where
  pk : PK X kws (lA X.K w)
theorem pkImp {kws : List Keyword} {t t' : TA} (h : PK X kws t) (k : ∀ σ H Q, t' σ H Q → t σ H Q) : PK X kws t' := ⟨fun po pins s σ H Q I q => h.run po pins s σ H Q I (k _ _ _ q)⟩
theorem dk_nil : DK X [] wNil := ⟨pkImp pk_nil fun σ H Q ⟨c, ad, n, env, Q0, R, q0, q⟩ => q _ _ q0 _ _ (.refl R.bag) .nil⟩
theorem dk_cons {kws : List Keyword} {nm : Option Str} {kpos : Pos} {a : Expr} {wa : WE} {w : WA} (h : DE X a wa) (k : DK X kws w) : DK X (⟨nm, a, kpos⟩ :: kws) (wCons wa w) := ⟨pkImp (pk_cons h.pe k.pk) fun σ H Q ⟨c, ad, n, env, Q0, R, q0, q⟩ => ⟨c, ad, n, env, _, R, q0, fun d n1 q1 v H1 e1 r1 => ⟨c, ad, n1, env, _, R.step e1, q1, fun ds n2 q2 vs H2 e2 r2 => q _ _ q2 _ _ (e1.trans e2) (.cons (r1.same (e2.cut R.oaB)) r2)⟩⟩⟩
theorem pe_callK0 {CX : CXT} {k : Nat} {f : Addr} {fd : FuncData} {ps ks : List Str} {sp : Sp} {E : XK} {x : Str} {p pos : Pos} {kws : List Keyword} {tk : TA} {g : List Value → List Value → List Value} {gV : List V → List V → List V}
    (F : FnOk X.prog X.w X.K X.mg X.base CX k f fd ps sp) (hr : Room k X.A) (hg : Gl X x) (hm : X.mg x = some (.ref f)) (hk : PySem.W.keepIn X.K (.ref f) = true) (hb : KBinds X.K fd ps ks g gV) (hx : Passes CX X E)
    (hkw : PK X kws tk) (hall : (backToKw pos (keywordEach kws X.env)).all (·.1.isSome) = true := by rfl) (hks : (backToKw pos (keywordEach kws X.env)).filterMap (·.1) = ks := by rfl)
    (hdb : (x == ("__debug__" : Str)) = false := by decide)
    (hpl : ((backTo pos (starEach [] X.env)).any (·.1) || (backToKw pos (keywordEach kws X.env)).any (·.1.isNone)) = false := by rfl) :
    PE X (.Call (.Name x p) [] kws pos) (fun σ H Q => tk σ H fun zs H2 => sp (gV [] zs) H2 Q E) := by
  refine ⟨fun pins s σ H Q I h => ?_⟩
  refine wpAny_Call_Name_kw (ld_glob I hg hm ?_ hdb)
  refine PySem.W.callWith_KW0 (h₀ := X.base) I.ok.mod.kin hk hall (thn (hkw.run pos pins s σ H _ I h) fun ws s2 ⟨zs, H2, I2, rz, q2⟩ => ⟨I2.kIn, ?_⟩) hpl
  rw [hks]
  exact run_fnk F hr hb hx I2 .nil rz q2
def wFnK (r : Nat) (ix : List Nat) (sp : DSp) (wa : WA) : WE := fun env n Q => wa env n fun ds n1 => sp (pickL r ix [] ds) n1 Q noE
theorem de_callK {k : Nat} {x : Str} {ps ks : List Str} {ix : List Nat} {p : Pos} {kws : List Keyword} (C : CalK X.prog X.w X.K X.mg X.base CX0 k x ps ks ix sp) (hr : Room k X.A) (hkw : DK X kws wa) (hg : Gl X x := by rfl)
    (hall : (backToKw pos (keywordEach kws X.env)).all (·.1.isSome) = true := by rfl) (hks : (backToKw pos (keywordEach kws X.env)).filterMap (·.1) = ks := by rfl) (hdb : (x == ("__debug__" : Str)) = false := by decide)
    (hpl : ((backTo pos (starEach [] X.env)).any (·.1) || (backToKw pos (keywordEach kws X.env)).any (·.1.isNone)) = false := by rfl) : DE X (.Call (.Name x p) [] kws pos) (wFnK ks.length ix sp wa) := by
  obtain ⟨g, gd, F, hm, hk, hb⟩ := C.ex
  refine .of (pe_callK0 (E := E0) F hr hg hm hk hb pass0 hkw.pk hall hks hdb hpl) fun σ H Q ⟨c, ad, n, env, Q0, R, q0, q⟩ => ⟨c, ad, n, env, _, R, q0, fun ds n1 q1 vs H1 e1 r1 => ?_⟩
  have R1 := R.step e1
  refine ⟨⟨H1, Oa c ad env, c.bg⟩, _, n1, Q0, noE, ⟨rfl, R1.oaD, fun b l eb => ?_⟩, pick_rep r1, q1, fun d n2 hd v H2 e2 r2 => ?_, fun x n2 z => z.elim⟩
  · obtain ⟨h1, h2, h3⟩ := R1.bag b l eb
    exact ⟨h1, .inl h2, .inl h3⟩
  · exact q _ _ hd _ _ (e1.trans (e2.cx (c := c) rfl R1.bag)) r2
def wFnFK (r : Nat) (ix : List Nat) (sp : DSpF) (wa : WA) : WO := fun env n Q => wa env n fun ds n1 => sp (pickL r ix [] ds) n1 Q noE
theorem df_callK {spF : DSpF} {k : Nat} {x : Str} {ps ks : List Str} {ix : List Nat} {p : Pos} {kws : List Keyword} (C : CalFK X.prog X.w X.K X.mg X.base CX0 k x ps ks ix spF) (hr : Room k X.A) (hkw : DK X kws wa) (hg : Gl X x := by rfl)
    (hall : (backToKw pos (keywordEach kws X.env)).all (·.1.isSome) = true := by rfl) (hks : (backToKw pos (keywordEach kws X.env)).filterMap (·.1) = ks := by rfl) (hdb : (x == ("__debug__" : Str)) = false := by decide)
    (hpl : ((backTo pos (starEach [] X.env)).any (·.1) || (backToKw pos (keywordEach kws X.env)).any (·.1.isNone)) = false := by rfl) : DF X (.Call (.Name x p) [] kws pos) (wFnFK ks.length ix spF wa) := by
  obtain ⟨g, gd, F, hm, hk, hb⟩ := C.ex
  refine .of (pe_callK0 (E := E0) F hr hg hm hk hb pass0 hkw.pk hall hks hdb hpl) fun σ H Q ⟨c, ad, n, env, Q0, R, q0, q⟩ => ⟨c, ad, n, env, _, R, q0, fun ds n1 q1 vs H1 e1 r1 => ?_⟩
  have R1 := R.step e1
  refine ⟨⟨H1, Oa c ad env, c.bg⟩, _, n1, Q0, noE, ⟨rfl, R1.oaD, fun b l eb => ?_⟩, pick_rep r1, q1, fun o n2 hd p u H2 hp e2 hu r2 => ?_, fun x n2 z => z.elim⟩
  · obtain ⟨h1, h2, h3⟩ := R1.bag b l eb
    exact ⟨h1, .inl h2, .inl h3⟩
  · refine q _ _ hd p u H2 ?_ (e1.trans (e2.cx (c := c) rfl R1.bag)) hu r2
    cases z : H p with
    | none => rfl
    | some o' =>
      by_cases hb : c.isBag p
      · obtain ⟨l, eb⟩ := hb
        obtain ⟨⟨ns, q', r', m, k, h1, _⟩, _⟩ := R1.bag _ _ eb
        rw [hp] at h1; cases h1
      · rw [e1.keep p o' z hb] at hp; cases hp
end
end Dv

set_option Elab.async false
set_option linter.all false
set_option maxRecDepth 100000
set_option maxHeartbeats 4000000
/-! Dv9: small words for readings -/
namespace Dv
open PySem PySem.Spec PyProof.Rows L2
theorem hu64 {A : Around} {k : Nat} (hr : Room k A) : A.units + 64 < cLine := hr.units
theorem hu65 {A : Around} {k : Nat} (hr : Room k A) : A.units + 65 < cLine := by have := hr.un; omega
/-! ### readings that reckon by themselves -/
def asBl (d : D) (Q : Bool → Prop) : Prop := match d with
  | .bl k => Q k
  | _ => False
def asInt (d : D) (Q : Int → Prop) : Prop := match d with
  | .int k => Q k
  | _ => False
def asSome {α : Type} (o : Option α) (Q : α → Prop) : Prop := match o with
  | some x => Q x
  | none => False
def asTup (d : D) (Q : List D → Prop) : Prop := match d with
  | .tup k => Q k
  | _ => False
def atVal (env : En) (i : Nat) (Q : D → Prop) : Prop := match env[i]? with
  | some (.val d) => Q d
  | _ => False
def atGet (env : En) (i : Nat) (Q : D → Prop) : Prop := match env[i]? with
  | some (.val d) => Q d
  | some (.own o) => Q o.d
  | _ => False
def atOb (env : En) (i : Nat) (Q : Ob → Prop) : Prop := match env[i]? with
  | some (.own o) => Q o
  | _ => False
def asLst (o : Ob) (Q : List D → Prop) : Prop := match o with
  | .lst xs => Q xs
  | _ => False
section
variable {env : En} {i n : Nat} {Q : D → Nat → Prop} {Qb : Bool → Nat → Prop} {wa wb wc we : WE} {wt wu : WT} {w : WA}
theorem ex_bl {d : D} {Q : Bool → Prop} : (∃ k, d = .bl k ∧ Q k) = asBl d Q := propext ⟨fun ⟨k, e, h⟩ => by subst e; exact h, fun h => by unfold asBl at h; split at h; exact ⟨_, rfl, h⟩; exact h.elim⟩
theorem ex_int {d : D} {Q : Int → Prop} : (∃ k, d = .int k ∧ Q k) = asInt d Q := propext ⟨fun ⟨k, e, h⟩ => by subst e; exact h, fun h => by unfold asInt at h; split at h; exact ⟨_, rfl, h⟩; exact h.elim⟩
theorem ex_tup {d : D} {Q : List D → Prop} : (∃ k, d = .tup k ∧ Q k) = asTup d Q := propext ⟨fun ⟨k, e, h⟩ => by subst e; exact h, fun h => by unfold asTup at h; split at h; exact ⟨_, rfl, h⟩; exact h.elim⟩
theorem ex_some {α : Type} {o : Option α} {Q : α → Prop} : (∃ k, o = some k ∧ Q k) = asSome o Q := propext ⟨fun ⟨k, e, h⟩ => by subst e; exact h, fun h => by cases o with | none => exact h.elim | some x => exact ⟨x, rfl, h⟩⟩
theorem ex_val {Q : D → Prop} : (∃ d, env[i]? = some (.val d) ∧ Q d) = atVal env i Q := propext ⟨fun ⟨k, e, h⟩ => by unfold atVal; rw [e]; exact h, fun h => by unfold atVal at h; split at h; exact ⟨_, by assumption, h⟩; exact h.elim⟩
theorem ex_get {Q : D → Prop} : (∃ s d, env[i]? = some s ∧ s.get = some d ∧ Q d) = atGet env i Q := propext ⟨fun ⟨s, d, e, g, h⟩ => by unfold atGet; rw [e]; cases s <;> cases g <;> exact h, fun h => by
  unfold atGet at h
  split at h
  · exact ⟨_, _, by assumption, rfl, h⟩
  · exact ⟨_, _, by assumption, rfl, h⟩
  · exact h.elim⟩
theorem ex_ob {Q : Ob → Prop} : (∃ o, env[i]? = some (.own o) ∧ Q o) = atOb env i Q := propext ⟨fun ⟨k, e, h⟩ => by unfold atOb; rw [e]; exact h, fun h => by unfold atOb at h; split at h; exact ⟨_, by assumption, h⟩; exact h.elim⟩
theorem ex_lst {Q : List D → Prop} : (∃ xs, env[i]? = some (.own (.lst xs)) ∧ Q xs) = atOb env i fun o => asLst o Q := propext ⟨fun ⟨k, e, h⟩ => by unfold atOb; rw [e]; exact h, fun h => by
  unfold atOb at h
  split at h
  · rename_i o e
    cases o with
    | lst xs => exact ⟨xs, e, h⟩
    | dk k => exact h.elim
    | dt k => exact h.elim
  · exact h.elim⟩
theorem s_var : wVar i env n Q = atVal env i fun d => Q d n := ex_val
theorem s_varb : wVarB i env n Q = atGet env i fun d => Q d n := ex_get
theorem s_test : wTest wa env n Qb = wa env n fun d n1 => asBl d fun k => Qb k n1 := by unfold wTest; simp only [ex_bl]
theorem s_tru : wTru wa env n Qb = wa env n fun d n1 => asSome d.tru fun k => Qb k n1 := by unfold wTru; simp only [ex_some]
theorem s_andv : wAndV wa wb env n Q = wa env n fun d n1 => asBl d fun k => if k = true then wb env n1 Q else Q (.bl false) n1 := by unfold wAndV; simp only [ex_bl]
theorem s_orv : wOrV wa wb env n Q = wa env n fun d n1 => asBl d fun k => if k = true then Q (.bl true) n1 else wb env n1 Q := by unfold wOrV; simp only [ex_bl]
theorem s_notv : wNotV wa env n Q = wa env n fun d n1 => asSome d.tru fun k => Q (.bl (!k)) n1 := by unfold wNotV; simp only [ex_some]
theorem s_chain {Rd Rd' : RR} : wChain Rd Rd' wa wb wc env n Q = wa env n fun d1 n1 => wb env n1 fun d2 n2 => Rd d1 d2 fun d => asBl d fun k => if k = true then wc env n2 fun d3 n3 => Rd' d2 d3 fun d => Q d n3 else Q (.bl false) n2 := by unfold wChain; simp only [ex_bl]
theorem s_part {Q : Option Int → Nat → Prop} : wPart wa env n Q = wa env n fun d n1 => asInt d fun i => Q (some i) n1 := by unfold wPart; simp only [ex_int]
theorem s_list {Q : Ob → Nat → Prop} : rListD (wCons wa wNil) env n Q = wa env n fun d n1 => asSome d.items fun xs => Q (.lst xs) n1 := by
  unfold rListD wCons wNil
  simp only [← ex_some]
  congr 1
  funext d n1
  exact propext ⟨fun ⟨d', xs, e, h1, h2⟩ => by cases e; exact ⟨xs, h1, h2⟩, fun ⟨xs, h1, h2⟩ => ⟨d, xs, rfl, h1, h2⟩⟩
theorem s_len {Q : D → Prop} {d : D} : rLenD [d] Q = asSome d.len fun n => Q (.int (n : Nat)) := ex_some
theorem s_tuple {Q : D → Prop} {d : D} : rTupleD [d] Q = asSome d.items fun xs => Q (.tup xs) := ex_some
theorem s_is {Q : D → Prop} {d : D} {T : String} : rIsD [d, .ty T] Q = asSome (isT d T) fun b => Q (.bl b) := ex_some
theorem s_ixl {Q : D → Prop} {xs : List D} {i : Int} : rIxD (.lst xs) (.int i) Q = asSome (atI xs i) Q := ex_some
theorem s_ixt {Q : D → Prop} {xs : List D} {i : Int} : rIxD (.tup xs) (.int i) Q = asSome (atI xs i) Q := ex_some
theorem s_ixs {Q : D → Prop} {s : Str} {i : Int} : rIxD (.str s) (.int i) Q = asSome (atI s.cps.toList i) fun c => Q (.str ⟨#[c]⟩) := ex_some
theorem s_seqi {Q : List D → Nat → Prop} : wSeqI we env n Q = we env n fun d n1 => asSome d.seq fun ys => Q ys n1 := by unfold wSeqI; simp only [ex_some]
theorem s_gcons {g : WGs} {d : D} {ds : List D} {Q : En → Prop} : gsName i g (d :: ds) env Q = g ds (env.set i (.val d)) Q := propext ⟨fun ⟨d', r, e, h⟩ => by cases e; exact h, fun h => ⟨d, ds, rfl, h⟩⟩
theorem s_gnil {Q : En → Prop} : gsNil [] env Q = Q env := propext ⟨fun h => h.2, fun h => ⟨rfl, h⟩⟩
theorem s_gtup {k : Nat} {g : WGs} {ds : List D} {Q : En → Prop} : gTp k g (.tup ds) env Q = (ds.length = k ∧ g ds env Q) := propext ⟨fun ⟨ds', e, h⟩ => by cases e; exact h, fun h => ⟨ds, rfl, h⟩⟩
theorem s_append {D : DEnds} : wAppend i we D env n = atOb env i fun o => asLst o fun xs => we env n fun d n1 => xs.length < sizeLine ∧ D.nx (env.set i (.own (.lst (xs ++ [d])))) n1 := ex_lst
theorem s_reverse {D : DEnds} : wReverse i D env n = atOb env i fun o => asLst o fun xs => D.nx (env.set i (.own (.lst xs.reverse))) n := ex_lst
theorem s_retof {D : DEnds} : wRetOF i D env n = atOb env i fun o => D.rf o n := ex_ob
theorem s_reto {D : DEnds} : wRetO i D env n = atGet env i fun d => D.rt d n := ex_get
theorem asBl_bl {k : Bool} {Q : Bool → Prop} : asBl (.bl k) Q = Q k := rfl
theorem asInt_int {k : Int} {Q : Int → Prop} : asInt (.int k) Q = Q k := rfl
theorem asTup_tup {k : List D} {Q : List D → Prop} : asTup (.tup k) Q = Q k := rfl
theorem asSome_some {α : Type} {k : α} {Q : α → Prop} : asSome (some k) Q = Q k := rfl
theorem asLst_lst {k : List D} {Q : List D → Prop} : asLst (.lst k) Q = Q k := rfl
theorem atVal_0 {d : D} {env : En} {Q : D → Prop} : atVal (.val d :: env) 0 Q = Q d := rfl
theorem atVal_s {s : SD} {env : En} {Q : D → Prop} {i : Nat} : atVal (s :: env) (i + 1) Q = atVal env i Q := rfl
theorem atGet_0 {d : D} {env : En} {Q : D → Prop} : atGet (.val d :: env) 0 Q = Q d := rfl
theorem atGet_o {o : Ob} {env : En} {Q : D → Prop} : atGet (.own o :: env) 0 Q = Q o.d := rfl
theorem atGet_s {s : SD} {env : En} {Q : D → Prop} {i : Nat} : atGet (s :: env) (i + 1) Q = atGet env i Q := rfl
theorem atOb_o {o : Ob} {env : En} {Q : Ob → Prop} : atOb (.own o :: env) 0 Q = Q o := rfl
theorem atOb_s {s : SD} {env : En} {Q : Ob → Prop} {i : Nat} : atOb (s :: env) (i + 1) Q = atOb env i Q := rfl
theorem s_start0 : startD [] [] = [] := rfl
theorem s_startU {x : Str} {N : List Str} : startD (x :: N) [] = .un :: startD N [] := by
  unfold startD
  simp [List.replicate_succ]
theorem s_startV {x : Str} {N : List Str} {d : D} {ds : List D} : startD (x :: N) (d :: ds) = .val d :: startD N ds := by
  unfold startD
  simp
theorem s_add {i j : Int} {Q : D → Prop} : rAddD (.int i) (.int j) Q = Q (.int (i + j)) := rfl
theorem s_addS {i j : Str} {Q : D → Prop} : rAddD (.str i) (.str j) Q = (i.length + j.length ≤ sizeLine ∧ Q (.str (i ++ j))) := rfl
theorem s_addL {i j : List D} {Q : D → Prop} : rAddD (.lst i) (.lst j) Q = (i.length + j.length ≤ sizeLine ∧ Q (.lst (i ++ j))) := rfl
theorem s_addT {i j : List D} {Q : D → Prop} : rAddD (.tup i) (.tup j) Q = (i.length + j.length ≤ sizeLine ∧ Q (.tup (i ++ j))) := rfl
theorem s_i2 {C : Int → Int → Prop} {f : Int → Int → D} {i j : Int} {Q : D → Prop} : rI2 C f (.int i) (.int j) Q = (C i j ∧ Q (f i j)) := rfl
theorem s_ordI {f : Int → Int → Bool} {g : Str → Str → Bool} {i j : Int} {Q : D → Prop} : rOrd f g (.int i) (.int j) Q = Q (.bl (f i j)) := rfl
theorem s_ordS {f : Int → Int → Bool} {g : Str → Str → Bool} {i j : Str} {Q : D → Prop} : rOrd f g (.str i) (.str j) Q = Q (.bl (g i j)) := rfl
theorem s_isN {neg : Bool} {d : D} {Q : D → Prop} : rIsN neg d .non Q = Q (.bl (if neg then !d.isNon else d.isNon)) := rfl
theorem s_mulI {i j : Int} {Q : D → Prop} : rMulD (.int i) (.int j) Q = (CMulW i j ∧ Q (.int (i * j))) := rfl
theorem s_mulS {i : Str} {j : Int} {Q : D → Prop} : rMulD (.str i) (.int j) Q = ((i.length ≤ 4096 ∧ -4096 ≤ j ∧ j ≤ 4096) ∧ Q (.str (Txt.mul i j))) := rfl
theorem s_mulL {i : List D} {j : Int} {Q : D → Prop} : rMulD (.lst i) (.int j) Q = ((0 ≤ j ∧ j < 2 ^ 63 ∧ i.length * j.toNat ≤ sizeLine) ∧ Q (.lst (List.replicate j.toNat i).flatten)) := rfl
theorem s_strip {i j : Str} {Q : D → Prop} : rStripD (.str i) (.str j) Q = Q (.str (Txt.stripChars i j)) := rfl
theorem s_inS {neg : Bool} {s t : Str} {Q : D → Prop} : rInD neg (.str s) (.str t) Q = Q (.bl (if neg then !inS s t else inS s t)) := propext ⟨fun ⟨_, e, h⟩ => by cases e; exact h, fun h => ⟨_, rfl, h⟩⟩
theorem s_neg {i : Int} {Q : D → Prop} : rNegD (.int i) Q = Q (.int (-i)) := rfl
theorem s_abs {f : Int → Int} {i : Int} {Q : D → Prop} : rInt1 f [.int i] Q = Q (.int (f i)) := rfl
theorem s_intI {i : Int} {Q : D → Prop} : rIntD [.int i] Q = Q (.int i) := rfl
theorem s_intB {i : Bool} {Q : D → Prop} : rIntD [.bl i] Q = Q (.int (if i then 1 else 0)) := rfl
theorem s_slL {xs : List D} {lo hi : Option Int} {Q : D → Prop} : rSlD (.lst xs) lo hi Q = Q (.lst (cutL xs lo hi)) := rfl
theorem s_slT {xs : List D} {lo hi : Option Int} {Q : D → Prop} : rSlD (.tup xs) lo hi Q = Q (.tup (cutL xs lo hi)) := rfl
theorem s_slS {s : Str} {lo hi : Option Int} {Q : D → Prop} : rSlD (.str s) lo hi Q = Q (.str (cutS s lo hi)) := rfl
theorem isStr_str {s : Str} : (D.str s).isStr = true := rfl
theorem ite_tt {A B : Prop} : (if true = true then A else B) = A := if_pos rfl
theorem ite_ff {A B : Prop} : (if false = true then A else B) = B := if_neg Bool.false_ne_true
def D.isInt : D → Bool
  | .int _ | .bl _ => true
  | _ => false
def D.isBool : D → Bool
  | .bl _ => true
  | _ => false
def D.isLst : D → Bool
  | .lst _ => true
  | _ => false
def D.isTup : D → Bool
  | .tup _ => true
  | _ => false
def D.ty? (d : D) : Bool := d.tyName.isSome
theorem kit_NoneType_str : kitB "NoneType" "str" = some false := by decide +kernel
theorem kit_NoneType_int : kitB "NoneType" "int" = some false := by decide +kernel
theorem kit_NoneType_bool : kitB "NoneType" "bool" = some false := by decide +kernel
theorem kit_NoneType_list : kitB "NoneType" "list" = some false := by decide +kernel
theorem kit_NoneType_tuple : kitB "NoneType" "tuple" = some false := by decide +kernel
theorem kit_bool_str : kitB "bool" "str" = some false := by decide +kernel
theorem kit_bool_int : kitB "bool" "int" = some true := by decide +kernel
theorem kit_bool_bool : kitB "bool" "bool" = some true := by decide +kernel
theorem kit_bool_list : kitB "bool" "list" = some false := by decide +kernel
theorem kit_bool_tuple : kitB "bool" "tuple" = some false := by decide +kernel
theorem kit_int_str : kitB "int" "str" = some false := by decide +kernel
theorem kit_int_int : kitB "int" "int" = some true := by decide +kernel
theorem kit_int_bool : kitB "int" "bool" = some false := by decide +kernel
theorem kit_int_list : kitB "int" "list" = some false := by decide +kernel
theorem kit_int_tuple : kitB "int" "tuple" = some false := by decide +kernel
theorem kit_str_str : kitB "str" "str" = some true := by decide +kernel
theorem kit_str_int : kitB "str" "int" = some false := by decide +kernel
theorem kit_str_bool : kitB "str" "bool" = some false := by decide +kernel
theorem kit_str_list : kitB "str" "list" = some false := by decide +kernel
theorem kit_str_tuple : kitB "str" "tuple" = some false := by decide +kernel
theorem kit_list_str : kitB "list" "str" = some false := by decide +kernel
theorem kit_list_int : kitB "list" "int" = some false := by decide +kernel
theorem kit_list_bool : kitB "list" "bool" = some false := by decide +kernel
theorem kit_list_list : kitB "list" "list" = some true := by decide +kernel
theorem kit_list_tuple : kitB "list" "tuple" = some false := by decide +kernel
theorem kit_tuple_str : kitB "tuple" "str" = some false := by decide +kernel
theorem kit_tuple_int : kitB "tuple" "int" = some false := by decide +kernel
theorem kit_tuple_bool : kitB "tuple" "bool" = some false := by decide +kernel
theorem kit_tuple_list : kitB "tuple" "list" = some false := by decide +kernel
theorem kit_tuple_tuple : kitB "tuple" "tuple" = some true := by decide +kernel
theorem kit_dict_str : kitB "dict" "str" = some false := by decide +kernel
theorem kit_dict_int : kitB "dict" "int" = some false := by decide +kernel
theorem kit_dict_bool : kitB "dict" "bool" = some false := by decide +kernel
theorem kit_dict_list : kitB "dict" "list" = some false := by decide +kernel
theorem kit_dict_tuple : kitB "dict" "tuple" = some false := by decide +kernel
theorem isT_str {d : D} (h : d.ty? = true) : isT d "str" = some d.isStr := by
  cases d with
  | non => exact kit_NoneType_str
  | bl b => exact kit_bool_str
  | int i => exact kit_int_str
  | str s => exact kit_str_str
  | lst xs => exact kit_list_str
  | tup xs => exact kit_tuple_str
  | dk k => exact kit_dict_str
  | dt k => exact kit_dict_str
  | ty n => exact absurd h Bool.false_ne_true
  | ref a => exact absurd h Bool.false_ne_true
  | bag => exact absurd h Bool.false_ne_true
  | ins C fs => exact absurd h Bool.false_ne_true
theorem isT_int {d : D} (h : d.ty? = true) : isT d "int" = some d.isInt := by
  cases d with
  | non => exact kit_NoneType_int
  | bl b => exact kit_bool_int
  | int i => exact kit_int_int
  | str s => exact kit_str_int
  | lst xs => exact kit_list_int
  | tup xs => exact kit_tuple_int
  | dk k => exact kit_dict_int
  | dt k => exact kit_dict_int
  | ty n => exact absurd h Bool.false_ne_true
  | ref a => exact absurd h Bool.false_ne_true
  | bag => exact absurd h Bool.false_ne_true
  | ins C fs => exact absurd h Bool.false_ne_true
theorem isT_bool {d : D} (h : d.ty? = true) : isT d "bool" = some d.isBool := by
  cases d with
  | non => exact kit_NoneType_bool
  | bl b => exact kit_bool_bool
  | int i => exact kit_int_bool
  | str s => exact kit_str_bool
  | lst xs => exact kit_list_bool
  | tup xs => exact kit_tuple_bool
  | dk k => exact kit_dict_bool
  | dt k => exact kit_dict_bool
  | ty n => exact absurd h Bool.false_ne_true
  | ref a => exact absurd h Bool.false_ne_true
  | bag => exact absurd h Bool.false_ne_true
  | ins C fs => exact absurd h Bool.false_ne_true
theorem isT_list {d : D} (h : d.ty? = true) : isT d "list" = some d.isLst := by
  cases d with
  | non => exact kit_NoneType_list
  | bl b => exact kit_bool_list
  | int i => exact kit_int_list
  | str s => exact kit_str_list
  | lst xs => exact kit_list_list
  | tup xs => exact kit_tuple_list
  | dk k => exact kit_dict_list
  | dt k => exact kit_dict_list
  | ty n => exact absurd h Bool.false_ne_true
  | ref a => exact absurd h Bool.false_ne_true
  | bag => exact absurd h Bool.false_ne_true
  | ins C fs => exact absurd h Bool.false_ne_true
theorem isT_tuple {d : D} (h : d.ty? = true) : isT d "tuple" = some d.isTup := by
  cases d with
  | non => exact kit_NoneType_tuple
  | bl b => exact kit_bool_tuple
  | int i => exact kit_int_tuple
  | str s => exact kit_str_tuple
  | lst xs => exact kit_list_tuple
  | tup xs => exact kit_tuple_tuple
  | dk k => exact kit_dict_tuple
  | dt k => exact kit_dict_tuple
  | ty n => exact absurd h Bool.false_ne_true
  | ref a => exact absurd h Bool.false_ne_true
  | bag => exact absurd h Bool.false_ne_true
  | ins C fs => exact absurd h Bool.false_ne_true
theorem s_isTs {Q : D → Prop} {d : D} (h : d.ty? = true) : rIsTD [d, .tup [.ty "list", .ty "tuple"]] Q = Q (.bl (d.isLst || d.isTup)) := by
  have e : isTs d ["list", "tuple"] = some (d.isLst || d.isTup) := by
    unfold isTs isTs isTs
    rw [isT_list h, isT_tuple h]
    simp
  refine propext ⟨fun ⟨Ts, b, h1, h2, h3, q⟩ => ?_, fun q => ⟨_, _, rfl, h, e, q⟩⟩
  cases h1
  rw [e] at h3
  cases h3
  exact q
/-- == of flat values -/
theorem eqv_str {s t : Str} : (D.str s).eqv (.str t) = decide (s = t) := by
  show (s == t) = _
  first | rfl | exact Bool.beq_eq_decide_eq _ _
theorem eqv_int {s t : Int} : (D.int s).eqv (.int t) = decide (s = t) := by
  show (s == t) = _
  first | rfl | exact Bool.beq_eq_decide_eq _ _
theorem eqv_bl {s t : Bool} : (D.bl s).eqv (.bl t) = decide (s = t) := by
  show (s == t) = _
  first | rfl | exact Bool.beq_eq_decide_eq _ _
theorem s_eqS {s t : Str} {neg : Bool} {Q : D → Prop} : Dv.rEqD neg (.str s) (.str t) Q = Q (.bl (if neg then !decide (s = t) else decide (s = t))) := by
  unfold Dv.rEqD
  rw [eqv_str]
  exact propext ⟨fun h => h.2, fun h => ⟨⟨rfl, rfl, Nat.zero_le _, Nat.zero_le _⟩, h⟩⟩
theorem s_eqI {s t : Int} {neg : Bool} {Q : D → Prop} : Dv.rEqD neg (.int s) (.int t) Q = Q (.bl (if neg then !decide (s = t) else decide (s = t))) := by
  unfold Dv.rEqD
  rw [eqv_int]
  exact propext ⟨fun h => h.2, fun h => ⟨⟨rfl, rfl, Nat.zero_le _, Nat.zero_le _⟩, h⟩⟩
theorem s_eqB {s t : Bool} {neg : Bool} {Q : D → Prop} : Dv.rEqD neg (.bl s) (.bl t) Q = Q (.bl (if neg then !decide (s = t) else decide (s = t))) := by
  unfold Dv.rEqD
  rw [eqv_bl]
  exact propext ⟨fun h => h.2, fun h => ⟨⟨rfl, rfl, Nat.zero_le _, Nat.zero_le _⟩, h⟩⟩
theorem s_ifand {Q : D → Nat → Prop} {b c : Bool} {n : Nat} : (if b = true then Q (.bl c) n else Q (.bl false) n) = Q (.bl (b && c)) n := by cases b <;> simp
theorem s_ifor {Q : D → Nat → Prop} {b c : Bool} {n : Nat} : (if b = true then Q (.bl true) n else Q (.bl c) n) = Q (.bl (b || c)) n := by cases b <;> simp
end
end Dv

set_option Elab.async false
set_option linter.all false
set_option maxRecDepth 100000
set_option maxHeartbeats 4000000
/-! sorted(xs) of texts, of tuples of an int and a text, any number of them -/
namespace So
open PySem PySem.Spec PySem.W PyProof.Rows L2
theorem each_str {us : List Value} : ∀ {zs : List Str}, Vals (zs.map V.str) us → EachIs (fun v b => ∃ t, v = Value.str b t) us zs := by
  intro zs
  induction zs generalizing us with
  | nil => intro h; cases h; exact .nil
  | cons z zs ih =>
    intro h
    cases h with
    | cons r h => exact .cons r (ih h)
theorem vals_str {us : List Value} : ∀ {zs : List Str}, EachIs (fun v b => ∃ t, v = Value.str b t) us zs → Vals (zs.map V.str) us := by
  intro zs
  induction zs generalizing us with
  | nil => intro h; cases h; exact .nil
  | cons z zs ih =>
    intro h
    cases h with
    | cons r h => exact .cons r (ih h)
def leStr : Str → Str → Bool := dataLe false PyData.str
def rSortedStr (K : PySem.W.Frag) : List V → Hp → VK → Prop := fun vs H Q => ∃ (a : Addr) (zs : List Str), vs = [V.ref a] ∧ SqL K H a (zs.map V.str) ∧
  ∀ p, H p = none → Q (.ref p) (upd H p (.lst ((zs.mergeSort leStr).map V.str)))
theorem cr_sortedStr {X : Cx} (hu : X.A.units + 2 < cLine) : CallR X (.builtin "sorted") (rSortedStr X.K) := by
  intro pins s σ H vs us Q I r h
  obtain ⟨a, zs, rfl, hs, q⟩ := h
  obtain ⟨its, rv, hl, hz⟩ := I.list hs
  rw [Vals.ref1 r]
  have ei := each_str rv
  refine sorted_data (R := fun v b => ∃ t, v = Value.str b t) (enc := PyData.str) hl.isList ei (ei.mono fun v b ⟨t, e⟩ => ⟨[], by subst e; exact .str _ _⟩) (AllAlike.of fun b b' => by simp [alike]) (Sortable.others fun b => ⟨(fun z => by cases z), (fun xs z => by cases z)⟩) (by rw [List.length_map] at hz; exact hz) (fun b _ => hu) fun out h1 h2 => ?_
  obtain ⟨ep, he'⟩ := PyProof.Rows.sortedAll_at s.heap its out.toArray
  have hlen : ((zs.mergeSort leStr).map V.str).length ≤ sizeLine := by
    rw [List.length_map, List.length_mergeSort]
    rw [List.length_map] at hz
    exact hz
  exact ⟨.ref _, upd H (s.heap.objs.size + 1) (.lst ((zs.mergeSort leStr).map V.str)), I.laid (t' := s.toks) (fun _ _ => PyProof.Rows.sortedAll_old) (Nat.le_succ _) ⟨hlen, out, ep, vals_str h2, he'⟩, rfl, q _ (I.hok.fresh (Nat.le_succ _))⟩
/-! ### tuples of an int and a text -/
def encP (p : Int × Str) : PyData := .tuple [.int p.1, .str p.2]
def leP : Int × Str → Int × Str → Bool := dataLe false encP
/-- the objects ts are tuples of an int and a text -/
def IsAt (H : Hp) : List Addr → List (Int × Str) → Prop
  | r :: rs, p :: row => H r = some (.tup [.int p.1, .str p.2]) ∧ IsAt H rs row
  | [], [] => True
  | _, _ => False
theorem each_tup {H : Hp} : ∀ {us : List Value} {ts : List Addr} {row : List (Int × Str)}, Vals (ts.map V.ref) us → IsAt H ts row → EachIs (fun v b => ∃ r, v = Value.ref r ∧ H r = some (.tup [.int b.1, .str b.2])) us row
  | us, [], [], h, _ => by cases h; exact .nil
  | us, t :: ts, p :: row, h, k => by
    cases h with
    | cons r h => exact .cons ⟨t, r, k.1⟩ (each_tup h k.2)
  | _, [], _ :: _, _, k => k.elim
  | _, _ :: _, [], _, k => k.elim
theorem tup_each {H : Hp} : ∀ {us : List Value} {row : List (Int × Str)}, EachIs (fun v b => ∃ r, v = Value.ref r ∧ H r = some (.tup [.int b.1, .str b.2])) us row → ∃ ts : List Addr, Vals (ts.map V.ref) us ∧ IsAt H ts row
  | _, _, .nil => ⟨[], .nil, trivial⟩
  | _, _, .cons ⟨r, e, k⟩ h => by
    obtain ⟨ts, h1, h2⟩ := tup_each h
    exact ⟨r :: ts, .cons e h1, k, h2⟩
theorem IsAt.len {H : Hp} : ∀ {rs : List Addr} {row : List (Int × Str)}, IsAt H rs row → rs.length = row.length
  | _ :: _, _ :: _, h => congrArg (· + 1) (IsAt.len h.2)
  | [], [], _ => rfl
  | [], _ :: _, h => h.elim
  | _ :: _, [], h => h.elim
def rSortedTup (K : PySem.W.Frag) : List V → Hp → VK → Prop := fun vs H Q => ∃ (a : Addr) (ts : List Addr) (row : List (Int × Str)), vs = [V.ref a] ∧ SqL K H a (ts.map V.ref) ∧ IsAt H ts row ∧
  ∀ p ts', H p = none → IsAt H ts' (row.mergeSort leP) → Q (.ref p) (upd H p (.lst (ts'.map V.ref)))
theorem cr_sortedTup {X : Cx} (hu : X.A.units + 3 < cLine) : CallR X (.builtin "sorted") (rSortedTup X.K) := by
  intro pins s σ H vs us Q I r h
  obtain ⟨a, ts, row, rfl, hs, hk, q⟩ := h
  obtain ⟨its, rv, hl, hz⟩ := I.list hs
  rw [Vals.ref1 r]
  have hlen := hk.len
  have ei := each_tup rv hk
  have er : EachIs (fun v b => ∃ as, Reads s.heap v (encP b) as) its row := ei.mono fun v b hv => by
    obtain ⟨r, e, k⟩ := hv
    subst e
    obtain ⟨_, its2, r2, o, ho, hc, n, hd⟩ := I.hok _ _ k
    obtain ⟨u1, u2, rfl, ri, rj⟩ := vals2 r2
    obtain ⟨t1, rfl⟩ := ri
    obtain ⟨t2, rfl⟩ := rj
    exact ⟨_, .tuple ho hc hd (.cons (.int _ _) (.cons (.str _ _) .nil))⟩
  refine sorted_data (R := fun v b => ∃ r, v = Value.ref r ∧ H r = some (.tup [.int b.1, .str b.2])) (enc := encP) hl.isList ei er (AllAlike.of fun b b' => by simp [encP, alike, alikeAll]) (Sortable.tuples fun b => ⟨_, _, rfl⟩) (by rw [List.length_map] at hz; omega) (fun b _ => show X.A.units + 2 + 1 < cLine from hu) fun out h1 h2 => ?_
  · obtain ⟨ts', h3, h4⟩ := tup_each h2
    obtain ⟨ep, he'⟩ := PyProof.Rows.sortedAll_at s.heap its out.toArray
    have hlen' : (ts'.map V.ref).length ≤ sizeLine := by
      rw [List.length_map, h4.len, List.length_mergeSort, ← hlen]
      rw [List.length_map] at hz
      exact hz
    exact ⟨.ref _, upd H (s.heap.objs.size + 1) (.lst (ts'.map V.ref)), I.laid (t' := s.toks) (fun _ _ => PyProof.Rows.sortedAll_old) (Nat.le_succ _) ⟨hlen', out, ep, h3, he'⟩, rfl, q _ _ (I.hok.fresh (Nat.le_succ _)) h4⟩
/-- the order of the tuples in plain words -/
theorem leP_iff (p q : Int × Str) : leP p q = true ↔ (p.1 < q.1 ∨ (p.1 = q.1 ∧ p.2.cps.toList ≤ q.2.cps.toList)) := by
  show (!dataLt (encP q) (encP p)) = true ↔ _
  unfold encP
  rw [dataLt_pair (by simp [alike]) (by simp [alike]), Bool.not_eq_true']
  have e1 : PyData.eqv (.int q.1) (.int p.1) = (q.1 == p.1) := by simp [PyData.eqv]
  have e2 : PyData.eqv (.str q.2) (.str p.2) = (q.2 == p.2) := by simp [PyData.eqv]
  rw [e1, e2, dataLt_int, dataLt_str]
  by_cases h : q.1 = p.1
  · rw [if_pos (by simp [h])]
    by_cases g : q.2 = p.2
    · rw [if_pos (by simp [g])]
      exact ⟨fun _ => .inr ⟨h.symm, by rw [g]; exact List.le_refl _⟩, fun _ => rfl⟩
    · rw [if_neg (by simp [g])]
      refine ⟨fun z => .inr ⟨h.symm, List.not_lt.1 (of_decide_eq_false z)⟩, fun z => decide_eq_false (List.not_lt.2 ?_)⟩
      rcases z with z | z
      · omega
      · exact z.2
  · rw [if_neg (by simp [h])]
    refine ⟨fun z => .inl (by have := of_decide_eq_false z; omega), fun z => decide_eq_false ?_⟩
    rcases z with z | z
    · omega
    · exact absurd z.1.symm h
end So

set_option Elab.async false
set_option linter.all false
set_option maxRecDepth 100000
set_option maxHeartbeats 4000000
/-! SetS: set(xs) of texts, any number below the scan's bound; sorted of it -/
namespace Ss
open PySem PySem.Spec PyProof.Rows L2
def keyS (e : Int × Value) : Str := match e.2 with | .str k _ => k | _ => Str.empty
def OkE (w : World) (e : Int × Value) : Prop := ∃ k tk, e.2 = Value.str k tk ∧ e.1 = hashStr w k
/-- the set of texts at a, as its table stands -/
structure SetTab (w : World) (S : List Str) (es : Array (Int × Value)) (t : SetTable) : Prop where
  good : ∀ e ∈ es.toList, OkE w e
  nodup : (es.toList.map keyS).Nodup
  mem : ∀ k, k ∈ S ↔ k ∈ es.toList.map keyS
  small : es.size ≤ S.length
  bound : es.size < scanBound
  fits : t.fits es.size = true
  ris : Ris t.place.toList
  led : w.params.followText "set-order" = true ∨ t.led = true
def SetRS (w : World) (h : Heap) (a : Addr) (S : List Str) : Prop := ∃ o es ep t, h.get? a = some o ∧ o.ExactSet ∧ o.data = .set es ep t ∧ SetTab w S es t
section
variable {P : Program} {w : World} {A : Around} {E : Value → Shared → Prop} {s : Shared} {a : Addr} {S : List Str}
theorem ok_elems {l : List (Int × Value)} (g : ∀ e ∈ l, OkE w e) : ElemsOf (PySem.strKind P w) l := fun e he => by
  obtain ⟨k, tk, h1, h2⟩ := g e he
  exact ⟨⟨k, by rw [h1]; exact strKind_is P w k tk, h2⟩, by rw [h1] <;> rfl⟩
theorem ok_is {e : Int × Value} (g : OkE w e) (k : Str) : (PySem.strKind P w).is k e.2 = true ↔ keyS e = k := by
  obtain ⟨k0, tk, h1, _⟩ := g
  unfold keyS
  rw [h1]
  show (Value.isStrOf k (.str k0 tk)) = true ↔ k0 = k
  simp [Value.isStrOf]
theorem ok_mem {l : List (Int × Value)} (g : ∀ e ∈ l, OkE w e) (k : Str) : k ∈ l.map keyS ↔ ∃ e ∈ l, (PySem.strKind P w).is k e.2 = true := by
  rw [List.mem_map]
  constructor
  · rintro ⟨e, he, q⟩
    exact ⟨e, he, (ok_is (g e he) k).2 q⟩
  · rintro ⟨e, he, q⟩
    exact ⟨e, he, (ok_is (g e he) k).1 q⟩
/-- behind the laying of one more -/
theorem add_end {g : Bool → Sem Unit} (hg : ∀ (b : Bool) (s₁ : Shared) (Q' : Unit → Shared → Prop), Q' () s₁ → wpAny (model P w) A (g b) Q' E s₁)
    {o : Obj} {es : Array (Int × Value)} {ep : Nat} {t : SetTable} (ho : s.heap.get? a = some o) (hex : o.ExactSet) (hd : o.data = .set es ep t)
    {es1 : Array (Int × Value)} {t2 : SetTable} (T : SetTab w S es1 t2) {wasDummy : Bool} {R : Option Bool → Shared → Prop}
    (hR : ∀ h', Heap.SameBut a s.heap h' → SetRS w h' a S → R (some true) { s with heap := h' }) :
    wpAny (model P w) A (do
        storeSet a es1 t2
        if (!wasDummy && t2.tooFull) = true then do
            g (relayAll t2 es1 (SetTable.grown es1.size)).2.2
            storeSet a (relayAll t2 es1 (SetTable.grown es1.size)).1 (relayAll t2 es1 (SetTable.grown es1.size)).2.1
            pure (some true)
          else pure (some true)) R E s := by
  refine wpAny_bind (wpAny_storeSet_of ho hd ?_ (fits_of_scanBound T.bound))
  have ho1 := L2.store_at (es' := es1) (t' := t2) ho hd
  have sb1 := Heap.SameBut.update s.heap a (Obj.putSet es1 t2)
  split
  · have pm := relayAll_perm t2 es1 (SetTable.grown es1.size)
    have f3 := relayAll_fits t2 es1 (SetTable.grown es1.size)
    have r3 := relayAll_ris t2 es1 (SetTable.grown es1.size)
    have l3 := relayAll_led t2 es1 (SetTable.grown es1.size)
    generalize relayAll t2 es1 (SetTable.grown es1.size) = Z at pm f3 r3 l3 ⊢
    obtain ⟨es2, t3, gave⟩ := Z
    dsimp only at pm f3 r3 l3 ⊢
    have hsz : es2.size = es1.size := by rw [← Array.length_toList, pm.length_eq, Array.length_toList]
    refine wpAny_bind (hg _ _ _ ?_)
    refine wpAny_bind (wpAny_storeSet_of ho1 rfl ?_ (fits_of_scanBound (by rw [hsz]; exact T.bound)))
    have ho2 := L2.store_at (es' := es2) (t' := t3) ho1 rfl
    refine wpAny_pure (hR _ (sb1.trans (Heap.SameBut.update _ a _)) ⟨_, es2, _, t3, ho2, hex, rfl, ?_⟩)
    exact ⟨fun e he => T.good e (pm.mem_iff.mp he), (pm.map keyS).nodup_iff.mpr T.nodup, fun k => (T.mem k).trans (pm.map keyS).mem_iff.symm, by rw [hsz]; exact T.small, by rw [hsz]; exact T.bound, f3, r3, T.led.imp id fun z => by rw [l3]; exact z⟩
  · exact wpAny_pure (hR _ sb1 ⟨_, es1, _, t2, ho1, hex, rfl, T⟩)
theorem add_str {k : Str} {tk : Tok} {Q : Bool → Shared → Prop} (R : SetRS w s.heap a S) (room : S.length + 1 < scanBound)
    (hQ : ∀ h' b, Heap.SameBut a s.heap h' → SetRS w h' a (S ++ [k]) → Q b { s with heap := h' }) :
    wpAny (model P w) A (setAddHashed a (.str k tk) ((PySem.strKind P w).hash k)) Q E s := by
  obtain ⟨o, es, ep, t, ho, hex, hd, T⟩ := R
  have hkey : (PySem.strKind P w).is k (.str k tk) = true := strKind_is P w k tk
  have hsc : (Value.str k tk).scannable = true := rfl
  have hel : ElemsOf (PySem.strKind P w) es.toList := ok_elems T.good
  have hb := T.bound
  have hf := T.fits
  unfold setAddHashed setAddHashedIn
  refine wpAny_holding (wpAny_bind (wpAny_setState_of ho hd hf ?_))
  dsimp only
  rw [byScan_of hsc hb hel]
  simp only [↓reduceIte]
  unfold setAddByScan
  refine wpAny_bind ?_
  refine wpAny_bind (wpAny_rule ?_)
  refine wpAny_bind (wpAny_setScan_of hkey ho hd hf hel ?_)
  cases hfi : List.findIdx? (fun e => (PySem.strKind P w).is k e.2) es.toList with
  | some j =>
    dsimp only
    obtain ⟨hj, pj, _⟩ := List.findIdx?_eq_some_iff_getElem.mp hfi
    have hk : k ∈ es.toList.map keyS := (ok_mem (P := P) T.good k).2 ⟨es.toList[j], List.getElem_mem hj, pj⟩
    refine wpAny_pure (wpAny_pure ?_)
    refine hQ s.heap _ (Heap.SameBut.refl a s.heap) ⟨o, es, ep, t, ho, hex, hd, T.good, T.nodup, fun i => ?_, by rw [List.length_append]; exact Nat.le_trans T.small (Nat.le_add_right _ _), hb, hf, T.ris, T.led⟩
    rw [List.mem_append, List.mem_singleton, T.mem i]
    exact ⟨fun z => z.elim id (fun e => e ▸ hk), .inl⟩
  | none =>
    dsimp only
    have hnk : k ∉ es.toList.map keyS := fun z => by
      obtain ⟨e, he, q⟩ := (ok_mem (P := P) T.good k).1 z
      have c := List.findIdx?_eq_none_iff.mp hfi e he
      rw [q] at c
      cases c
    have hgw : ∀ (b : Bool) {s₁ : Shared} {Q' : Unit → Shared → Prop}, Q' () s₁ → wpAny (model P w) A (match b with | true => rule "set.scan.the-table-gave-way" | false => pure ()) Q' E s₁ :=
      fun b s₁ Q' q => by cases b <;> first | exact wpAny_pure q | exact wpAny_rule q
    have pm := layNew_perm t es ((PySem.strKind P w).hash k) (.str k tk)
    have f1 := layNew_fits t es ((PySem.strKind P w).hash k) (.str k tk)
    have r1 := layNew_ris t es ((PySem.strKind P w).hash k) (.str k tk) T.ris
    have l1 := layNew_led t es ((PySem.strKind P w).hash k) (.str k tk)
    generalize layNew t es ((PySem.strKind P w).hash k) (.str k tk) = Z at pm f1 r1 l1 ⊢
    obtain ⟨es1, t1, wasDummy, gave⟩ := Z
    dsimp only at pm f1 r1 l1 ⊢
    rw [Array.toList_push] at pm
    have pc : es1.toList.Perm (((PySem.strKind P w).hash k, Value.str k tk) :: es.toList) := pm.trans (List.perm_append_singleton _ _)
    have pk : (es1.toList.map keyS).Perm (k :: es.toList.map keyS) := pc.map keyS
    have hsz : es1.size = es.size + 1 := by rw [← Array.length_toList, pc.length_eq, List.length_cons, Array.length_toList]
    have T1 : ∀ t' : SetTable, t'.fits es1.size = true → Ris t'.place.toList → (w.params.followText "set-order" = true ∨ t'.led = true) → SetTab w (S ++ [k]) es1 t' := fun t' a1 a2 a3 => ⟨fun e he => by
        rcases List.mem_cons.mp (pc.mem_iff.mp he) with z | z
        · rw [z]; exact ⟨k, tk, rfl, rfl⟩
        · exact T.good e z, pk.nodup_iff.mpr (List.nodup_cons.mpr ⟨hnk, T.nodup⟩), fun i => by
        rw [pk.mem_iff, List.mem_cons, List.mem_append, List.mem_singleton, T.mem i]
        exact Or.comm, by rw [hsz, List.length_append]; exact Nat.succ_le_succ T.small, by rw [hsz]; have := T.small; omega, a1, a2, a3⟩
    have hled : w.params.followText "set-order" = true ∨ t1.led = true := T.led.imp id fun z => by rw [l1]; exact z
    refine wpAny_bind (hgw _ ?_)
    split
    · refine wpAny_bind ?_
      rw [hashByValue_scannable 8 hsc]
      refine wpAny_pure ?_
      refine add_end ?_ ho hex hd (T1 _ ?_ ?_ ?_) ?_
      · intro b s₁ Q' q; cases b <;> first | exact wpAny_pure q | exact wpAny_rule q
      · first | (split <;> first | exact f1 | exact SetTable.fits_plain_off f1) | exact f1
      · first | (split <;> exact r1) | exact r1
      · first | (split <;> exact hled) | exact hled
      · intro h' sb r; dsimp only; exact wpAny_pure (hQ h' _ sb r)
    · refine wpAny_bind (wpAny_pure ?_)
      simp only [↓reduceIte]
      refine add_end ?_ ho hex hd (T1 _ f1 r1 hled) ?_
      · intro b s₁ Q' q; cases b <;> first | exact wpAny_pure q | exact wpAny_rule q
      · intro h' sb r; dsimp only; exact wpAny_pure (hQ h' _ sb r)
end
section
variable {prog : Program} {w : World} {A : Around} {R : Result → Shared → Prop} {I : Addr} {fp wr : List Addr} {G : Array GenState → Array GenState → Prop} {n : Nat} {P : Nat → Value → Prop} {St : Nat → Shared → Prop}
/-- set.update's loop over n texts -/
theorem loop_strs (W : WalksS prog w A.in1 I fp wr G n P St) (S : Addr) (hSf : S ∉ fp) (xs : List Str) (hsz : xs.length = n) (hn : n + 1 < scanBound)
    (hval : ∀ i v, P i v → ∃ t, v = .str (xs.getD i Str.empty) t) :
    ∀ (k i : Nat) (s : Shared), n - i = k → i ≤ n → St i s →
      SetRS w s.heap S (xs.take i) →
      (∀ s', Moved (S :: wr) G s s' → SetRS w s'.heap S xs → R (.ok (.ret .none)) s') →
      codeAny (model prog w) A (.builtin "set.update.loop" ⟨[.ref S, .ref I], []⟩) R s := by
  have hSw : S ∉ wr := fun h => hSf (W.sub _ h)
  have hsub : ∀ b ∈ wr, b ∈ S :: wr := fun b hb => List.mem_cons_of_mem _ hb
  intro k
  induction k with
  | zero =>
    intro i s hk hi hst hS hR
    have hin : i = n := by omega
    subst hin
    refine codeAny_builtin PyProof.Rows.F.entry_set_update_loop ?_
    rw [Around.under_plainId PyProof.Rows.F.plain_set_update_loop _]
    show wpAny _ A.in1 (pyNext (.ref I) >>= _) _ _ s
    refine wpAny_bind (W.done s _ _ hst fun s' hm => ?_)
    show wpAny _ A.in1 (ret Value.none) _ _ s'
    rw [show xs.take i = xs from by rw [← hsz]; exact List.take_length] at hS
    exact wpAny_pure (hR s' (hm.mono hsub) (by
      obtain ⟨o, es, ep, t, ho, rest⟩ := hS
      exact ⟨o, es, ep, t, hm.heap S _ hSw ho, rest⟩))
  | succ k ih =>
    intro i s hk hi hst hS hR
    have hlt : i < n := by omega
    refine codeAny_builtin PyProof.Rows.F.entry_set_update_loop ?_
    rw [Around.under_plainId PyProof.Rows.F.plain_set_update_loop _]
    show wpAny _ A.in1 (pyNext (.ref I) >>= _) _ _ s
    refine wpAny_bind (W.item i s _ _ hlt hst fun v s' hP hst' hm => ?_)
    obtain ⟨t, rfl⟩ := hval i v hP
    have hS' : SetRS w s'.heap S (xs.take i) := by
      obtain ⟨o, es, ep, tb, ho, rest⟩ := hS
      exact ⟨o, es, ep, tb, hm.heap S _ hSw ho, rest⟩
    show wpAny _ A.in1 (holding [Value.str (xs.getD i Str.empty) t] (setAdd S (.str (xs.getD i Str.empty) t)) >>= _) _ _ s'
    refine wpAny_bind (wpAny_holding ?_)
    unfold setAdd
    refine wpAny_holding ?_
    refine wpAny_bind ((PySem.strKind prog w).pyHash (k := xs.getD i Str.empty) (strKind_is _ _ _ _) ?_)
    refine add_str (s := { s' with toks := s'.toks + 1 }) hS' (by rw [List.length_take]; omega) fun h' b hsb hS2 => ?_
    have hSi : SetRS w h' S (xs.take (i + 1)) := by
      have e : xs.take (i + 1) = xs.take i ++ [xs.getD i Str.empty] := by
        rw [List.take_add_one, List.getD_eq_getElem?_getD, List.getElem?_eq_getElem (by omega)]
        rfl
      rw [e]; exact hS2
    refine wpAny_pure ⟨plainId_quiet PyProof.Rows.F.plain_set_update_loop _, ih (i + 1) _ (by omega) hlt (W.frame _ s' _ _ hst' (Nat.le_succ _) fun b hb o e => ?_) hSi fun s'' hm'' hS'' => ?_⟩
    · rw [hsb.2 b (fun h : b = S => hSf (by rw [← h]; exact hb))]; exact e
    · refine hR s'' (Moved.trans W.gtrans ((hm.mono hsub).then_heap (Nat.le_succ _) fun b o hb e => ?_) hm'') hS''
      rw [hsb.2 b (fun h : b = S => hb (by rw [h]; exact List.mem_cons_self))]; exact e
end
section
variable {prog : Program} {w : World} {A : Around} {E : Value → Shared → Prop} {s : Shared}
abbrev newSet (w : World) : Obj := { cls := .type "set", dict := none, data := .set #[] 0 (.fresh 0 0 (!w.params.followText "set-order")) }
theorem new_set1 (a : Value) {Q₁ : Value → Shared → Prop} (h : Q₁ (.ref s.heap.objs.size) { s with heap := s.heap.push (newSet w) }) :
    codeAny (model prog w) A (.call (.builtin "set.__new__") ⟨[.type "set", a], []⟩) (wants Q₁ E) s := by
  refine codeAny_of_tree ?_
  show wpAny _ A.in1 (do checkBuiltinCall "set.__new__" ⟨[.type "set", a], []⟩; again (.builtin "set.__new__" ⟨[.type "set", a], []⟩)) _ _ s
  refine wpAny_bind (wpAny_of_eq (PySem.F.newCall_set_1 a) (wpAny_pure ⟨plainId_quiet PySem.F.plain_set_new _, codeAny_builtin PySem.F.entry_set_new ?_⟩))
  rw [Around.under_plainId PySem.F.plain_set_new _]
  unfold Builtin.«set.__new__» Builtin.Frozenset.newClass
  have hsub := sub_set_self
  obtain ⟨hp, g, d, tk, os⟩ := s
  dsimp only
  wp_walk
  refine wpAny_askSetting (wpAny_pure ?_)
  dsimp only
  simp only [newObj]
  refine wpAny_bind (wpAny_alloc (wpAny_pure ?_))
  exact wpAny_pure h
theorem fresh_strs {h : Heap} (w : World) : SetRS w (h.push (newSet w)) h.objs.size [] :=
  ⟨_, #[], 0, _, Heap.get?_push_size _ rfl, ⟨rfl, rfl, rfl⟩, rfl, ⟨(fun e he => by simp at he), (by simp), (fun k => by simp), (by simp), (by decide), (by rfl), List.Pairwise.nil, by
    show _ ∨ (!w.params.followText "set-order") = true
    cases w.params.followText "set-order"
    · exact .inr rfl
    · exact .inl rfl⟩⟩
theorem set_list {l : Addr} {items : Array Value} {xs : List Str} {Q : Value → Shared → Prop}
    (hh : A.handled = none) (hl : s.heap.IsList l items) (hi : PyProof.Rows.StrsAre items.toList xs) (hn : xs.length + 1 < scanBound)
    (h : ∀ (h' : Heap) (tk : Nat), SetRS w h' s.heap.objs.size xs → (∀ b o, b < s.heap.objs.size → s.heap.get? b = some o → h'.get? b = some o) → Q (.ref s.heap.objs.size) { s with heap := h', toks := tk }) :
    wpAny (model prog w) A (call (.type "set") [.ref l]) Q E s := by
  obtain ⟨c, tl, hmro⟩ := PySem.F.called_set.mro
  have hmade := PySem.F.called_set.made
  have hsub := PySem.F.called_set.sub
  refine wpAny_call (codeAny_of_tree ?_)
  show wpAny _ _ (callAny (.type "set") _) _ _ _
  refine wpAny_pure ⟨Code.quiet_builtin _ (by decide +kernel), codeAny_builtin PySem.F.entry_type_call ?_⟩
  rw [Around.under_plain (weight_type_call_type "set" [.ref l] []) rfl]
  have h1 := PySem.F.called_set.notType
  have h2 := PySem.F.called_set.canCreate
  have hct := PySem.F.typeCall_set_1 (.ref l)
  repeat (any_goals (first | assumption | wp_step))
  refine codeAny_mono (new_set1 (.ref l) (E := E) (Q₁ := fun obj s₁ => obj = .ref s.heap.objs.size ∧ s₁ = { s with heap := s.heap.push (newSet w) }) ⟨rfl, rfl⟩) fun r s₁ hr => ?_
  cases r with
  | error e => exact hr
  | ok fl =>
    cases fl with
    | ret obj =>
      obtain ⟨rfl, rfl⟩ := hr
      have hS : (s.heap.push (newSet w)).get? s.heap.objs.size = some (newSet w) := Heap.get?_push_size _ rfl
      have hT : Shared.TypeIs { s with heap := s.heap.push (newSet w) } (.ref s.heap.objs.size) "set" := ⟨_, hS, rfl⟩
      have hli := PySem.F.called_set.init.lookup
      have hbi := PySem.F.called_set.init.bind (.ref s.heap.objs.size)
      repeat (any_goals (first | assumption | wp_step))
      refine codeAny_mono (codeAny_call_builtin (R := wants (fun r s₂ => r = .none ∧ ∃ h' tk, s₂ = { s with heap := h', toks := tk } ∧
          SetRS w h' s.heap.objs.size xs ∧ (∀ b o, b < s.heap.objs.size → s.heap.get? b = some o → h'.get? b = some o)) E) PySem.F.called_set.init.plain PySem.F.entry_set_init (check_set_init_1 hT ?_)) fun r₂ s₂ hr₂ => ?_
      · obtain ⟨ol, hol, hcl, nl, hdl⟩ := hl
        obtain ⟨ocls, odict, odata, oslots⟩ := ol
        simp only at hcl hdl
        subst hcl; subst hdl
        have hol' : (s.heap.push (newSet w)).get? l = some { cls := .type "list", dict := odict, data := .seq items nl, slots := oslots } := Heap.get?_push_of_some _ hol
        have hsls := PySem.F.sub_list_set
        have hslf := PySem.F.sub_list_frozenset
        have hne : (Value.type "list" == Value.type "dict") = false := by decide
        have hl1 : (s.heap.push (newSet w)).IsList l items := ⟨_, hol', rfl, nl, rfl⟩
        unfold Builtin.«set.__init__» noKeywords Builtin.Frozenset.updateFrom
        generalize hPI : pyIter = PI
        wp_walk
        subst hPI
        refine wpAny_pyIter_list hl1 ?_
        refine wpAny_bind (wpAny_runValue ?_)
        have hlS : l < s.heap.objs.size := Heap.lt_size hol
        have hh3 : A.in1.in1.in1.handled = none := by simp [hh]
        have hneI : l ≠ (s.heap.push (newSet w)).objs.size := by
          rw [Heap.size_push]; exact Nat.ne_of_lt (Nat.lt_succ_of_lt hlS)
        have hSf : s.heap.objs.size ∉ [(s.heap.push (newSet w)).objs.size, l] := by
          rw [Heap.size_push]; simp only [List.mem_cons, List.mem_singleton, List.not_mem_nil, or_false, not_or]
          exact ⟨Nat.ne_of_lt (Nat.lt_succ_self _), Nat.ne_of_gt hlS⟩
        have hsz : xs.length = items.size := by rw [← StrsAre.len_eq hi, Array.length_toList]
        have hval : ∀ (i : Nat) (v : Value), items[i]? = some v → ∃ t, v = .str (xs.getD i Str.empty) t := fun i v hv => SS.strs_at hi i v (by rw [Array.getElem?_toList]; exact hv)
        refine loop_strs ((Walks.list hh3 _ l hneI items).toS) s.heap.objs.size hSf xs hsz (by rw [← hsz]; exact hn) hval (items.size - 0) 0 _ (by omega) (Nat.zero_le _)
          ⟨⟨_, Heap.get?_push_size _ rfl, rfl, rfl⟩, (hl1.push _)⟩ ?hS0 ?hR
        case hS0 =>
          obtain ⟨o, es, ep, t, ho, r⟩ := fresh_strs (h := s.heap) w
          exact ⟨o, es, ep, t, Heap.get?_push_of_some _ ho, r⟩
        case hR =>
          intro s' hm hS'
          obtain ⟨h', g', d', tk', os'⟩ := s'
          have eg : g' = s.gens := hm.gens
          have ed : d' = s.drawn := hm.drawn
          have eo : os' = s.os := hm.os
          subst eg; subst ed; subst eo
          show wpAny _ _ _ _ _ _
          refine wpAny_pure ?_
          show wpAny _ _ (ret Value.none) _ _ _
          refine wpAny_pure ⟨rfl, h', tk', rfl, hS', fun b o hb e => ?_⟩
          have hb1 : b ≠ s.heap.objs.size := Nat.ne_of_lt hb
          have hb2 : b ≠ (s.heap.push (newSet w)).objs.size := by
            rw [Heap.size_push]; exact Nat.ne_of_lt (Nat.lt_succ_of_lt hb)
          exact hm.heap b o (by simp only [List.mem_cons, List.mem_singleton, List.not_mem_nil, or_false, not_or]; exact ⟨hb1, hb2⟩) (Heap.get?_push_of_some _ (Heap.get?_push_of_some _ e))
      · cases r₂ with
        | error e => exact hr₂
        | ok fl₂ =>
          cases fl₂ with
          | ret r =>
            obtain ⟨rfl, h', tk, rfl, hS', hk'⟩ := hr₂
            repeat (any_goals (first | assumption | wp_step))
            exact h _ _ hS' hk'
          | _ => exact hr₂.elim
    | _ => exact hr.elim
theorem set_tuple {l : Addr} {items : Array Value} {xs : List Str} {Q : Value → Shared → Prop}
    (hh : A.handled = none) (hl : s.heap.IsTuple l items) (hi : PyProof.Rows.StrsAre items.toList xs) (hn : xs.length + 1 < scanBound)
    (h : ∀ (h' : Heap) (tk : Nat), SetRS w h' s.heap.objs.size xs → (∀ b o, b < s.heap.objs.size → s.heap.get? b = some o → h'.get? b = some o) → Q (.ref s.heap.objs.size) { s with heap := h', toks := tk }) :
    wpAny (model prog w) A (call (.type "set") [.ref l]) Q E s := by
  obtain ⟨c, tl, hmro⟩ := PySem.F.called_set.mro
  have hmade := PySem.F.called_set.made
  have hsub := PySem.F.called_set.sub
  refine wpAny_call (codeAny_of_tree ?_)
  show wpAny _ _ (callAny (.type "set") _) _ _ _
  refine wpAny_pure ⟨Code.quiet_builtin _ (by decide +kernel), codeAny_builtin PySem.F.entry_type_call ?_⟩
  rw [Around.under_plain (weight_type_call_type "set" [.ref l] []) rfl]
  have h1 := PySem.F.called_set.notType
  have h2 := PySem.F.called_set.canCreate
  have hct := PySem.F.typeCall_set_1 (.ref l)
  repeat (any_goals (first | assumption | wp_step))
  refine codeAny_mono (new_set1 (.ref l) (E := E) (Q₁ := fun obj s₁ => obj = .ref s.heap.objs.size ∧ s₁ = { s with heap := s.heap.push (newSet w) }) ⟨rfl, rfl⟩) fun r s₁ hr => ?_
  cases r with
  | error e => exact hr
  | ok fl =>
    cases fl with
    | ret obj =>
      obtain ⟨rfl, rfl⟩ := hr
      have hS : (s.heap.push (newSet w)).get? s.heap.objs.size = some (newSet w) := Heap.get?_push_size _ rfl
      have hT : Shared.TypeIs { s with heap := s.heap.push (newSet w) } (.ref s.heap.objs.size) "set" := ⟨_, hS, rfl⟩
      have hli := PySem.F.called_set.init.lookup
      have hbi := PySem.F.called_set.init.bind (.ref s.heap.objs.size)
      repeat (any_goals (first | assumption | wp_step))
      refine codeAny_mono (codeAny_call_builtin (R := wants (fun r s₂ => r = .none ∧ ∃ h' tk, s₂ = { s with heap := h', toks := tk } ∧
          SetRS w h' s.heap.objs.size xs ∧ (∀ b o, b < s.heap.objs.size → s.heap.get? b = some o → h'.get? b = some o)) E) PySem.F.called_set.init.plain PySem.F.entry_set_init (check_set_init_1 hT ?_)) fun r₂ s₂ hr₂ => ?_
      · obtain ⟨ol, hol, hcl, nl, hdl⟩ := hl
        obtain ⟨ocls, odict, odata, oslots⟩ := ol
        simp only at hcl hdl
        subst hcl; subst hdl
        have hol' : (s.heap.push (newSet w)).get? l = some { cls := .type "tuple", dict := odict, data := .seq items nl, slots := oslots } := Heap.get?_push_of_some _ hol
        have hsls := PySem.F.sub_tuple_set
        have hslf := PySem.F.sub_tuple_frozenset
        have hne : (Value.type "tuple" == Value.type "dict") = false := by decide
        have hl1 : (s.heap.push (newSet w)).IsTuple l items := ⟨_, hol', rfl, nl, rfl⟩
        unfold Builtin.«set.__init__» noKeywords Builtin.Frozenset.updateFrom
        generalize hPI : pyIter = PI
        wp_walk
        subst hPI
        refine wpAny_pyIter_tuple hl1 ?_
        refine wpAny_bind (wpAny_runValue ?_)
        have hlS : l < s.heap.objs.size := Heap.lt_size hol
        have hh3 : A.in1.in1.in1.handled = none := by simp [hh]
        have hneI : l ≠ (s.heap.push (newSet w)).objs.size := by
          rw [Heap.size_push]; exact Nat.ne_of_lt (Nat.lt_succ_of_lt hlS)
        have hSf : s.heap.objs.size ∉ [(s.heap.push (newSet w)).objs.size, l] := by
          rw [Heap.size_push]; simp only [List.mem_cons, List.mem_singleton, List.not_mem_nil, or_false, not_or]
          exact ⟨Nat.ne_of_lt (Nat.lt_succ_self _), Nat.ne_of_gt hlS⟩
        have hsz : xs.length = items.size := by rw [← StrsAre.len_eq hi, Array.length_toList]
        have hval : ∀ (i : Nat) (v : Value), items[i]? = some v → ∃ t, v = .str (xs.getD i Str.empty) t := fun i v hv => SS.strs_at hi i v (by rw [Array.getElem?_toList]; exact hv)
        refine loop_strs ((Walks.tuple hh3 _ l hneI items).toS) s.heap.objs.size hSf xs hsz (by rw [← hsz]; exact hn) hval (items.size - 0) 0 _ (by omega) (Nat.zero_le _)
          ⟨⟨_, Heap.get?_push_size _ rfl, rfl, rfl⟩, (hl1.push _)⟩ ?hS0 ?hR
        case hS0 =>
          obtain ⟨o, es, ep, t, ho, r⟩ := fresh_strs (h := s.heap) w
          exact ⟨o, es, ep, t, Heap.get?_push_of_some _ ho, r⟩
        case hR =>
          intro s' hm hS'
          obtain ⟨h', g', d', tk', os'⟩ := s'
          have eg : g' = s.gens := hm.gens
          have ed : d' = s.drawn := hm.drawn
          have eo : os' = s.os := hm.os
          subst eg; subst ed; subst eo
          show wpAny _ _ _ _ _ _
          refine wpAny_pure ?_
          show wpAny _ _ (ret Value.none) _ _ _
          refine wpAny_pure ⟨rfl, h', tk', rfl, hS', fun b o hb e => ?_⟩
          have hb1 : b ≠ s.heap.objs.size := Nat.ne_of_lt hb
          have hb2 : b ≠ (s.heap.push (newSet w)).objs.size := by
            rw [Heap.size_push]; exact Nat.ne_of_lt (Nat.lt_succ_of_lt hb)
          exact hm.heap b o (by simp only [List.mem_cons, List.mem_singleton, List.not_mem_nil, or_false, not_or]; exact ⟨hb1, hb2⟩) (Heap.get?_push_of_some _ (Heap.get?_push_of_some _ e))
      · cases r₂ with
        | error e => exact hr₂
        | ok fl₂ =>
          cases fl₂ with
          | ret r =>
            obtain ⟨rfl, h', tk, rfl, hS', hk'⟩ := hr₂
            repeat (any_goals (first | assumption | wp_step))
            exact h _ _ hS' hk'
          | _ => exact hr₂.elim
    | _ => exact hr.elim
end
end Ss

set_option Elab.async false
set_option linter.all false
set_option maxRecDepth 100000
set_option maxHeartbeats 4000000
/-! SetT: sorted of a set of texts; sorted(set(e)) as one rule -/
namespace Ss
open PySem PySem.Spec PySem.W PyProof.Rows L2
/-- what sorted(set(xs)) is -/
structure Ascending (xs ns : List Str) : Prop where
  sorted : ns.Pairwise fun a b => So.leStr a b = true
  nodup : ns.Nodup
  mem : ∀ k, k ∈ ns ↔ k ∈ xs
  len : ns.length ≤ xs.length
section
variable {P : Program} {w : World} {A : Around} {E : Value → Shared → Prop} {s : Shared} {a : Addr} {S : List Str}
theorem strs_of : ∀ (l : List Value), (∀ v ∈ l, ∃ k tk, v = Value.str k tk) → ∃ ks : List Str, EachIs (fun v b => ∃ t, v = Value.str b t) l ks
  | [], _ => ⟨[], .nil⟩
  | v :: l, h => by
    obtain ⟨k, tk, e⟩ := h v List.mem_cons_self
    obtain ⟨ks, hk⟩ := strs_of l fun u hu => h u (List.mem_cons_of_mem _ hu)
    exact ⟨k :: ks, .cons ⟨tk, e⟩ hk⟩
theorem each_keys : ∀ {l : List Value} {ks : List Str}, EachIs (fun v b => ∃ t, v = Value.str b t) l ks → l.map (fun v => keyS (0, v)) = ks
  | _, _, .nil => rfl
  | _, _, .cons ⟨t, e⟩ h => by
    subst e
    rw [List.map_cons, each_keys h]
    rfl
theorem leStr_iff (p q : Str) : So.leStr p q = true ↔ p.cps.toList ≤ q.cps.toList := by
  show (!dataLt (.str q) (.str p)) = true ↔ _
  rw [Bool.not_eq_true', dataLt_str, decide_eq_false_iff_not, List.not_lt]
theorem sorted_strs {Q : Value → Shared → Prop} (R : SetRS w s.heap a S) (hh : A.handled = none) (hu : A.units + 4 < cLine)
    (hQ : ∀ s' p (out : Array Value) (c : Nat) (ns : List Str), (∀ b o, s.heap.get? b = some o → s'.heap.get? b = some o) → s'.gens = s.gens → s'.os = s.os → s.heap.objs.size ≤ p →
      s'.heap.get? p = some (seqObj "list" out c) → EachIs (fun v b => ∃ t, v = Value.str b t) out.toList ns → Ascending S ns → Q (.ref p) s') :
    wpAny (model P w) A (call (.builtin "sorted") [.ref a]) Q E s := by
  obtain ⟨o, es, ep, t, ho, hex, hd, T⟩ := R
  refine Calls.call_function_entry kind_sorted plain_sorted entry_sorted (args_sorted1 _) ?_
  unfold Builtin.«sorted»
  refine wpAny_bind (m := checkCount "sorted" 1 1 _) (wpAny_pure ?_)
  refine wpAny_bind (collect_set (A := A.in1) hh ⟨o, ho, hex.1, hd⟩ T.fits T.bound T.ris T.led fun s1 vs k1 hz g1 o1 pm => ?_)
  have hvl : vs.length = es.size := by rw [pm.length_eq, List.length_map, Array.length_toList]
  obtain ⟨ks, ek⟩ := strs_of vs fun v hv => by
    obtain ⟨e, he, q⟩ := List.mem_map.mp (pm.mem_iff.mp hv)
    obtain ⟨k, tk, h1, _⟩ := T.good e he
    exact ⟨k, tk, by rw [← q]; exact h1⟩
  have hkl : vs.length = ks.length := ek.length
  have pk : ks.Perm (es.toList.map keyS) := by
    have q := pm.map fun v => keyS (0, v)
    rw [each_keys ek, List.map_map] at q
    exact q
  have hline : vs.length ≤ sizeLine := by rw [hvl]; exact fits_of_scanBound T.bound
  refine wpAny_bind (wpAny_newList ?_ hline)
  have hoL : (s1.heap.push (seqObj "list" vs.toArray 0)).get? s1.heap.objs.size = some (seqObj "list" vs.toArray 0) := Heap.get?_push_size _ rfl
  refine wpAny_bind (wpAny_holding (list_sort_data (R := fun v b => ∃ t, v = Value.str b t) (enc := PyData.str) hoL ek (ek.mono fun v b ⟨t, e⟩ => ⟨[], by subst e; exact .str _ _, fun z => nomatch z⟩) (AllAlike.of fun b b' => by simp [alike]) (Sortable.others fun b => ⟨(fun z => by cases z), (fun xs z => by cases z)⟩) (by rw [← hkl]; exact hline) (fun b _ => ?_) fun out h1 h2 => ?_))
  · show A.in1.units + 1 + 0 < cLine
    show A.units + 1 + 1 + 0 < cLine
    omega
  obtain ⟨c, hc⟩ := sortedHeap_at (vs := vs) (out := out.toArray) hoL
  have pn : (ks.mergeSort (dataLe false PyData.str)).Perm (es.toList.map keyS) := (List.mergeSort_perm _ _).trans pk
  refine wpAny_pure ⟨_, rfl, hQ { s1 with heap := sortedHeap (s1.heap.push (seqObj "list" vs.toArray 0)) s1.heap.objs.size vs out.toArray } s1.heap.objs.size out.toArray c _ (fun b u e => ?_) g1 o1 hz hc h2 ⟨?_, pn.nodup_iff.mpr T.nodup, fun k => by rw [pn.mem_iff, ← T.mem k], ?_⟩⟩
  · have q := k1 b u e
    have hlt := Heap.lt_size q
    show (sortedHeap (s1.heap.push (seqObj "list" vs.toArray 0)) s1.heap.objs.size vs out.toArray).get? b = some u
    rw [sortedHeap_old (Nat.ne_of_lt hlt) (by rw [size_push']; exact Nat.lt_succ_of_lt hlt)]
    exact Heap.get?_push_of_some _ q
  · refine List.pairwise_mergeSort (fun x y z hxy hyz => ?_) (fun x y => ?_) ks
    · exact (leStr_iff x z).2 (List.le_trans ((leStr_iff x y).1 hxy) ((leStr_iff y z).1 hyz))
    · rcases List.le_total x.cps.toList y.cps.toList with h | h
      · exact (Bool.or_eq_true _ _).mpr (.inl ((leStr_iff x y).2 h))
      · exact (Bool.or_eq_true _ _).mpr (.inr ((leStr_iff y x).2 h))
  · rw [pn.length_eq, List.length_map, Array.length_toList]
    exact T.small
end
end Ss

set_option Elab.async false
set_option linter.all false
set_option maxRecDepth 100000
set_option maxHeartbeats 4000000
/-! SetU: sorted(set(e)), sorted(e, key=len), sorted(e) of texts or of tuples of an int and a text: rules and their readings by value -/
namespace Ss
open PySem PySem.Spec PySem.W PyProof.Rows L2
section
variable {X : Cx}
theorem strsAre {ys : List Str} : ∀ {us : List Value}, Vals (ys.map V.str) us → StrsAre us ys := by
  induction ys with
  | nil => intro us h; cases h; exact .nil
  | cons y ys ih =>
    intro us h
    cases h with
    | cons r t =>
      obtain ⟨k, rfl⟩ := r
      exact .cons y k (ih t)
def tSortedSet (K : PySem.W.Frag) (ta : TE) : TE := fun σ H Q => ta σ H fun x H1 => ∃ l, ∃ xs : List Str, x = .ref l ∧ (SqL K H1 l (xs.map V.str) ∨ SqT K H1 l (xs.map V.str)) ∧ xs.length + 1 < scanBound ∧
  ∀ ns p, Ascending xs ns → H1 p = none → Q (.ref p) (upd H1 p (.lst (ns.map V.str)))
theorem pe_sortedSet {a : Expr} {ta : TE} {p p2 q pos : Pos} (hc : X.calm = true) (hu : X.A.units + 4 < cLine) (hg : Gl X "sorted") (hm : X.mg "sorted" = none) (hg2 : Gl X "set") (hm2 : X.mg "set" = none) (ha : PE X a ta)
    (na : starEach [a] X.env = (false, eval a X.env) :: starEach [] X.env := by rfl) : PE X (.Call (.Name "sorted" p) [.Call (.Name "set" p2) [a] [] q] [] pos) (tSortedSet X.K ta) := by
  refine ⟨fun pins s σ H Q I h => ?_⟩
  refine Call_ (ld_blt I hg hm (by decide +kernel : bootBuiltins "sorted" = some (.builtin "sorted")) ?_)
  refine PyProof.Rows.callWith_builtin1 (PyProof.Rows.args_cons ?_ rfl) rfl rfl
  refine Call_ (ld_blt I hg2 hm2 boot_set ?_)
  refine PyProof.Rows.callWith_type1 (PyProof.Rows.args_cons (thn (ha.run pins s σ H _ I h) fun v s1 ⟨x, H1, I1, r1, q1⟩ => PyProof.Rows.args_nil ?_) na) na rfl
  obtain ⟨l, xs, rfl, hq, hn, q1⟩ := q1
  cases r1
  have fin : ∀ (h' : Heap) (tk : Nat), SetRS X.w h' s1.heap.objs.size xs → (∀ b o, b < s1.heap.objs.size → s1.heap.get? b = some o → h'.get? b = some o) →
      wpAny (model X.prog X.w) X.A (spliced (backTo pos (starEach [] X.env))) (fun vs s₂ => wpAny (model X.prog X.w) X.A (call (.builtin "sorted") (Value.ref s1.heap.objs.size :: vs)) (EP X pins σ Q) X.xe s₂) X.xe { s1 with heap := h', toks := tk } := fun h' tk hS hk => by
    refine PyProof.Rows.args_nil ?_
    have hge : s1.heap.objs.size ≤ h'.objs.size := by
      obtain ⟨o, es, ep, t, ho, _⟩ := hS
      exact Nat.le_of_lt (Heap.lt_size ho)
    refine sorted_strs (s := { s1 with heap := h', toks := tk }) hS (I1.ok.hd hc) hu fun s' pp out c ns k g o hp hg hi asc => ?_
    have hk' : ∀ b u, s1.heap.get? b = some u → s'.heap.get? b = some u := fun b u e => k b u (hk b u (Heap.lt_size e) e)
    have hp' : s1.heap.objs.size ≤ pp := Nat.le_trans hge hp
    have hlen : (ns.map V.str).length ≤ sizeLine := by
      rw [List.length_map]
      have h1 := asc.len
      have h2 : scanBound ≤ sizeLine := by rw [sizeLine_eq]; decide
      omega
    have hfree : H1 pp = none := I1.hok.fresh hp'
    have J : Inv X pins σ (upd H1 pp (.lst (ns.map V.str))) { s1 with heap := s'.heap, gens := s'.gens, drawn := s'.drawn, toks := s'.toks } :=
      I1.call (ch := []) (Un.laid hk' hp' hfree) (I1.hok.laid hk' hp' ⟨hlen, out.toList, c, So.vals_str hi, by rw [Array.toArray_toList]; exact hg⟩) (by rw [g]; exact I1.bare) (fun _ z => nomatch z)
    have e : s' = { s1 with heap := s'.heap, gens := s'.gens, drawn := s'.drawn, toks := s'.toks } := by
      cases s'
      cases s1
      cases o
      rfl
    rw [e]
    exact ⟨.ref pp, _, J, rfl, q1 ns pp asc hfree⟩
  rcases hq with hq | hq
  · obtain ⟨its, r, pl, hz⟩ := I1.list hq
    exact set_list (I1.ok.hd hc) pl.isList (by simpa using strsAre r) hn fun h' tk hS hk => fin h' tk hS hk
  · obtain ⟨its, r, pl, hz⟩ := I1.tuple hq
    exact set_tuple (I1.ok.hd hc) pl (by simpa using strsAre r) hn fun h' tk hS hk => fin h' tk hS hk
/-! ### key=len -/
def keyLen (s : Str) : PyData := .int s.length
def leLen : Str → Str → Bool := dataLe false keyLen
theorem leLen_iff (a b : Str) : leLen a b = true ↔ a.length ≤ b.length := by
  show (!dataLt (keyLen b) (keyLen a)) = true ↔ _
  unfold keyLen
  rw [Bool.not_eq_true', dataLt_int, decide_eq_false_iff_not]
  omega
def tSortedLen (K : PySem.W.Frag) (ta : TE) : TE := fun σ H Q => ta σ H fun x H1 => ∃ l, ∃ xs : List Str, x = .ref l ∧ SqL K H1 l (xs.map V.str) ∧ (∀ y ∈ xs, y.length ≤ sizeLine) ∧
  ∀ p, H1 p = none → Q (.ref p) (upd H1 p (.lst ((xs.mergeSort leLen).map V.str)))
theorem sort_len (x : Addr) : Builtin.«list.sort» ⟨[.ref x], [(Str.ofString "key", .builtin "len")]⟩ = ksk_tree x (.builtin "len") false := rfl
theorem pe_sortedLen {a : Expr} {ta : TE} {p p2 kp pos : Pos} (hu : X.A.units + 4 < cLine) (hg : Gl X "sorted") (hm : X.mg "sorted" = none) (hg2 : Gl X "len") (hm2 : X.mg "len" = none) (ha : PE X a ta)
    (na : starEach [a] X.env = (false, eval a X.env) :: starEach [] X.env := by rfl)
    (he : backTo pos (starEach [a] X.env) = (false, eval a X.env) :: backTo pos (starEach [] X.env) := by rfl) (hpl : (backTo pos (starEach [a] X.env)).any (·.1) = false := by rfl)
    (hall : (backToKw pos (keywordEach [⟨some "key", .Name "len" p2, kp⟩] X.env)).all (·.1.isSome) = true := by rfl) (hnone : (backToKw pos (keywordEach [⟨some "key", .Name "len" p2, kp⟩] X.env)).any (·.1.isNone) = false := by rfl)
    (hks : (backToKw pos (keywordEach [⟨some "key", .Name "len" p2, kp⟩] X.env)).filterMap (·.1) = [Str.ofString "key"] := by rfl) : PE X (.Call (.Name "sorted" p) [a] [⟨some "key", .Name "len" p2, kp⟩] pos) (tSortedLen X.K ta) := by
  refine ⟨fun pins s σ H Q I h => ?_⟩
  refine wpAny_Call_Name_kw (ld_blt I hg hm (by decide +kernel : bootBuiltins "sorted" = some (.builtin "sorted")) ?_)
  refine PyProof.Rows.callWith_kw (PyProof.Rows.args_cons (thn (ha.run pins s σ H _ I h) fun v s1 ⟨x, H1, I1, r1, q1⟩ => PyProof.Rows.args_nil ?_) na) he hpl hall hnone
  rw [hks]
  show wpAny _ _ (evalAll ((do let v ← eval (.Name "len" p2) X.env; standAt pos; pure v) :: [])) _ _ s1
  refine wpAny_evalAll_cons (wpAny_bind (ld_blt I1 hg2 hm2 boot_len (wpAny_bind (wpAny_standAt (wpAny_pure ?_)))))
  refine wpAny_evalAll_nil ?_
  obtain ⟨l, xs, rfl, hs, hb, q⟩ := q1
  cases r1
  obtain ⟨its, rv, hl, hz⟩ := I1.list hs
  have ei := So.each_str rv
  rw [List.length_map] at hz
  refine sorted_key_data (R := fun v b => ∃ t, v = Value.str b t) (b := false) keyLen hl.isList ei (AllAlike.of fun _ _ => by simp [keyLen, alike]) (Sortable.others fun b => ⟨(fun z => by cases z), (fun xs z => by cases z)⟩) hz (fun y _ => ?_) (PyProof.Rows.ksk_s1 _ _) (fun _ => PyProof.Rows.ksk_l1 _ _) sort_len (fun v y hR hy h tk kp => ?_) fun out c h' tk kp hfree hD ho eo => ?_
  · show X.A.units + 2 + 0 < cLine
    omega
  · obtain ⟨t, rfl⟩ := hR
    have hyb := hb y hy
    have hs2 : sizeLine = 16777216 := sizeLine_eq
    refine len_str (by omega) ⟨h, tk + 1 + 1, rfl, fun _ _ e => e, ?_⟩
    exact .int _ _
  · have hlen : ((xs.mergeSort leLen).map V.str).length ≤ sizeLine := by rw [List.length_map, List.length_mergeSort]; exact hz
    have hp : s1.heap.objs.size ≤ s1.heap.objs.size + 1 := Nat.le_succ _
    exact ⟨.ref _, upd H1 (s1.heap.objs.size + 1) (.lst ((xs.mergeSort leLen).map V.str)), I1.laid (t' := tk) kp hp ⟨hlen, out, c, So.vals_str eo, hD⟩, rfl, q _ (I1.hok.fresh hp)⟩
end
end Ss

set_option Elab.async false
set_option linter.all false
set_option maxRecDepth 100000
set_option maxHeartbeats 4000000
/-! DvA: sorted by value -/
namespace Dv
open PySem PySem.Spec PySem.W PyProof.Rows L2
def strsD (xs : List Str) : List D := xs.map D.str
theorem repL_strs {K : PySem.W.Frag} {bg : Option (Addr × Addr)} {H : Hp} : ∀ {vs : List V} {xs : List Str}, RepL K bg H vs (strsD xs) → vs = xs.map V.str ∧ ∀ x ∈ xs, GoodS x
  | _, [], .nil => ⟨rfl, fun _ h => nomatch h⟩
  | _, x :: xs, .cons h t => by
    obtain ⟨h1, h2⟩ := repL_strs t
    cases h with
    | str g =>
      refine ⟨by rw [h1]; rfl, fun y hy => ?_⟩
      rcases List.mem_cons.1 hy with z | z
      · rw [z]; exact g
      · exact h2 y z
theorem repL_ofStrs {K : PySem.W.Frag} {bg : Option (Addr × Addr)} {H : Hp} : ∀ {xs : List Str}, (∀ x ∈ xs, GoodS x) → RepL K bg H (xs.map V.str) (strsD xs)
  | [], _ => .nil
  | x :: xs, h => .cons (.str (h x List.mem_cons_self)) (repL_ofStrs fun y hy => h y (List.mem_cons_of_mem _ hy))
section
variable {X : Cx} {a : Expr} {wa : WE} {p p2 q kp pos : Pos}
def wSortedSet (wa : WE) : WO := fun env n Q => wa env n fun d n1 => ∃ xs, (d = .lst (strsD xs) ∨ d = .tup (strsD xs)) ∧ xs.length + 1 < scanBound ∧ ∀ ns, Ss.Ascending xs ns → Q (.lst (strsD ns)) n1
theorem df_sortedSet (hu : X.A.units + 64 < cLine) (hm : X.mg "sorted" = none) (hm2 : X.mg "set" = none) (ha : DB X a wa) (hc : X.calm = true := by rfl) (hg : Gl X "sorted" := by rfl) (hg2 : Gl X "set" := by rfl)
    (na : starEach [a] X.env = (false, eval a X.env) :: starEach [] X.env := by rfl) : DF X (.Call (.Name "sorted" p) [.Call (.Name "set" p2) [a] [] q] [] pos) (wSortedSet wa) :=
  .of (Ss.pe_sortedSet hc (by omega) hg hm hg2 hm2 ha.pe na) fun σ H Q ⟨c, ad, n, env, Q0, R, q0, q⟩ => ⟨c, ad, n, env, _, R, q0, fun d n1 ⟨xs, ed, hn, q1⟩ v H1 e1 s1 => by
    have fin : ∀ (vs : List V), RepL X.K c.bg (cut (Oa c ad env) H1) vs (strsD xs) → ∀ ns l, Ss.Ascending xs ns → H1 l = none → Q (.ref l) (upd H1 l (.lst (ns.map V.str))) := fun vs r ns l asc hl => by
      obtain ⟨_, g⟩ := repL_strs r
      have hlen : (ns.map V.str).length ≤ sizeLine := by
        rw [List.length_map]
        have h1 := asc.len
        have h2 : scanBound ≤ sizeLine := by rw [sizeLine_eq]; decide
        omega
      obtain ⟨h1, h2, h3, h4⟩ := new_at R e1 hl hlen (repL_ofStrs (xs := ns) fun x hx => g x ((asc.mem x).1 hx))
      exact q _ _ (q1 ns asc) l _ _ h1 h2 h3 h4
    rcases ed with ed | ed
    · subst ed
      obtain ⟨b, ws, rfl, hp, hl, r⟩ := s1.lst'
      obtain ⟨hw, g⟩ := repL_strs r
      exact ⟨b, xs, rfl, .inl (by rw [← hw]; exact .inl (.inl hp)), hn, fun ns l asc hl => fin ws r ns l asc hl⟩
    · subst ed
      obtain ⟨b, ws, rfl, hp, hl, r⟩ := s1.tup'
      obtain ⟨hw, g⟩ := repL_strs r
      exact ⟨b, xs, rfl, .inr (by rw [← hw]; exact hp), hn, fun ns l asc hl => fin ws r ns l asc hl⟩⟩
def wSortedLen (wa : WE) : WO := fun env n Q => wa env n fun d n1 => ∃ xs, d = .lst (strsD xs) ∧ Q (.lst (strsD (xs.mergeSort Ss.leLen))) n1
theorem df_sortedLen (hu : X.A.units + 64 < cLine) (hm : X.mg "sorted" = none) (hm2 : X.mg "len" = none) (ha : DB X a wa) (hg : Gl X "sorted" := by rfl) (hg2 : Gl X "len" := by rfl)
    (na : starEach [a] X.env = (false, eval a X.env) :: starEach [] X.env := by rfl)
    (he : backTo pos (starEach [a] X.env) = (false, eval a X.env) :: backTo pos (starEach [] X.env) := by rfl) (hpl : (backTo pos (starEach [a] X.env)).any (·.1) = false := by rfl)
    (hall : (backToKw pos (keywordEach [⟨some "key", .Name "len" p2, kp⟩] X.env)).all (·.1.isSome) = true := by rfl) (hnone : (backToKw pos (keywordEach [⟨some "key", .Name "len" p2, kp⟩] X.env)).any (·.1.isNone) = false := by rfl)
    (hks : (backToKw pos (keywordEach [⟨some "key", .Name "len" p2, kp⟩] X.env)).filterMap (·.1) = [Str.ofString "key"] := by rfl) : DF X (.Call (.Name "sorted" p) [a] [⟨some "key", .Name "len" p2, kp⟩] pos) (wSortedLen wa) :=
  .of (Ss.pe_sortedLen (by omega) hg hm hg2 hm2 ha.pe na he hpl hall hnone hks) fun σ H Q ⟨c, ad, n, env, Q0, R, q0, q⟩ => ⟨c, ad, n, env, _, R, q0, fun d n1 ⟨xs, ed, q1⟩ v H1 e1 s1 => by
    subst ed
    obtain ⟨b, ws, rfl, hp, hl, r⟩ := s1.lst'
    obtain ⟨hw, g⟩ := repL_strs r
    refine ⟨b, xs, rfl, by rw [← hw]; exact .inl (.inl hp), fun y hy => (g y hy).len, fun l hl' => ?_⟩
    have hlen : ((xs.mergeSort Ss.leLen).map V.str).length ≤ sizeLine := by
      rw [List.length_map, List.length_mergeSort]
      rw [hw, List.length_map] at hl
      exact hl
    obtain ⟨h1, h2, h3, h4⟩ := new_at R e1 hl' hlen (repL_ofStrs (xs := xs.mergeSort Ss.leLen) fun x hx => g x (List.mem_mergeSort.1 hx))
    exact q _ _ q1 l _ _ h1 h2 h3 h4⟩
/-! ### tuples of an int and a text -/
def pairD (p : Int × Str) : D := .tup [.int p.1, .str p.2]
/-- values that are tuples of an int and a text -/
inductive PairsAt (K : PySem.W.Frag) (H : Hp) : List V → List (Int × Str) → Prop
  | nil : PairsAt K H [] []
  | cons {r : Addr} {p : Int × Str} {vs : List V} {ps : List (Int × Str)} (h : SqT K H r [.int p.1, .str p.2]) (g : GoodS p.2) (t : PairsAt K H vs ps) : PairsAt K H (.ref r :: vs) (p :: ps)
theorem pairs_at {K : PySem.W.Frag} {bg : Option (Addr × Addr)} {H : Hp} : ∀ {vs : List V} {ps : List (Int × Str)}, RepL K bg H vs (ps.map pairD) → PairsAt K H vs ps
  | _, [], .nil => .nil
  | _, p :: ps, .cons h t => by
    cases h with
    | tup h hl r =>
      cases r with
      | cons r1 r2 =>
        cases r1 with
        | int i =>
          cases r2 with
          | cons r3 r4 =>
            cases r4
            cases r3 with
            | str g => exact .cons h g (pairs_at t)
theorem pairs_rep {K : PySem.W.Frag} {bg : Option (Addr × Addr)} {H : Hp} : ∀ {vs : List V} {ps : List (Int × Str)}, PairsAt K H vs ps → RepL K bg H vs (ps.map pairD)
  | _, _, .nil => .nil
  | _, _, .cons h g t => .cons (.tup h (by show 2 ≤ sizeLine; decide) (.cons (.int _) (.cons (.str g) .nil))) (pairs_rep t)
theorem each_pair {K : PySem.W.Frag} {H : Hp} : ∀ {us : List Value} {vs : List V} {row : List (Int × Str)}, Vals vs us → PairsAt K H vs row → EachIs (fun v b => ∃ r, v = Value.ref r ∧ SqT K H r [.int b.1, .str b.2] ∧ GoodS b.2) us row
  | _, _, _, .nil, .nil => .nil
  | _, _, _, .cons r h, .cons k g t => .cons ⟨_, r, k, g⟩ (each_pair h t)
theorem pair_each {K : PySem.W.Frag} {H : Hp} : ∀ {us : List Value} {row : List (Int × Str)}, EachIs (fun v b => ∃ r, v = Value.ref r ∧ SqT K H r [.int b.1, .str b.2] ∧ GoodS b.2) us row → ∃ vs, Vals vs us ∧ PairsAt K H vs row
  | _, _, .nil => ⟨[], .nil, .nil⟩
  | _, _, .cons ⟨r, e, k, g⟩ h => by
    obtain ⟨vs, h1, h2⟩ := pair_each h
    exact ⟨.ref r :: vs, .cons e h1, .cons k g h2⟩
theorem PairsAt.len {K : PySem.W.Frag} {H : Hp} : ∀ {vs : List V} {row : List (Int × Str)}, PairsAt K H vs row → vs.length = row.length
  | _, _, .nil => rfl
  | _, _, .cons _ _ t => congrArg (· + 1) t.len
theorem PairsAt.same {K : PySem.W.Frag} {H H' : Hp} (e : Same H H') : ∀ {vs : List V} {row : List (Int × Str)}, PairsAt K H vs row → PairsAt K H' vs row
  | _, _, .nil => .nil
  | _, _, .cons h g t => .cons (sqt_same e h) g (t.same e)
def rSortedPair (K : PySem.W.Frag) : List V → Hp → VK → Prop := fun vs H Q => ∃ (a : Addr) (ws : List V) (row : List (Int × Str)) (H' : Hp), vs = [V.ref a] ∧ SqL K H a ws ∧ Same H' H ∧ PairsAt K H' ws row ∧
  ∀ p ws', H p = none → PairsAt K H' ws' (row.mergeSort So.leP) → Q (.ref p) (upd H p (.lst ws'))
theorem cr_sortedPair (hu : X.A.units + 3 < cLine) : CallR X (.builtin "sorted") (rSortedPair X.K) := by
  intro pins s σ H vs us Q I r h
  obtain ⟨a, ws, row, H', rfl, hs, sm, hk, q⟩ := h
  obtain ⟨its, rv, hl, hz⟩ := I.list hs
  rw [Vals.ref1 r]
  have hlen := hk.len
  have ei := each_pair rv hk
  have er : EachIs (fun v b => ∃ as, Reads s.heap v (So.encP b) as) its row := ei.mono fun v b hv => by
    obtain ⟨r, e, k, g⟩ := hv
    subst e
    obtain ⟨its2, r2, ⟨o, ho, hc, n, hd⟩, _⟩ := I.tuple (sqt_same sm k)
    obtain ⟨u1, u2, e2, ri, rj⟩ := vals2 r2
    subst e2
    obtain ⟨t1, rfl⟩ := ri
    obtain ⟨t2, rfl⟩ := rj
    exact ⟨_, .tuple ho hc hd (.cons (.int _ _) (.cons (.str _ _) .nil))⟩
  refine PySem.W.sorted_data (R := fun v b => ∃ r, v = Value.ref r ∧ SqT X.K H' r [.int b.1, .str b.2] ∧ GoodS b.2) (enc := So.encP) hl.isList ei er (AllAlike.of fun b b' => by simp [So.encP, alike, alikeAll]) (Sortable.tuples fun b => ⟨_, _, rfl⟩) (by omega) (fun b _ => show X.A.units + 2 + 1 < cLine from hu) fun out h1 h2 => ?_
  obtain ⟨ws', h3, h4⟩ := pair_each h2
  obtain ⟨ep, he'⟩ := PyProof.Rows.sortedAll_at s.heap its out.toArray
  have hlen' : ws'.length ≤ sizeLine := by
    rw [h4.len, List.length_mergeSort]
    omega
  exact ⟨.ref _, upd H (s.heap.objs.size + 1) (.lst ws'), I.laid (t' := s.toks) (fun _ _ => PyProof.Rows.sortedAll_old) (Nat.le_succ _) ⟨hlen', out, ep, h3, he'⟩, rfl, q _ _ (I.hok.fresh (Nat.le_succ _)) h4⟩
def wSortedPair (w : WA) : WO := fun env n Q => w env n fun ds n1 => ∃ row : List (Int × Str), ds = [.lst (row.map pairD)] ∧ Q (.lst ((row.mergeSort So.leP).map pairD)) n1
theorem df_sortedPair {w : WA} (hm : X.mg "sorted" = none) (hu : X.A.units + 64 < cLine) (ha : DAB X [a] w) (hg : Gl X "sorted" := by rfl)
    (he : starEach (a :: []) X.env = (false, eval a X.env) :: starEach [] X.env := by rfl) (hpl : (backTo pos (starEach [] X.env)).any (·.1) = false := by rfl) : DF X (.Call (.Name "sorted" p) [a] [] pos) (wSortedPair w) :=
  .of (pe_callB (cr_sortedPair (by omega)) hg hm (by decide +kernel) ha.pa (by decide) (by decide) he hpl) fun σ H Q ⟨c, ad, n, env, Q0, R, q0, q⟩ => ⟨c, ad, n, env, _, R, q0, fun ds n1 ⟨row, ed, q1⟩ vs H1 e1 s1 => by
    subst ed
    obtain ⟨v, rfl, s'⟩ := s1.one
    obtain ⟨b, ws, rfl, hp, hl, r⟩ := s'.lst'
    refine ⟨b, ws, row, cut (Oa c ad env) H1, rfl, .inl (.inl hp), cut_le, pairs_at r, fun l ws' hl' hw => ?_⟩
    obtain ⟨h1, h2, h3, h4⟩ := new_at R e1 hl' (by rw [hw.len, List.length_mergeSort, ← (pairs_at r).len]; exact hl) (pairs_rep hw)
    exact q _ _ q1 l _ _ h1 h2 h3 h4⟩
end
end Dv

set_option Elab.async false
set_option linter.all false
set_option maxRecDepth 100000
set_option maxHeartbeats 4000000
/-! ZipS: zip of two texts -/
namespace Zs
open PySem PySem.Spec PyProof.Rows L2 Dv
def ItzS (x y : Str) : It :=
  ⟨fun i _ => i < min x.cps.size y.cps.size,
   fun i H v H' => ∃ T c d, v = .ref T ∧ H T = none ∧ H' = upd H T (.tup [.str ⟨#[c]⟩, .str ⟨#[d]⟩]) ∧ x.cps[i]? = some c ∧ y.cps[i]? = some d,
   fun i _ => i = min x.cps.size y.cps.size⟩
abbrev StS (x : Str) (t : Tok) (a : Addr) (i : Nat) (h : Heap) : Prop := h.IsStrIter a (strIterType x) x t i
theorem turn_zipS {P : Program} {w : World} {K : PySem.W.Frag} {elts : List Expr} {kk : Nat} {tpos : Pos} {x y : Str} {t u : Tok} {z TI TO i1 i2 : Addr} (D : ZipSep2 z TI TO i1 i2 [i1] [i2]) :
    Turn P w K (.Tuple elts kk tpos) (ItzS x y) (z :: TI :: TO :: ([i1] ++ [i2])) z (fun i h => IsZip h z TI TO .none ∧ IsTupOf2 h TI (.ref i1) (.ref i2) ∧ (∃ a1 a2, IsTupOf2 h TO a1 a2) ∧ StS x t i1 i h ∧ StS y u i2 i h) where
  mem := by simp
  obj := fun i h st c hc => by
    obtain ⟨hz, hTI, ⟨a, b, hTO⟩, ⟨o1, e1, _, d1⟩, ⟨o2, e2, _, d2⟩⟩ := st
    have e' : c = z ∨ c = TI ∨ c = TO ∨ c = i1 ∨ c = i2 := by simpa using hc
    rcases e' with q | q | q | q | q
    · rw [q]; exact ⟨_, hz, fun v q => nomatch q⟩
    · rw [q]; exact ⟨_, hTI, fun v q => nomatch q⟩
    · rw [q]; exact ⟨_, hTO, fun v q => nomatch q⟩
    · rw [q]; exact ⟨o1, e1, fun v q => by rw [d1] at q; cases q⟩
    · rw [q]; exact ⟨o2, e2, fun v q => by rw [d2] at q; cases q⟩
  keep := fun i h h' st k => by
    obtain ⟨hz, hTI, ⟨a, b, hTO⟩, ⟨o1, e1, r1⟩, ⟨o2, e2, r2⟩⟩ := st
    exact ⟨k z (by simp) _ hz, k TI (by simp) _ hTI, ⟨a, b, k TO (by simp) _ hTO⟩, ⟨o1, k i1 (by simp) _ e1, r1⟩, ⟨o2, k i2 (by simp) _ e2, r2⟩⟩
  item := by
    intro X hP hw hK hc i pins s σ H E I hf st hg
    subst hP hw hK
    have hh : X.A.in1.handled = none := I.ok.hd hc
    have W := WalksT.zipD2 (prog := X.prog) (w := X.w) (A := X.A) D (Draws.text hh i1 x t) (Draws.text hh i2 y u)
    refine W.item i s _ _ hg st fun T vals h' tk ⟨u1, u2, ⟨c, t1, hc1, e1⟩, ⟨d, t2, hd1, e2⟩, ev⟩ hT hTup hm hk => ⟨_, rfl, ?_⟩
    refine W.go elts kk tpos i T { s with heap := h', toks := tk } _ _ hm fun h'' st'' hk2 => ?_
    subst ev e1 e2
    have hT2 : h''.IsTuple T #[.str ⟨#[c]⟩ t1, .str ⟨#[d]⟩ t2] := hTup.at fun o e => hk2 T o (W.apart i T h' hm) e
    have hfr : H T = none := I.hok.fresh hT
    have new : ObjOk X.prog X.w (upd H T (.tup [.str ⟨#[c]⟩, .str ⟨#[d]⟩])) h'' T (.tup [.str ⟨#[c]⟩, .str ⟨#[d]⟩]) := by
      obtain ⟨o, ho, hcl, n, hd⟩ := hT2
      exact ⟨by show 2 ≤ sizeLine; decide, [.str ⟨#[c]⟩ t1, .str ⟨#[d]⟩ t2], .cons ⟨t1, rfl⟩ (.cons ⟨t2, rfl⟩ .nil), ⟨o, ho, hcl, n, hd⟩⟩
    have sub : ∀ b, b ∉ (z :: TI :: TO :: ([i1] ++ [i2])) → b ∉ [z, TO, i1, i2] := fun b h1 h2 => h1 (by
      have h2' : b = z ∨ b = TO ∨ b = i1 ∨ b = i2 := by simpa using h2
      rcases h2' with q | q | q | q <;> simp [q])
    have I1 : Inv X pins σ (upd H T (.tup [.str ⟨#[c]⟩, .str ⟨#[d]⟩])) { s with heap := h'', toks := tk } :=
      I.turnedNew (t' := tk) (ch := z :: TI :: TO :: ([i1] ++ [i2])) (fun b o hb q => hk2 b o (sub b hb) (hk b o (sub b hb) q)) hf hT new
    refine ⟨.ref T, _, I1, rfl, ⟨T, c, d, rfl, hfr, rfl, hc1, hd1⟩, st'', fun b hb => ?_⟩
    have hbn : b ≠ T := fun q => by
      have hlt : b < s.heap.objs.size := by
        obtain ⟨hz, hTI, ⟨a1, a2, hTO⟩, ⟨o1, e1, _⟩, ⟨o2, e2, _⟩⟩ := st
        have e' : b = z ∨ b = TI ∨ b = TO ∨ b = i1 ∨ b = i2 := by simpa using hb
        rcases e' with q | q | q | q | q
        · rw [q]; exact Heap.lt_size hz
        · rw [q]; exact Heap.lt_size hTI
        · rw [q]; exact Heap.lt_size hTO
        · rw [q]; exact Heap.lt_size e1
        · rw [q]; exact Heap.lt_size e2
      rw [q] at hlt
      exact Nat.not_lt.2 hT hlt
    rw [upd_ne hbn]
    exact (hf b hb).1
  done := by
    intro X hP hw hK hc i pins s σ H E I hf st hg
    subst hP hw hK
    have hh : X.A.in1.handled = none := I.ok.hd hc
    have W := WalksT.zipD2 (prog := X.prog) (w := X.w) (A := X.A) D (Draws.text hh i1 x t) (Draws.text hh i2 y u)
    have hi : i = min x.cps.size y.cps.size := hg
    subst hi
    refine W.done s _ _ st fun h' tk hk => ⟨rfl, I.turnedL (t' := tk) (ch := z :: TI :: TO :: ([i1] ++ [i2])) (fun b o hb q => hk b o (fun h2 => hb ?_) q) hf⟩
    have h2' : b = z ∨ b = TO ∨ b = i1 ∨ b = i2 := by simpa using h2
    rcases h2' with q | q | q | q <;> simp [q]
  self := fun A i s Q E st h => wpAny_pyIter_zip st.1 h
def iZipS (ta : TA) : TI := fun σ H R => ta σ H fun vs H1 => ∃ x y : Str, vs = [.str x, .str y] ∧ R (ItzS x y) H1
theorem pi_zipS {X : Cx} {e e2 : Expr} {ta : TA} {p pos tpos : Pos} {elts : List Expr} {kk : Nat} (hg : Gl X "zip") (hm : X.mg "zip" = none) (ha : PA X [e, e2] ta)
    (hs : starEach [e, e2] X.env = (false, eval e X.env) :: starEach [e2] X.env := by rfl) (hpl : (backTo pos (starEach [e2] X.env)).any (·.1) = false := by rfl) :
    PI X (.Tuple elts kk tpos) (.Call (.Name "zip" p) [e, e2] [] pos) (iZipS ta) := by
  refine ⟨fun pins s σ H R I h => ?_⟩
  refine Call_ (ld_blt I hg hm PyProof.Rows.boot_zip (PyProof.Rows.callWith_type1 (thn (ha.run pos pins s σ H _ I h) fun us s1 ⟨vs, H1, I1, r1, q1⟩ => ?_) hs hpl))
  obtain ⟨x, y, ex, q⟩ := q1
  subst ex
  cases r1 with
  | cons r rr =>
    cases rr with
    | cons r' rr =>
      cases rr
      obtain ⟨t, rfl⟩ := r
      obtain ⟨u, rfl⟩ := r'
      have fresh5 : ∀ c, c ∈ ((s1.heap.objs.size + 4) :: (s1.heap.objs.size + 2) :: (s1.heap.objs.size + 3) :: ([s1.heap.objs.size] ++ [s1.heap.objs.size + 1])) → FpOk X pins H1 c := fun c hcm => by
        have e' : c = s1.heap.objs.size + 4 ∨ c = s1.heap.objs.size + 2 ∨ c = s1.heap.objs.size + 3 ∨ c = s1.heap.objs.size ∨ c = s1.heap.objs.size + 1 := by simpa using hcm
        have hle : s1.heap.objs.size ≤ c := by omega
        exact I1.fpOk hle (I1.hok.fresh hle)
      refine zip_begins2 (begins_text x t) (begins_text y u) trivial trivial fun h' hz hTI hTO h1 h2 hsz hk => wpAny_pyIter_zip hz ?_
      have I2 : Inv X pins σ H1 { s1 with heap := h' } := I1.kept (t' := s1.toks) hk
      refine ⟨s1.heap.objs.size + 4, _, _, _, H1, rfl, I2, turn_zipS (x := x) (y := y) (t := t) (u := u) (z := s1.heap.objs.size + 4) (TI := s1.heap.objs.size + 2) (TO := s1.heap.objs.size + 3) (i1 := s1.heap.objs.size) (i2 := s1.heap.objs.size + 1) ⟨?_, ?_, ?_, ?_, ?_, ?_, ?_, ?_, ?_, ?_, ?_, ?_, ?_⟩, ⟨hz, hTI, ⟨_, _, hTO⟩, ⟨_, h1, rfl, rfl⟩, ⟨_, h2, rfl, rfl⟩⟩, fresh5, q⟩ <;> simp
def zipSD (x y : Str) : List D := (x.cps.toList.zip y.cps.toList).map fun p => .tup [.str ⟨#[p.1]⟩, .str ⟨#[p.2]⟩]
theorem zipSD_len (x y : Str) : (zipSD x y).length = min x.cps.size y.cps.size := by unfold zipSD; rw [List.length_map, List.length_zip, Array.length_toList, Array.length_toList]
theorem yl_zipS {K : PySem.W.Frag} {bg : Option (Addr × Addr)} {O : Addr → Prop} {H : Hp} {x y : Str} (gx : GoodS x) (gy : GoodS y) : Yl K bg O H (ItzS x y) (zipSD x y) := by
  refine ⟨fun H2 sm => ?_, fun i H2 sm hi => ?_, fun i H2 v H3 hlt sm ⟨T, c, d, ev, hT, e3, h1, h2⟩ => ?_⟩
  · exact zipSD_len x y
  · rw [zipSD_len] at hi
    exact hi
  · subst ev e3
    have h1' : x.cps.toList[i]? = some c := by rw [Array.getElem?_toList]; exact h1
    have h2' : y.cps.toList[i]? = some d := by rw [Array.getElem?_toList]; exact h2
    refine ⟨.tup [.str ⟨#[c]⟩, .str ⟨#[d]⟩], ?_, fun b o hb => ?_, fun O2 hO2 hO => ?_⟩
    · unfold zipSD
      rw [List.getElem?_map, List.getElem?_zip_eq_some (z := (c, d)) |>.2 ⟨h1', h2'⟩]
      rfl
    · rw [upd_ne (fun z => by rw [z, hT] at hb; cases hb)]
      exact hb
    · exact (pair_new hT hO2 (.str (one_good gx (List.mem_of_getElem? h1'))) (.str (one_good gy (List.mem_of_getElem? h2')))).2
def wZipS (w : WA) : WI := fun env n Q => w env n fun ds n1 => ∃ x y, ds = [.str x, .str y] ∧ Q (zipSD x y) n1
theorem di_zipS {X : Cx} {e1 e2 : Expr} {w : WA} {p pos tpos : Pos} {elts : List Expr} {kk : Nat} (hm : X.mg "zip" = none) (ha : DA X [e1, e2] w) (hg : Gl X "zip" := by rfl)
    (hs : starEach [e1, e2] X.env = (false, eval e1 X.env) :: starEach [e2] X.env := by rfl) (hpl : (backTo pos (starEach [e2] X.env)).any (·.1) = false := by rfl) : DI X (.Tuple elts kk tpos) (.Call (.Name "zip" p) [e1, e2] [] pos) (wZipS w) :=
  .of (pi_zipS hg hm ha.pa hs hpl) fun σ H R ⟨c, ad, n, env, Y0, RL, q0, q⟩ => ⟨c, ad, n, env, _, RL, q0, fun ds n1 ⟨x, y, ed, q1⟩ vs H1 e1 r1 => by
    subst ed
    cases r1 with
    | cons h t => cases t with
      | cons h' t' =>
        cases t'
        cases h with
        | str gx =>
          cases h' with
          | str gy => exact ⟨x, y, rfl, q _ _ q1 _ _ e1 (yl_zipS gx gy)⟩⟩
end Zs

set_option Elab.async false
set_option linter.all false
set_option maxRecDepth 100000
set_option maxHeartbeats 4000000
/-! DvB: all, any, sum of lists; text.index; two names stored at once -/
namespace Dv
open PySem PySem.Spec PyProof.Rows L2
section
variable {X : Cx}
theorem repL_bls {K : PySem.W.Frag} {bg : Option (Addr × Addr)} {H : Hp} : ∀ {vs : List V} {bs : List Bool}, RepL K bg H vs (bs.map D.bl) → vs = bs.map V.bl
  | _, [], .nil => rfl
  | _, b :: bs, .cons h t => by
    cases h
    rw [repL_bls t]
    rfl
theorem repL_ints {K : PySem.W.Frag} {bg : Option (Addr × Addr)} {H : Hp} : ∀ {vs : List V} {bs : List Int}, RepL K bg H vs (bs.map D.int) → vs = bs.map V.int
  | _, [], .nil => rfl
  | _, b :: bs, .cons h t => by
    cases h
    rw [repL_ints t]
    rfl
def rAllD : RC := fun ds Q => ∃ bs : List Bool, ds = [.lst (bs.map D.bl)] ∧ Q (.bl (bs.all id))
theorem cd_all (hc : X.calm = true) : CallD X (.builtin "all") rAllD := by
  refine ⟨⟨_, cr_all hc, ?_⟩⟩
  rintro bg O H vs ds Q0 Q hO s ⟨bs, rfl, h⟩ q
  obtain ⟨v, rfl, s'⟩ := s.one
  obtain ⟨p, ws, rfl, hp, hl, r⟩ := s'.lst'
  exact ⟨p, bs, rfl, by rw [← repL_bls r]; exact .inl (.inl hp), q _ h _ _ (.refl _) (.bl _)⟩
def rAnyD : RC := fun ds Q => ∃ bs : List Bool, ds = [.lst (bs.map D.bl)] ∧ Q (.bl (bs.any id))
theorem cd_any (hc : X.calm = true) : CallD X (.builtin "any") rAnyD := by
  refine ⟨⟨_, cr_any hc, ?_⟩⟩
  rintro bg O H vs ds Q0 Q hO s ⟨bs, rfl, h⟩ q
  obtain ⟨v, rfl, s'⟩ := s.one
  obtain ⟨p, ws, rfl, hp, hl, r⟩ := s'.lst'
  exact ⟨p, bs, rfl, by rw [← repL_bls r]; exact .inl (.inl hp), q _ h _ _ (.refl _) (.bl _)⟩
def rSumD : RC := fun ds Q => ∃ bs : List Int, ds = [.lst (bs.map D.int)] ∧ Q (.int bs.sum)
theorem cd_sum (hc : X.calm = true) : CallD X (.builtin "sum") rSumD := by
  refine ⟨⟨_, cr_sum hc, ?_⟩⟩
  rintro bg O H vs ds Q0 Q hO s ⟨bs, rfl, h⟩ q
  obtain ⟨v, rfl, s'⟩ := s.one
  obtain ⟨p, ws, rfl, hp, hl, r⟩ := s'.lst'
  exact ⟨p, bs, rfl, by rw [← repL_ints r]; exact .inl (.inl hp), q _ h _ _ (.refl _) (.int _)⟩
/-- x.index(y) of texts -/
def rIndexS : RR := fun x y Q => match x, y with
  | .str a, .str b => ∃ i rest, Builtin.Str.occurrences a b 0 a.length 1 = i :: rest ∧ Q (.int (i : Nat))
  | _, _ => False
theorem md_index : MtD1 X "str.index" rIndexS := by
  refine ⟨⟨_, mt_sindex, ?_⟩⟩
  intro bg O H v1 v2 d1 d2 Q0 Q hO s1 s2 h q
  unfold rIndexS at h
  split at h
  · obtain ⟨i, rest, e, h⟩ := h
    cases s1.str'.1; cases s2.str'.1
    exact ⟨_, _, i, rest, rfl, rfl, e, q _ h _ _ (.refl _) (.int _)⟩
  · exact h.elim
theorem de_index {o e : Expr} {wa wb : WE} {apos pos : Pos} (ho : DB X o wa) (he : DB X e wb)
    (hs : starEach [e] X.env = [(false, eval e X.env)] := by rfl) (hbase : attributeBase o "index" X.env (eval o X.env) = eval o X.env := by rfl) (hline : (apos.endLine == pos.line) = true := by rfl) : DE X (.Call (.Attribute o "index" apos) [e] [] pos) (wMt1 rIndexS wa wb) :=
  de_m1 PySem.F.slot_str_index PySem.F.type_str_index md_index ho he hs hbase hline
/-- a, b = e1, e2 -/
theorem ds_par {i j : Nat} {x y : Str} {a b : Expr} {w : WA} {px py pt pos : Pos} {kt k2 pt2} (hN : X.N.Nodup) (hi : X.N[i]? = some x) (hj : X.N[j]? = some y) (hij : i ≠ j)
    (hx : X.env.scope.names.lookup x = some .local) (hy : X.env.scope.names.lookup y = some .local) (ha : DA X [a, b] w)
    (hw : swappedStores [.Tuple [.Name x px, .Name y py] kt pt] (.Tuple [a, b] k2 pt2) X.env = pure (some [x, y]) := by rfl)
    (hc : X.calm = true := by rfl) (hs : swapsWithSole [.Tuple [.Name x px, .Name y py] kt pt] (.Tuple [a, b] k2 pt2) pos.line X.env = pure false := by rfl) :
    DS X (.Assign [.Tuple [.Name x px, .Name y py] kt pt] (.Tuple [a, b] k2 pt2) pos) (wPar i j w) :=
  .of (ps_par hc hN hi hj hij hx hy ha.pa hw hs) fun E σ H ⟨c, ad, n, env, D0, R, q0, S⟩ => ⟨c, ad, n, env, _, R, q0, fun ds n1 ⟨d, e, ed, q1⟩ vs H1 e1 r1 => by
    subst ed
    cases r1 with
    | @cons v _ _ _ h t =>
      cases t with
      | @cons v2 _ _ _ h2 t =>
        cases t
        have R1 := (R.step e1).set (i := i) h
        have oal : ∀ a, Oa c ad (env.set i (.val d)) a → Oa c ad env a := fun a => oa_less (fun o z => by cases z)
        refine ⟨v, v2, rfl, ?_⟩
        first
        | exact S.nx _ _ q1 _ _ _ (R1.set (i := j) (h2.same (cut_mono fun a o h1 h2 => ⟨fun z => h1 (oal a z), h2⟩)))
        | skip⟩
theorem s_all {Q : D → Prop} {bs : List Bool} : rAllD [.lst (bs.map D.bl)] Q = Q (.bl (bs.all id)) := propext ⟨fun ⟨b, e, h⟩ => by
  have : bs = b := by
    have e' := D.lst.inj (List.cons.inj e).1
    exact List.map_inj_right (fun x y z => D.bl.inj z) |>.1 e'
  subst this
  exact h, fun h => ⟨bs, rfl, h⟩⟩
end
end Dv

set_option Elab.async false
set_option linter.all false
set_option maxRecDepth 100000
set_option maxHeartbeats 4000000
/-! DvC: readings of comprehensions and loops -/
namespace Dv
open PySem PySem.Spec PyProof.Rows L2
section
variable {env : En} {i n : Nat} {wa wb : WE} {g : WG} {wt : WT} {we : WE} {vs : List Nat}
def asZip (d e : D) (Q : List D → Prop) : Prop := match d, e with
  | .lst xs, .lst ys => Q (zipD xs ys)
  | .tup xs, .tup ys => Q (zipD xs ys)
  | _, _ => False
def asStr (d : D) (Q : Str → Prop) : Prop := match d with
  | .str s => Q s
  | _ => False
theorem s_zip {Q : List D → Nat → Prop} : wZip (wCons wa (wCons wb wNil)) env n Q = wa env n fun d n1 => wb env n1 fun e n2 => asZip d e fun ys => Q ys n2 := by
  unfold wZip wCons wNil
  congr 1
  funext d n1
  congr 1
  funext e n2
  refine propext ⟨fun ⟨xs, ys, h, q⟩ => ?_, fun h => ?_⟩
  · rcases h with h | h <;> cases h <;> exact q
  · unfold asZip at h
    split at h
    · exact ⟨_, _, .inl rfl, h⟩
    · exact ⟨_, _, .inr rfl, h⟩
    · exact h.elim
theorem s_zipS {Q : List D → Nat → Prop} : Zs.wZipS (wCons wa (wCons wb wNil)) env n Q = wa env n fun d n1 => wb env n1 fun e n2 => asStr d fun x => asStr e fun y => Q (Zs.zipSD x y) n2 := by
  unfold Zs.wZipS wCons wNil
  congr 1
  funext d n1
  congr 1
  funext e n2
  refine propext ⟨fun ⟨xs, ys, h, q⟩ => ?_, fun h => ?_⟩
  · cases h; exact q
  · unfold asStr at h
    split at h
    · split at h
      · exact ⟨_, _, rfl, h⟩
      · exact h.elim
    · exact h.elim
theorem s_rng1 {Q : List D → Nat → Prop} : wRng1 (wCons wa wNil) env n Q = wa env n fun d n1 => asInt d fun j => (-(2 ^ 62) ≤ j ∧ j < 2 ^ 62) ∧ Q (rngD 0 j.toNat) n1 := by
  unfold wRng1 wCons wNil
  congr 1
  funext d n1
  rw [← ex_int]
  exact propext ⟨fun ⟨j, h, h1, h2, q⟩ => ⟨j, (List.cons.inj h).1, ⟨h1, h2⟩, q⟩, fun ⟨j, h, ⟨h1, h2⟩, q⟩ => ⟨j, by rw [h], h1, h2, q⟩⟩
theorem s_rng2 {Q : List D → Nat → Prop} : wRng2 (wCons wa (wCons wb wNil)) env n Q = wa env n fun d n1 => wb env n1 fun e n2 => asInt d fun i => asInt e fun j => (-(2 ^ 62) ≤ i ∧ i < 2 ^ 62 ∧ -(2 ^ 62) ≤ j ∧ j < 2 ^ 62) ∧ Q (rngD i (j - i).toNat) n2 := by
  unfold wRng2 wCons wNil
  congr 1
  funext d n1
  congr 1
  funext e n2
  rw [← ex_int]
  simp only [← ex_int]
  exact propext ⟨fun ⟨i, j, h, h1, q⟩ => ⟨i, (List.cons.inj h).1, j, (List.cons.inj (List.cons.inj h).2).1, h1, q⟩, fun ⟨i, h, j, h', h1, q⟩ => ⟨i, j, by rw [h, h'], h1, q⟩⟩
theorem asZip_lst {xs ys : List D} {Q : List D → Prop} : asZip (.lst xs) (.lst ys) Q = Q (zipD xs ys) := rfl
theorem asZip_tup {xs ys : List D} {Q : List D → Prop} : asZip (.tup xs) (.tup ys) Q = Q (zipD xs ys) := rfl
theorem asStr_str {s : Str} {Q : Str → Prop} : asStr (.str s) Q = Q s := rfl
theorem rngD_len (lo : Int) (k : Nat) : (rngD lo k).length = k := by unfold rngD; simp
theorem rngD_get {lo : Int} {k i : Nat} {y : D} (h : (rngD lo k)[i]? = some y) : i < k ∧ y = .int (lo + (i : Nat)) := by
  have hl : i < (rngD lo k).length := (List.getElem?_eq_some_iff.1 h).1
  rw [rngD_len] at hl
  refine ⟨hl, ?_⟩
  unfold rngD at h
  rw [List.getElem?_map, List.getElem?_range hl] at h
  exact (Option.some.inj h).symm
/-- what is left of a comprehension when what it walks is known -/
def LcR (g : WG) (wt : WT) (we : WE) (vs : List Nat) (env : En) (ys : List D) (n : Nat) (Q : List D → Nat → Prop) : Prop := ∃ Iv : Nat → List D → Nat → Prop, Iv 0 [] n ∧ (∀ ds n, Iv ys.length ds n → Q ds n) ∧
  ∀ i y ds n, ys[i]? = some y → Iv i ds n → g y (wipeE env vs) fun env2 => wt env2 n fun k n2 => if k = true then we env2 n2 fun d n3 => ds.length < sizeLine ∧ Iv (i + 1) (ds ++ [d]) n3 else Iv (i + 1) ds n2
theorem s_lc {wi : WI} {Q : Ob → Nat → Prop} : wLc wi g wt we vs env n Q = (noOwn env vs = true ∧ wi env n fun ys n1 => LcR g wt we vs env ys n1 fun ds n => Q (.lst ds) n) := rfl
/-- what is left of a loop when what it walks is known -/
def ForR (g : WG) (w : WS) (ys : List D) (D : DEnds) (env : En) (n : Nat) : Prop := ∃ Inv : Nat → En → Nat → Prop, Inv 0 env n ∧ (∀ env n, Inv ys.length env n → D.nx env n) ∧
  ∀ i y env n, ys[i]? = some y → Inv i env n → g y env fun env' => w { D with nx := Inv (i + 1), ct := Inv (i + 1), bk := D.nx } env' n
theorem s_for {wi : WI} {w : WS} {D : DEnds} : wFor wi g w D env n = wi env n fun ys n1 => ForR g w ys D env n1 := rfl
/-- a comprehension without draws -/
theorem lc_map {ys : List D} {Q : List D → Nat → Prop} (f : D → D) (hl : ys.length ≤ sizeLine) (hQ : Q (ys.map f) n)
    (h : ∀ (i : Nat) (y : D), ys[i]? = some y → ∀ R : D → Nat → Prop, R (f y) n → g y (wipeE env vs) fun env2 => we env2 n R) :
    LcR g wYes we vs env ys n Q := by
  refine ⟨fun i ds n' => ds = (ys.take i).map f ∧ n' = n, ⟨rfl, rfl⟩, ?_, ?_⟩
  · rintro ds n' ⟨rfl, rfl⟩
    rw [List.take_length]
    exact hQ
  · rintro i y ds n' hy ⟨rfl, rfl⟩
    have hi : i < ys.length := (List.getElem?_eq_some_iff.1 hy).1
    refine h i y hy _ ⟨?_, ?_, rfl⟩
    · rw [List.length_map, List.length_take]
      omega
    · rw [List.take_add_one, hy, List.map_append]
      rfl
/-- the same with a test -/
theorem lc_filter {ys : List D} {Q : List D → Nat → Prop} (p : D → Bool) (f : D → D) (hl : ys.length ≤ sizeLine) (hQ : Q ((ys.filter p).map f) n)
    (h : ∀ (i : Nat) (y : D), ys[i]? = some y → ∀ (R : D → Nat → Prop) (S : Nat → Prop), (p y = true → R (f y) n) → (p y = false → S n) → g y (wipeE env vs) fun env2 => wt env2 n fun k n2 => if k = true then we env2 n2 R else S n2) :
    LcR g wt we vs env ys n Q := by
  refine ⟨fun i ds n' => ds = ((ys.take i).filter p).map f ∧ n' = n, ⟨rfl, rfl⟩, ?_, ?_⟩
  · rintro ds n' ⟨rfl, rfl⟩
    rw [List.take_length]
    exact hQ
  · rintro i y ds n' hy ⟨rfl, rfl⟩
    have hi : i < ys.length := (List.getElem?_eq_some_iff.1 hy).1
    have et : (ys.take (i + 1)).filter p = (ys.take i).filter p ++ [y].filter p := by
      rw [List.take_add_one, hy, List.filter_append]
      rfl
    refine h i y hy _ _ (fun hp => ⟨?_, ?_, rfl⟩) (fun hp => ⟨?_, rfl⟩)
    · rw [List.length_map]
      have := List.length_filter_le p (ys.take i)
      rw [List.length_take] at this
      omega
    · rw [et, List.map_append, List.filter_cons_of_pos hp]
      rfl
    · rw [et, List.filter_cons_of_neg (by rw [hp]; exact Bool.false_ne_true)]
      simp
/-- a comprehension that draws: each item is one of V, at most c draws for each -/
theorem lc_draw {ys : List D} {Q : List D → Nat → Prop} (V : Nat → D → Prop) (c : Nat) (hl : ys.length ≤ sizeLine) (hQ : ∀ ds n', ds.length = ys.length → (∀ (i : Nat) (d : D), ds[i]? = some d → V i d) → n ≤ n' → n' ≤ n + ys.length * c → Q ds n')
    (h : ∀ (i : Nat) (y : D), ys[i]? = some y → ∀ (n1 : Nat) (R : D → Nat → Prop), n ≤ n1 → n1 ≤ n + i * c → (∀ d n2, V i d → n1 ≤ n2 → n2 ≤ n1 + c → R d n2) → g y (wipeE env vs) fun env2 => we env2 n1 R) :
    LcR g wYes we vs env ys n Q := by
  refine ⟨fun i ds n' => ds.length = i ∧ (∀ (j : Nat) (d : D), ds[j]? = some d → V j d) ∧ n ≤ n' ∧ n' ≤ n + i * c, ⟨rfl, fun j d e => by simp at e, Nat.le_refl _, by omega⟩, ?_, ?_⟩
  · rintro ds n' ⟨h1, h2, h3, h4⟩
    exact hQ ds n' h1 h2 h3 h4
  · rintro i y ds n' hy ⟨h1, h2, h3, h4⟩
    have hi : i < ys.length := (List.getElem?_eq_some_iff.1 hy).1
    refine h i y hy n' _ h3 h4 fun d n2 hv hn hn2 => ⟨by omega, by rw [List.length_append, h1]; rfl, fun j e he => ?_, by omega, ?_⟩
    · by_cases hj : j < ds.length
      · rw [List.getElem?_append_left hj] at he
        exact h2 j e he
      · rw [List.getElem?_append_right (by omega)] at he
        have hj2 : j - ds.length = 0 := by
          cases z : j - ds.length with
          | zero => rfl
          | succ k => rw [z] at he; simp at he
        rw [hj2] at he
        have : j = i := by omega
        rw [this]
        simp at he
        rw [← he]
        exact hv
    · rw [Nat.succ_mul]
      omega
end
end Dv

set_option Elab.async false
set_option linter.all false
set_option maxRecDepth 100000
set_option maxHeartbeats 4000000
/-! DvD: texts of signs: join, times; lengths -/
namespace Dv
open PySem PySem.Spec PyProof.Rows L2
theorem len_toList (s : Str) : s.length = s.cps.toList.length := (Array.length_toList).symm
def sgn (c : Nat) : Str := ⟨#[c]⟩
theorem signs_of {P : Nat → Prop} : ∀ {ds : List D}, (∀ (i : Nat) (d : D), ds[i]? = some d → ∃ c, P c ∧ d = .str (sgn c)) → ∃ cs : List Nat, ds = cs.map (fun c => D.str (sgn c)) ∧ ∀ c ∈ cs, P c
  | [], _ => ⟨[], rfl, fun c h => by cases h⟩
  | d :: ds, h => by
    obtain ⟨c, hc, e⟩ := h 0 d rfl
    obtain ⟨cs, e2, h2⟩ := signs_of (ds := ds) fun i d' h' => h (i + 1) d' (by simpa using h')
    refine ⟨c :: cs, by rw [e, e2]; rfl, fun x hx => ?_⟩
    rcases List.mem_cons.1 hx with e | hx
    · rw [e]; exact hc
    · exact h2 x hx
theorem inter_nil {α : Type} : ∀ (l : List (List α)), (l.intersperse []).flatten = l.flatten
  | [] => rfl
  | [x] => by simp
  | x :: y :: l => by
    rw [List.intersperse_cons₂, List.flatten_cons, List.flatten_cons, inter_nil (y :: l)]
    rfl
theorem join_nil (ss : List Str) : (Txt.join "" ss).cps.toList = (ss.map fun z : Str => z.cps.toList).flatten := by
  rw [join_codes]
  exact inter_nil _
theorem join_signs (cs : List Nat) : (Txt.join "" (cs.map sgn)).cps.toList = cs := by
  rw [join_nil, List.map_map]
  induction cs with
  | nil => rfl
  | cons c cs ih =>
    rw [List.map_cons, List.flatten_cons, ih]
    rfl
theorem signs_len (cs : List Nat) : ((cs.map sgn).map (·.length)).sum = cs.length := by
  induction cs with
  | nil => rfl
  | cons c cs ih =>
    rw [List.map_cons, List.map_cons, List.sum_cons, ih, List.length_cons]
    show 1 + cs.length = _
    omega
theorem strsOf_signs (cs : List Nat) : strsOf (cs.map fun c => D.str (sgn c)) = some (cs.map sgn) := by
  have : (cs.map fun c => D.str (sgn c)) = (cs.map sgn).map D.str := by rw [List.map_map]; rfl
  rw [this]
  exact strsOf_map _
theorem mul_codes (s : Str) (n : Int) : (Txt.mul s n).cps.toList = (List.replicate n.toNat s.cps.toList).flatten := by
  unfold Txt.mul
  by_cases h0 : n < 1
  · rw [if_pos h0]
    have : n.toNat = 0 := by omega
    rw [this]
    rfl
  · rw [if_neg h0]
    split
    · rename_i h1
      have h1' : n = 1 ∨ s.length = 0 := by simpa using h1
      rcases h1' with h1' | h1'
      · subst h1'
        simp
      · rw [len_toList] at h1'
        have e := List.length_eq_zero_iff.1 h1'
        rw [e]
        simp
    · have key : ∀ (k : Nat) (a : Array Nat), ((List.replicate k s.cps).foldl (· ++ ·) a).toList = a.toList ++ (List.replicate k s.cps.toList).flatten := by
        intro k
        induction k with
        | zero => intro a; simp
        | succ k ih =>
          intro a
          rw [List.replicate_succ, List.foldl_cons, ih, List.replicate_succ, List.flatten_cons, Array.toList_append, List.append_assoc]
      show ((List.replicate n.toNat s.cps).foldl (· ++ ·) #[]).toList = _
      rw [key]
      rfl
theorem mul_len (s : Str) (n : Int) : (Txt.mul s n).length = n.toNat * s.length := by
  rw [len_toList, mul_codes, List.length_flatten, List.map_replicate, List.sum_replicate_nat, ← len_toList]
theorem app_codes (s t : Str) : (s ++ t).cps.toList = s.cps.toList ++ t.cps.toList := by
  show (s.cps ++ t.cps).toList = _
  simp
theorem s_inL {neg : Bool} {x : D} {ys : List D} {Q : D → Prop} : Dv.rInD neg x (.lst ys) Q = ((x.data = true ∧ D.datas ys = true ∧ x.dep ≤ 63 ∧ D.deps ys ≤ 63) ∧ Q (.bl (if neg then !ys.any fun z => z.eqv x else ys.any fun z => z.eqv x))) := rfl
theorem s_inT {neg : Bool} {x : D} {ys : List D} {Q : D → Prop} : Dv.rInD neg x (.tup ys) Q = ((x.flatD = true ∧ ys.all D.flatD = true) ∧ Q (.bl (if neg then !ys.any fun z => z.eqv x else ys.any fun z => z.eqv x))) := rfl
end Dv

set_option Elab.async false
set_option linter.all false
set_option maxRecDepth 100000
set_option maxHeartbeats 4000000
/-! DvL: a draw, the bag, the law's own body: from the bag on by value -/
namespace Dv
open PySem PySem.Spec PyProof.Rows L2
theorem bag_ne {H : Hp} {b l : Addr} {p r m c : Int} {ns : List Int} (h : H b = some (bagL l p r m c)) (h2 : H l = some (.lst (ns.map V.int))) : l ≠ b := fun e => by
  subst e
  rw [h] at h2
  have z := HO.lst.inj (Option.some.inj h2)
  cases ns with
  | nil => cases z
  | cons x r => cases z
def tops : Nat := 8000
def spDraw : Sp := fun vs H Q _ => ∃ (b l : Addr) (n : Nat) (top : Int), vs = [.ref b, .int top] ∧ BagAt H b l n ∧ n < 2 ^ 40 ∧ 0 < top ∧ top.natAbs < 2 ^ tops ∧
  ∀ o k, BagAt (upd H b o) b l (n + 1) → (∃ xs, o = .lst xs) → 0 ≤ k → k < top → Q (.int k) (upd H b o)
def spBag (K : PySem.W.Frag) : Sp := fun vs H Q _ => ∃ (a : Addr) (ns : List Int), vs = [.ref a] ∧ SqL K H a (ns.map V.int) ∧ ns.length ≤ 63 ∧
  ∀ H' b l, Same H H' → H b = none → BagAt H' b l 0 → Q (.ref b) H'
def spLaw (K : PySem.W.Frag) : Sp := fun vs H Q _ => ∃ (a : Addr) (ns : List Int), vs = [.ref a] ∧ SqL K H a (ns.map V.int) ∧ ns.length ≤ 63 ∧ ∀ H', Q (.bl true) H'
section
variable {P : Program} {w : World} {K : PySem.W.Frag} {mg : Str → Option Value} {base : Heap}
def sp_draw : DSp := fun ds n Q _ => ∃ top : Int, ds = [.bag, .int top] ∧ n < 2 ^ 40 ∧ 0 < top ∧ top.natAbs < 2 ^ tops ∧ ∀ k : Int, 0 ≤ k → k < top → Q (.int k) (n + 1)
theorem draw_dv {f : Addr} {fd : FuncData} {k : Nat} {ps : List Str} (h : FnOk P w K mg base CX0 k f fd ps spDraw) : FnOk P w K mg base CX0 k f fd ps (lSp K sp_draw) := by
  refine h.imp fun vs H Q E ⟨c, ds, n, Q0, E0, ⟨h0, h1, hc⟩, r, ⟨top, ed, hn, ht, hb, hq⟩, h4, h5⟩ => ?_
  subst ed
  cases r with
  | cons r1 r2 =>
    cases r2 with
    | cons r2 r3 =>
      cases r3
      cases r1 with
      | @bag b l eb =>
        cases r2
        obtain ⟨bat, hb1, hb2⟩ := hc b l eb
        refine ⟨b, l, n, top, rfl, bat, hn, ht, hb, fun o k bat' _ k0 k1 => h4 _ _ (hq k k0 k1) _ _ ⟨fun a u e na => ?_, fun b' l' e => ?_⟩ (.int _)⟩
        · rw [upd_ne (fun z => na ⟨l, by rw [z]; exact eb⟩)]
          exact e
        · rw [eb] at e
          cases e
          exact ⟨bat', hb1, hb2⟩
/-- the ends of a law: it returns True -/
def endsLaw : DEnds := { nx := fun _ _ => False, rt := fun d _ => d = .bl true }
/-- the slots behind the bag's making -/
def lawEnv (N : List Str) (i : Nat) : En := (List.replicate N.length SD.un).set i (.val .bag)
theorem no_own_un {m i : Nat} {j : Nat} : ¬ Own ((List.replicate m SD.un).set i (.val .bag)) j := fun ⟨o, e⟩ => by
  by_cases h : j = i
  · subst h
    by_cases hl : j < (List.replicate m SD.un).length
    · rw [List.getElem?_set_self hl] at e
      cases e
    · rw [List.getElem?_eq_none (by simpa using hl)] at e
      cases e
  · rw [List.getElem?_set_ne (Ne.symm h), List.getElem?_replicate] at e
    split at e <;> cases e
/-- THE RULE for a law: the bag made first -/
theorem dok_law {st : Stmt} {f fb : Addr} {fd fdb : FuncData} {N : List Str} {sc bn : Str} {k i : Nat} {p1 p2 p3 p4 p5 : Pos} (F : Fun K "law" "law" st f fd) (S : FnScope N [sc] (defScope st))
    (B : FnOk P w K mg base CX0 k fb fdb [sc] (spBag K)) (mb : mg "_law_bag" = some (.ref fb)) (kb : PySem.W.keepIn K (.ref fb) = true) (bb : Binds K fdb [sc] [])
    (h0 : N[0]? = some sc) (hi : N[i]? = some bn) (hb : defBody st = .Assign [.Name bn p1] (.Call (.Name "_law_bag" p2) [.Name sc p3] [] p4) p5 :: (defBody st).tail)
    (hfirst : ∀ (cdv : Value) (A : Around) (outer : List Env) (s : Shared) (H : Hp) (E : XK), Room k (A.deeper (envOfC "law" (defScope st) s.heap.objs.size f cdv)) →
      PS (cxOf CX0 P w K mg base N "law" (defScope st) f cdv A outer s H E).nox (.Assign [.Name bn p1] (.Call (.Name "_law_bag" p2) [.Name sc p3] [] p4) p5) (tAsg (tCall (spBag K) [] E0 (tCons (tVar 0) tNil)) (gName i)))
    (hbody : ∀ (cdv : Value) (A : Around) (outer : List Env) (s : Shared) (H : Hp) (E : XK), Room k (A.deeper (envOfC "law" (defScope st) s.heap.objs.size f cdv)) →
      ∃ t, DSs (cxOf CX0 P w K mg base N "law" (defScope st) f cdv A outer s H E).nox (defBody st).tail t ∧ t endsLaw (lawEnv N i) 0) : FnOk P w K mg base CX0 (k + 1) f fd [sc] (spLaw K) := by
  refine F.ok S (fun vs H Q E ⟨a, ns, e, _⟩ => by rw [e]; rfl) (fun cdv A outer s H vs Q E hr h => ?_)
  obtain ⟨a, ns, rfl, hS, hlen, q⟩ := h
  obtain ⟨t, ht, hq⟩ := hbody cdv A outer s H E hr
  rw [hb]
  refine ⟨_, pss_cons (hfirst cdv A outer s H E hr) ht.ps, ?_⟩
  refine ⟨.ref a, by unfold L2.start; rfl, a, ns, rfl, hS, hlen, fun H' b l sm hn bat => ?_⟩
  have hlb : ∀ x y, (some (b, l) : Option (Addr × Addr)) = some (x, y) → x = b ∧ y = l := fun x y e => by cases e; exact ⟨rfl, rfl⟩
  have hil : i < N.length := (List.getElem?_eq_some_iff.1 hi).1
  have h1l : 1 ≤ N.length := by
    have := (List.getElem?_eq_some_iff.1 h0).1
    omega
  have nbag : ∀ x, (⟨H, fun x => x = b ∨ x = l, some (b, l)⟩ : Ctx).isBag x → x = b := fun x ⟨y, e⟩ => (hlb x y e).1 |> fun z => by
    cases e
    rfl
  have R : Rel K ⟨H, fun x => x = b ∨ x = l, some (b, l)⟩ (fun _ => 0) 0 ((L2.start N [.ref a]).set i (some (.ref b))) H' (lawEnv N i) := by
    have nol : ∀ x, (x = b ∨ x = l) → H' x ≠ none := fun x hx => by
      obtain ⟨ns', p, r, m, c, g1, g2, _⟩ := bat
      rcases hx with e | e
      · rw [e, g1]; exact fun z => nomatch z
      · rw [e, g2]; exact fun z => nomatch z
    refine ⟨?_, fun x o hx _ => sm x o hx, nol, fun x y e => ?_, fun j _ hj => absurd hj no_own_un, fun j hj => absurd hj no_own_un, fun j hj => absurd hj no_own_un, fun j sd e => ?_⟩
    · unfold lawEnv L2.start
      rw [List.length_set, List.length_replicate, List.length_set, List.length_append, List.length_map, List.length_replicate]
      show N.length ≤ 1 + (N.length - 1)
      omega
    · cases e
      exact ⟨bat, .inl rfl, .inr rfl⟩
    · unfold lawEnv at e
      by_cases z : j = i
      · subst z
        rw [List.getElem?_set_self (by rw [List.length_replicate]; exact hil)] at e
        obtain rfl := Option.some.inj e
        refine ⟨.ref b, ?_, .bag rfl⟩
        rw [List.getElem?_set_self]
        unfold L2.start
        rw [List.length_append, List.length_map, List.length_replicate]
        show j < 1 + (N.length - 1)
        omega
      · rw [List.getElem?_set_ne (Ne.symm z), List.getElem?_replicate] at e
        split at e
        · cases e; trivial
        · cases e
  refine ⟨_, _, 0, _, endsLaw, R, hq, ?_⟩
  refine ⟨fun env n h => h.elim, fun env n h => h.elim, fun env n h => h.elim, fun d n h v H2 _ _ r => ?_, fun o n h => h.elim⟩
  have h' : d = .bl true := h
  subst h'
  cases r
  exact q H2
end
end Dv

set_option Elab.async false
set_option linter.all false
set_option maxRecDepth 100000
set_option maxHeartbeats 4000000
/-! DvE: defs as they lie in the heap; keywords bound -/
namespace Dv
open PySem PySem.Spec PyProof.Rows L2
def FunAt (K : PySem.W.Frag) (x qual : Str) (st : Stmt) (f : Addr) : Prop := ∃ fd : FuncData, Fun K x qual st f fd
theorem funAt_mk {K : PySem.W.Frag} {x qual : Str} {st : Stmt} {f : Addr} {oc : Value} {od an : Option Addr} {osl : Array (Option Value)} {kV doc pm cdv ct : Value} (l : K.lookup f = some ⟨oc, od, .func (PySem.W.fnOf x qual (defArgs st) (defBody st) (defScope st) .none kV doc pm an cdv ct), osl⟩)
    (c : PySem.W.codeIn K cdv qual = true) (k : PySem.W.keepIn K (.ref f) = true) : FunAt K x qual st f := ⟨_, fun_mk l c k⟩
/-- a call by keywords alone: ks in the call's order, ix the places of the parameters in it -/
theorem kbinds {K : PySem.W.Frag} {x qual : Str} {st : Stmt} {f : Addr} {fd : FuncData} {ps ks : List Str} {ix : List Nat} (F : Fun K x qual st f fd) (hp : ps ≠ [])
    (h : ∀ (kV doc pm : Value) (an : Option Addr) (cdv ct : Value) (ws : List Value), ws.length = ks.length → bindArgs (PySem.W.fnOf x qual (defArgs st) (defBody st) (defScope st) .none kV doc pm an cdv ct) ⟨[], ks.zip ws⟩ = pure (ps.zip (ix.filterMap fun i => ws[i]?))) : KBinds K fd ps ks (pickL ks.length ix) (pickL ks.length ix) := by
  obtain ⟨oc, od, kV, doc, pm, an, cdv, ct, osl, rfl, lk, hcd⟩ := F.ex
  exact kb_of hp fun s ws hl => .of_eq (h kV doc pm an cdv ct ws hl)
end Dv

set_option Elab.async false
set_option linter.all false
set_option maxRecDepth 100000
set_option maxHeartbeats 4000000
/-! the bag, a draw (made by genbag.py) -/
namespace K1
open PySem PySem.Spec PyProof.Rows L2 RZ Dv
def topS (i : Nat) : Stmt := PySem.Challenge.pw_lexiconlines_k01_words_judged.main.body.getD i (.Pass ⟨0, 0, 0, 0⟩)
abbrev sBag : Stmt := topS 12
abbrev sDraw : Stmt := topS 13
theorem scBag : FnScope ["_law_script", "_law_mixed", "_law_cell"] ["_law_script"] (defScope sBag) := ⟨rfl, rfl, rfl, by decide +kernel, rfl, by decide +kernel, by decide +kernel⟩
theorem scDraw : FnScope ["_law_bag_here", "_law_top", "_law_cell", "_law_digit", "_law_seed"] ["_law_bag_here", "_law_top"] (defScope sDraw) := ⟨rfl, rfl, rfl, by decide +kernel, rfl, by decide +kernel, by decide +kernel⟩
section
variable {P : Program} {w : World} {K : PySem.W.Frag} {mg : Str → Option Value} {base : Heap}
theorem ok_draw {f : Addr} {fd : FuncData} {k : Nat} (F : Fun K "_law_draw" "_law_draw" sDraw f fd) (ml : mg "len" = none) (mi : mg "int" = none) (ma : mg "abs" = none) : FnOk P w K mg base CX0 (k + 1) f fd ["_law_bag_here", "_law_top"] spDraw := by
  refine F.ok scDraw (fun vs H Q E h => ?_) (fun cdv A outer s H vs Q E hr h => ?_)
  · obtain ⟨a, l, n, top, rfl, _⟩ := h
    rfl
  · obtain ⟨b, l, n, top, rfl, ⟨ns, pos, rest, mixed, cnt, hb, hl, ok⟩, hn, ht, htb, q⟩ := h
    refine ⟨_, pss_cons (ps_asg (pe_op op_add (pe_ix ix_list (pv 0) pe_int (fun _ _ => rfl)) pe_int) (pg_sub (pv 0) pe_int set_list))
      (C8.pss_cut (ps_if (PW.pt (pw_and (pt_cmpR op_eq (pe_ix ix_list (pv 0) pe_int (fun _ _ => rfl)) pe_int (nomark _)) (pw_and1 (pt_cmpR op_lt (pe_ix ix_list (pv 0) pe_int (fun _ _ => rfl)) (pe_callB call_len_seq (by rfl) ml PySem.boot_len (pa_cons (pe_ix ix_list (pv 0) pe_int (fun _ _ => rfl)) pa_nil)) (nomark _)))))
          (pss_cons (ps_set (i := 2) scDraw.nd rfl (Or.inl rfl) (pe_callTy call_int1 (by rfl) mi (by decide +kernel) (pa_cons (pe_ix ix_list (pe_ix ix_list (pv 0) pe_int (fun _ _ => rfl)) (pe_ix ix_list (pv 0) pe_int (fun _ _ => rfl)) (fun _ _ => rfl)) pa_nil)))
          (pss_cons (ps_asg (pe_op op_add (pe_ix ix_list (pv 0) pe_int (fun _ _ => rfl)) pe_int) (pg_sub (pv 0) pe_int set_list))
          (pss_one (ps_if (pt_cmpR op_ge (pe_callB call_abs (by rfl) ma (by decide +kernel) (pa_cons (pv 2) pa_nil)) (pe_op op_pow pe_int pe_int) (nomark _))
            (pss_one (ps_asg (pe_callB call_abs (by rfl) ma (by decide +kernel) (pa_cons (pv 2) pa_nil)) (pg_sub (pv 0) pe_int set_list)))
            (pss_one (ps_asg (pe_op op_mod (pe_callTy call_int1 (by rfl) mi (by decide +kernel) (pa_cons (pe_op op_add (pe_op op_add (pe_op op_mul (pe_ix ix_list (pv 0) pe_int (fun _ _ => rfl)) pe_int) (pe_op op_mul (pe_op op_mod (pe_callTy call_int1 (by rfl) mi (by decide +kernel) (pa_cons (pv 2) pa_nil)) pe_int) pe_int)) pe_int) pa_nil)) pe_int) (pg_sub (pv 0) pe_int set_list)))))))
          pss_nil)
      (pss_cons (ps_if (pt_cmpR op_gt (pe_ix ix_list (pv 0) pe_int (fun _ _ => rfl)) pe_int (nomark _))
          (pss_cons (ps_set (i := 3) scDraw.nd rfl (Or.inl rfl) (pe_op op_modN (pe_callTy call_int1 (by rfl) mi (by decide +kernel) (pa_cons (pe_ix ix_list (pv 0) pe_int (fun _ _ => rfl)) pa_nil)) (pv 1)))
          (pss_cons (ps_asg (pe_op op_fdivW (pe_ix ix_list (pv 0) pe_int (fun _ _ => rfl)) (pv 1)) (pg_sub (pv 0) pe_int set_list))
          (pss_one (ps_ret (pv 3)))))
          pss_nil)
      (pss_cons (ps_set (i := 4) scDraw.nd rfl (Or.inl rfl) (pe_callTy call_int1 (by rfl) mi (by decide +kernel) (pa_cons (pe_ix ix_list (pv 0) pe_int (fun _ _ => rfl)) pa_nil)))
      (pss_cons (ps_asg (pe_op op_mod (pe_callTy call_int1 (by rfl) mi (by decide +kernel) (pa_cons (pe_op op_add (pe_op op_add (pe_op op_add (pe_op op_pow (pv 4) pe_int) (pe_op op_mul (pv 4) pe_int)) (pe_op op_mul (pe_ix ix_list (pv 0) pe_int (fun _ _ => rfl)) pe_int)) pe_int) pa_nil)) pe_int) (pg_sub (pv 0) pe_int set_list))
      (pss_one (ps_ret (pe_op op_modN (pe_callTy call_int1 (by rfl) mi (by decide +kernel) (pa_cons (pe_op op_add (pe_op op_fdiv (pe_ix ix_list (pv 0) pe_int (fun _ _ => rfl)) pe_int) (pe_op op_mul (pe_op op_mod (pe_callTy call_int1 (by rfl) mi (by decide +kernel) (pa_cons (pe_ix ix_list (pv 0) pe_int (fun _ _ => rfl)) pa_nil)) pe_int) pe_int)) pa_nil)) (pv 1)))))))), ?_⟩
    have hlb : l ≠ b := bag_ne hb hl
    have hl' : ∀ o, upd H b o l = some (.lst (ns.map V.int)) := fun o => by rw [upd_ne hlb]; exact hl
    have hat : ∀ {p r m c : Int}, upd H b (bagL l p r m c) b = some (bagL l p r m c) := upd_same
    have hsq : ∀ {p r m c : Int}, SqL K (upd H b (bagL l p r m c)) b [.ref l, .int p, .int r, .int m, .int c] := .inl (.inl upd_same)
    have hlq : ∀ {o : HO}, SqL K (upd H b o) l (ns.map V.int) := fun {o} => .inl (.inl (hl' o))
    refine ⟨.ref b, rfl, b, _, 4, .int cnt, rfl, rfl, .inl (.inl hb), rfl, cnt, 1, rfl, rfl, .ref b, rfl, b, _, 4, 4, rfl, rfl, hb, rfl, ?_⟩
    refine ⟨fun σ' H' => ∃ y2 pos' rest' mixed', σ' = [some (.ref b), some (.int top), y2, none, none] ∧ H' = upd H b (bagL l pos' rest' mixed' (cnt + 1)) ∧ BagOk ns pos' rest' mixed' (cnt + 1) (n + 1), ?_, ?_⟩
    · have ok1 : BagOk ns pos rest mixed (cnt + 1) (n + 1) := ⟨ok.len, ok.p0, ok.r0, ok.m0, ok.m1, by have := ok.c0; omega, by have := ok.c1; omega⟩
      refine ⟨.ref b, rfl, b, _, 2, .int rest, rfl, rfl, hsq, rfl, rfl, _, rfl, ite2 (fun e => ?_) (fun e => ?_)⟩
      · refine ⟨.ref b, rfl, b, _, 1, .int pos, rfl, rfl, hsq, rfl, .ref b, rfl, b, _, 0, .ref l, rfl, rfl, hsq, rfl, l, _, rfl, .inl hlq, pos, _, rfl, rfl, _, rfl, ite2 (fun e2 => ?_) (fun e2 => ?_)⟩
        · have e3 : pos < (ns.map V.int).length := of_decide_eq_true e2
          have p0 := ok.p0
          have e4 : pos.toNat < ns.length := by rw [List.length_map] at e3; omega
          have e5 : atI (ns.map V.int) pos = some (.int ns[pos.toNat]) := by
            have z : atI (ns.map V.int) ((pos.toNat : Nat) : Int) = some (.int ns[pos.toNat]) := atI_nat (by rw [List.getElem?_map, List.getElem?_eq_getElem e4]; rfl)
            rwa [Int.toNat_of_nonneg p0] at z
          refine ⟨.ref b, rfl, b, _, 0, .ref l, rfl, rfl, hsq, rfl, .ref b, rfl, b, _, 1, .int pos, rfl, rfl, hsq, rfl, l, _, pos, _, rfl, rfl, hlq, e5, .inl ⟨_, rfl, ?_⟩⟩
          refine ⟨.ref b, rfl, b, _, 1, .int pos, rfl, rfl, hsq, rfl, pos, 1, rfl, rfl, .ref b, rfl, b, _, 1, 1, rfl, rfl, hat, rfl, ?_⟩
          rw [upd_upd]
          refine ⟨.int _, rfl, _, rfl, 10, 18, rfl, rfl, ⟨by decide, by decide, by decide⟩, _, _, rfl, rfl, _, rfl, ite2 (fun e6 => ?_) (fun e6 => ?_)⟩
          · refine ⟨.int _, rfl, _, rfl, .ref b, rfl, b, _, 2, 2, rfl, rfl, hat, rfl, ?_⟩
            rw [upd_upd]
            refine ⟨_, _, _, _, rfl, rfl, ok1.len, by omega, by split <;> omega, ok1.m0, ok1.m1, ok1.c0, ok1.c1⟩
          · refine ⟨.ref b, rfl, b, _, 3, .int mixed, rfl, rfl, hsq, rfl, mixed, 43889, rfl, rfl, .inl ⟨by have := ok.m0; omega, by have := ok.m1; omega⟩, .int _, rfl, .inl ⟨_, rfl, _, 1000639, rfl, rfl, by show (0 : Int) < 1000639; decide, _, 773, rfl, rfl, .inl ⟨by omega, by omega⟩, _, _, rfl, rfl, _, 29, rfl, rfl, .inl ⟨_, rfl, _, 2147483587, rfl, rfl, by show (0 : Int) < 2147483587; decide, .ref b, rfl, b, _, 3, 3, rfl, rfl, hat, rfl, ?_⟩⟩⟩
            rw [upd_upd]
            refine ⟨_, _, _, _, rfl, rfl, ok1.len, by omega, ok1.r0, by omega, by omega, ok1.c0, ok1.c1⟩
        · exact ⟨_, _, _, _, rfl, rfl, ok1⟩
      · exact ⟨_, _, _, _, rfl, rfl, ok1⟩
    · rintro σ' H' ⟨y2, pos', rest', mixed', rfl, rfl, ok'⟩
      have m0 := ok'.m0
      have m1 := ok'.m1
      have c0 := ok'.c0
      have c1 := ok'.c1
      have r0 := ok'.r0
      refine ⟨.ref b, rfl, b, _, 2, .int rest', rfl, rfl, hsq, rfl, _, _, rfl, rfl, _, rfl, ite2 (fun e => ?_) (fun e => ?_)⟩
      · refine ⟨.ref b, rfl, b, _, 2, .int rest', rfl, rfl, hsq, rfl, .inl ⟨_, rfl, .int top, rfl, rest', top, rfl, rfl, by show top ≠ 0; omega, ?_⟩⟩
        refine ⟨.ref b, rfl, b, _, 2, .int rest', rfl, rfl, hsq, rfl, .int top, rfl, rest', top, rfl, rfl, wide_div ht htb (by decide) (by decide), .ref b, rfl, b, _, 2, 2, rfl, rfl, hat, rfl, ?_⟩
        rw [upd_upd]
        refine ⟨_, rfl, ?_⟩
        have z : rest'.fmod top = rest' % top := Int.fmod_eq_emod_of_nonneg _ (by omega)
        show Q (.int (rest'.fmod top)) (upd H b (bagL l pos' (rest' / top) mixed' (cnt + 1)))
        rw [z]
        refine q (bagL l pos' (rest' / top) mixed' (cnt + 1)) _ ⟨ns, _, _, _, _, upd_same, hl' _, ok'.len, ok'.p0, Int.ediv_nonneg r0 (by omega), m0, m1, c0, c1⟩ ⟨_, rfl⟩ (Int.emod_nonneg _ (by omega)) (Int.emod_lt_of_pos _ ht)
      · refine ⟨.ref b, rfl, b, _, 3, .int mixed', rfl, rfl, hsq, rfl, .inl ⟨_, rfl, ?_⟩⟩
        refine ⟨.int mixed', rfl, mixed', 3, rfl, rfl, ⟨by omega, by omega, by omega⟩, .int mixed', rfl, mixed', 47111, rfl, rfl, .inl ⟨by omega, by omega⟩, _, _, rfl, rfl, .ref b, rfl, b, _, 4, .int (cnt + 1), rfl, rfl, hsq, rfl, _, 110323, rfl, rfl, .inl ⟨by omega, by omega⟩, _, _, rfl, rfl, _, 60089, rfl, rfl, .inl ⟨_, rfl, _, 2147483549, rfl, rfl, by show (0 : Int) < 2147483549; decide, .ref b, rfl, b, _, 3, 3, rfl, rfl, hat, rfl, ?_⟩⟩
        rw [upd_upd]
        have k0 : 0 ≤ (mixed' ^ 3 + mixed' * 47111 + (cnt + 1) * 110323 + 60089) % 2147483549 := by omega
        have k1 : (mixed' ^ 3 + mixed' * 47111 + (cnt + 1) * 110323 + 60089) % 2147483549 < 2147483648 := by omega
        have fin : ∀ m2 : Int, 0 ≤ m2 → m2 < 2147483648 → Q (.int (((m2 / 71 + m2 % 8017 * 59)).fmod top)) (upd H b (bagL l pos' rest' m2 (cnt + 1))) := fun m2 z0 z1 => by
          rw [Int.fmod_eq_emod_of_nonneg _ (by omega)]
          exact q (bagL l pos' rest' m2 (cnt + 1)) _ ⟨ns, _, _, _, _, upd_same, hl' _, ok'.len, ok'.p0, r0, z0, z1, c0, c1⟩ ⟨_, rfl⟩ (Int.emod_nonneg _ (by omega)) (Int.emod_lt_of_pos _ ht)
        refine ⟨.ref b, rfl, b, _, 3, _, rfl, rfl, .inl (.inl upd_same), rfl, _, 71, rfl, rfl, ⟨by decide, by decide⟩, .ref b, rfl, b, _, 3, _, rfl, rfl, .inl (.inl upd_same), rfl, .inl ⟨_, rfl, _, 8017, rfl, rfl, by show (0 : Int) < 8017; decide, _, 59, rfl, rfl, .inl ⟨by omega, by omega⟩, _, _, rfl, rfl, .inl ⟨_, rfl, .int top, rfl, _, top, rfl, rfl, by show top ≠ 0; omega, ?_⟩⟩⟩
        exact fin _ k0 k1
/-! ### the bag -/
theorem ok_bag {f : Addr} {fd : FuncData} {k : Nat} (F : Fun K "_law_bag" "_law_bag" sBag f fd) (mi : mg "int" = none) (ml : mg "list" = none) : FnOk P w K mg base CX0 (k + 1) f fd ["_law_script"] (spBag K) := by
  refine F.ok scBag (fun vs H Q E h => ?_) (fun cdv A outer s H vs Q E hr h => ?_)
  · obtain ⟨a, ns, rfl, _⟩ := h
    rfl
  · obtain ⟨a, ns, rfl, hS, hlen, q⟩ := h
    refine ⟨_, pss_cons (ps_set (i := 1) scBag.nd rfl (Or.inl rfl) pe_int)
      (pss_cons (ps_for PassesOwn.never rfl (pi_list (pe_slice sl_list (pv 0) po_none (po_some pe_int))) (pg_name (i := 2) scBag.nd rfl (Or.inl rfl))
        (pss_one (ps_set (i := 1) scBag.nd rfl (Or.inl rfl) (pe_op op_mod (pe_callTy call_int1 (by rfl) mi (by decide +kernel) (pa_cons (pe_op op_add (pe_op op_add (pe_op op_mul (pv 1) pe_int) (pe_op op_mul (pe_op op_mod (pe_callTy call_int1 (by rfl) mi (by decide +kernel) (pa_cons (pv 2) pa_nil)) pe_int) pe_int)) pe_int) pa_nil)) pe_int))))
      (pss_one (ps_ret (pe_lst (pa_cons (pe_callTy call_list_of (by rfl) ml (by decide +kernel) (pa_cons (pe_slice sl_list (pv 0) po_none (po_some pe_int)) pa_nil)) (pa_cons pe_int (pa_cons pe_int (pa_cons (pv 1) (pa_cons pe_int pa_nil))))))))), ?_⟩
    refine ⟨.ref a, rfl, 63, rfl, a, _, rfl, hS, fun c nc => ?_⟩
    have e63 : cutV (ns.map V.int) none (some 63) = ns.map V.int := by
      unfold cutV
      rw [show HT.sIx (ns.map V.int).length 0 none = 0 from HT.sIx_none _ _, show HT.sIx (ns.map V.int).length (ns.map V.int).length (some 63) = min 63 (ns.map V.int).length from HT.sIx_nat (ns.map V.int).length _ 63]
      rw [List.drop_zero, List.take_of_length_le (by rw [List.length_map]; omega)]
    rw [e63]
    have s1 : Same H (upd H c (.lst (ns.map V.int))) := fun x o e => by rw [upd_ne (ne_of_none e nc)]; exact e
    have hc1 : SqL K (upd H c (.lst (ns.map V.int))) c (ns.map V.int) := .inl (.inl upd_same)
    refine ⟨c, rfl, ⟨_, hc1⟩, for_list (xs := ns.map V.int) (fun _ σ' H' => ∃ m y, σ' = [some (.ref a), some (.int m), y] ∧ H' = upd H c (.lst (ns.map V.int)) ∧ 0 ≤ m ∧ m < 2147483579) ⟨12038, none, rfl, rfl, by decide, by decide⟩ (fun i σ' H' _ h' => by obtain ⟨_, _, _, rfl, _⟩ := h'; exact hc1) ?_ ?_⟩
    · rintro i x σ' H' hx ⟨m, y, rfl, rfl, m0, m1⟩
      obtain ⟨z, rfl⟩ : ∃ z, x = V.int z := by
        rw [List.getElem?_map] at hx
        cases hz : ns[i]? with
        | none => rw [hz] at hx; cases hx
        | some z => rw [hz] at hx; exact ⟨z, (Option.some.inj hx).symm⟩
      refine ⟨.int m, rfl, m, 48271, rfl, rfl, .inl ⟨by omega, by omega⟩, .int z, rfl, .inl ⟨_, rfl, _, 1000639, rfl, rfl, by show (0 : Int) < 1000639; decide, _, 881, rfl, rfl, .inl ⟨by omega, by omega⟩, _, _, rfl, rfl, _, 53, rfl, rfl, .inl ⟨_, rfl, _, 2147483579, rfl, rfl, by show (0 : Int) < 2147483579; decide, ?_⟩⟩⟩
      exact ⟨_, _, rfl, rfl, by omega, by omega⟩
    · rintro σ' H' ⟨m, y, rfl, rfl, m0, m1⟩
      refine ⟨.ref a, rfl, 63, rfl, a, _, rfl, s1.seq hS, fun d nd => ?_⟩
      rw [e63]
      refine ⟨d, _, rfl, .inl (.inl (.inl upd_same)), fun e ne => ⟨.int m, rfl, ?_⟩⟩
      refine ⟨by show 5 ≤ sizeLine; decide, fun b nb => ?_⟩
      have sb : ∀ {G : Hp} {x : Addr} {o : HO}, G x = none → Same G (upd G x o) := fun {G x o} hn y u e => by rw [upd_ne (ne_of_none e hn)]; exact e
      have S := ((s1.trans (sb nd)).trans (sb ne)).trans (sb (o := .lst [.ref e, .int 0, .int 0, .int m, .int 0]) nb)
      refine q _ b e S ?_ ⟨ns, 0, 0, m, 0, upd_same, ?_, hlen, by decide, by decide, m0, by omega, by decide, by decide⟩
      · exact ((s1.trans (sb nd)).trans (sb ne)).free nb
      · rw [upd_ne (ne_of_none upd_same nb), upd_same]
end
end K1

set_option Elab.async false
set_option linter.all false
set_option maxRecDepth 100000
set_option maxHeartbeats 4000000
/-! k01: the program's defs, the law's small defs, by value -/
namespace K1
open PySem PySem.Spec PyProof.Rows L2 Dv
local macro_rules | `(tactic| walk_at "dv") => `(tactic| simp only [s_var, s_varb, s_test, s_tru, s_andv, s_orv, s_notv, s_chain, s_part, s_list, s_len, s_tuple, s_is, s_ixl, s_ixt, s_ixs, s_seqi, s_gcons, s_gnil, s_gtup, s_append, s_reverse, s_retof, s_reto,
  asBl_bl, asInt_int, asTup_tup, asSome_some, asLst_lst, atVal_0, atVal_s, atGet_0, atGet_o, atGet_s, atOb_o, atOb_s, s_start0, s_startU, s_startV, s_add, s_addS, s_addL, s_addT, s_i2, s_ordI, s_ordS, s_isN, s_mulI, s_mulS, s_mulL, s_strip, s_inS, s_neg, s_abs, s_intI, s_intB, s_slL, s_slT, s_slS, isStr_str, s_ifand, s_ifor, s_eqS, s_eqI, s_eqB, Dv.ite_tt, Dv.ite_ff,
  wC, wOp, wMt1, Dv.wNot, Dv.wAnd, Dv.wOr, wIfE, wNil, wCons, wTup, wLst, wOb, Ob.d, wCall, wNoPart, wSl, wNx, Dv.wSeq, wDrop, wSortedSet, wSortedLen, wSortedPair, s_all, s_lc, s_for, s_zip, s_zipS, s_rng1, s_rng2, asZip_lst, asZip_tup, asStr_str, wRet, wRetN, wRetF, wSet, wOwn, wSetOb, wIf, wBk, wCt, wFn, wFnB, wFnF, wFnK, wFnFK, dEnds, dEndsF, gNm, wYes,
  wipeE, List.map_cons, List.map_nil, List.set_cons_zero, List.set_cons_succ, D.tru, D.len, D.items, D.seq, D.flat, D.isNon, true_and, and_true, if_true, if_false, Bool.false_eq_true, Bool.not_true, Bool.not_false])

structure Mg (mg : Str → Option Value) : Prop where
  b_len : mg "len" = none
  b_isinstance : mg "isinstance" = none
  b_int : mg "int" = none
  b_str : mg "str" = none
  b_list : mg "list" = none
  b_tuple : mg "tuple" = none
  b_range : mg "range" = none
  b_zip : mg "zip" = none
  b_abs : mg "abs" = none
  b_all : mg "all" = none
  b_sorted : mg "sorted" = none
  b_set : mg "set" = none
  b_bool : mg "bool" = none
  c_LETTERS : ∃ t, mg "LETTERS" = some (.str "abcd" t)
  c_COLORS : ∃ t, mg "COLORS" = some (.str "xyz" t)
  c__LOWERCASE : ∃ t, mg "_LOWERCASE" = some (.str "abcdefghijklmnopqrstuvwxyz" t)
  c__LONGEST_WORD : ∃ t, mg "_LONGEST_WORD" = some (.int 40 t)
  c__LONGEST_NAME : ∃ t, mg "_LONGEST_NAME" = some (.int 6 t)
section
variable {P : Program} {w : World} {K : PySem.W.Frag} {mg : Str → Option Value} {base : Heap}
def isLettersD : D → Bool
  | .str s => decide (Txt.stripChars s "abcd" = "")
  | _ => false
def isWordD : D → Bool
  | .str s => decide (Txt.stripChars s "abcd" = "") && decide ((s.length : Int) ≤ 40)
  | _ => false
def isColorD : D → Bool
  | .str s => decide ((s.length : Int) = 1) && inS s "xyz"
  | _ => false
def isNameD : D → Bool
  | .str s => decide (1 ≤ (s.length : Int)) && (decide ((s.length : Int) ≤ 6) && decide (Txt.stripChars s "abcdefghijklmnopqrstuvwxyz" = ""))
  | _ => false
/-- a def of one value, whatever it is -/
def sp1 (f : D → D) : DSp := fun ds n Q _ => ∃ d : D, ds = [d] ∧ d.ty? = true ∧ Q (f d) n
theorem sp1_len {f : D → D} {ds : List D} {n : Nat} {Q : D → Nat → Prop} {E : EX → Nat → Prop} (h : sp1 f ds n Q E) : ds.length = 1 := by
  obtain ⟨d, rfl, _⟩ := h
  rfl
abbrev sp_is_letters : DSp := sp1 fun d => .bl (isLettersD d)
abbrev sp_is_word : DSp := sp1 fun d => .bl (isWordD d)
abbrev sp_is_color : DSp := sp1 fun d => .bl (isColorD d)
abbrev sp_is_name : DSp := sp1 fun d => .bl (isNameD d)
abbrev s_is_letters : Stmt := topS 7
theorem sc_is_letters : FnScope ["value"] ["value"] (defScope s_is_letters) := ⟨rfl, rfl, rfl, by decide +kernel, rfl, by decide +kernel, by decide +kernel⟩
theorem ok_is_letters  {k : Nat} {f : Addr} {fd : FuncData} (M : Mg mg) (F : Fun K "is_letters" "is_letters" s_is_letters f fd)  : FnOk P w K mg base CX0 (k + 1) f fd ["value"] (lSp K sp_is_letters) := by
  refine dok F sc_is_letters (fun ds n Q E h => ?_) (fun cdv A outer s H E hr => ⟨_, (dss_one (ds_ret (de_and (de_bi cd_is M.b_isinstance (dab_cons (dvb 0) (dab_cons (de_ty (T := "str") M.b_str).b dab_nil))) (de_one (de_cmp (od_eq (hu64 hr)) (de_strip (dvb 0) (de_gstr M.c_LETTERS).b).b (DE.b de_str)))))), fun ds n Q E h => ?_⟩)
  · exact sp1_len h
  · obtain ⟨d, rfl, hd, q⟩ := h
    walk_at "dv"
    rw [isT_str hd]
    cases d <;> first | exact q | (walk_at "dv"; exact q)
abbrev s_is_word : Stmt := topS 6
theorem sc_is_word : FnScope ["value"] ["value"] (defScope s_is_word) := ⟨rfl, rfl, rfl, by decide +kernel, rfl, by decide +kernel, by decide +kernel⟩
theorem ok_is_word  {k : Nat} {f : Addr} {fd : FuncData} (M : Mg mg) (F : Fun K "is_word" "is_word" s_is_word f fd) (C_is_letters : Cal P w K mg base CX0 k "is_letters" ["value"] sp_is_letters) : FnOk P w K mg base CX0 (k + 1) f fd ["value"] (lSp K sp_is_word) := by
  refine dok F sc_is_word (fun ds n Q E h => ?_) (fun cdv A outer s H E hr => ⟨_, (dss_one (ds_ret (de_and (de_call C_is_letters hr (da_cons (dv 0) da_nil)) (de_one (de_cmp od_le (de_bi cd_len M.b_len (dab_cons (dvb 0) dab_nil)).b (de_gint M.c__LONGEST_WORD).b))))), fun ds n Q E h => ?_⟩)
  · exact sp1_len h
  · obtain ⟨d, rfl, hd, q⟩ := h
    walk_at "dv"
    refine ⟨d, rfl, hd, ?_⟩
    walk_at "dv"
    cases d <;> first | exact q | (unfold isLettersD; walk_at "dv"; exact q)
abbrev s_is_color : Stmt := topS 8
theorem sc_is_color : FnScope ["value"] ["value"] (defScope s_is_color) := ⟨rfl, rfl, rfl, by decide +kernel, rfl, by decide +kernel, by decide +kernel⟩
theorem ok_is_color  {k : Nat} {f : Addr} {fd : FuncData} (M : Mg mg) (F : Fun K "is_color" "is_color" s_is_color f fd)  : FnOk P w K mg base CX0 (k + 1) f fd ["value"] (lSp K sp_is_color) := by
  refine dok F sc_is_color (fun ds n Q E h => ?_) (fun cdv A outer s H E hr => ⟨_, (dss_one (ds_ret (de_and (de_bi cd_is M.b_isinstance (dab_cons (dvb 0) (dab_cons (de_ty (T := "str") M.b_str).b dab_nil))) (de_and (de_cmp (od_eq (hu64 hr)) (de_bi cd_len M.b_len (dab_cons (dvb 0) dab_nil)).b (DE.b de_int)) (de_one (de_cmp (od_in (hu65 hr)) (dvb 0) (de_gstr M.c_COLORS).b)))))), fun ds n Q E h => ?_⟩)
  · exact sp1_len h
  · obtain ⟨d, rfl, hd, q⟩ := h
    walk_at "dv"
    rw [isT_str hd]
    cases d <;> first | exact q | (walk_at "dv"; exact q)
abbrev s_is_name : Stmt := topS 9
theorem sc_is_name : FnScope ["value"] ["value"] (defScope s_is_name) := ⟨rfl, rfl, rfl, by decide +kernel, rfl, by decide +kernel, by decide +kernel⟩
theorem ok_is_name  {k : Nat} {f : Addr} {fd : FuncData} (M : Mg mg) (F : Fun K "is_name" "is_name" s_is_name f fd)  : FnOk P w K mg base CX0 (k + 1) f fd ["value"] (lSp K sp_is_name) := by
  refine dok F sc_is_name (fun ds n Q E h => ?_) (fun cdv A outer s H E hr => ⟨_, (dss_one (ds_ret (de_and (de_bi cd_is M.b_isinstance (dab_cons (dvb 0) (dab_cons (de_ty (T := "str") M.b_str).b dab_nil))) (de_and (de_chain od_le od_le (DE.b de_int) (de_bi cd_len M.b_len (dab_cons (dvb 0) dab_nil)).b (de_gint M.c__LONGEST_NAME).b) (de_one (de_cmp (od_eq (hu64 hr)) (de_strip (dvb 0) (de_gstr M.c__LOWERCASE).b).b (DE.b de_str))))))), fun ds n Q E h => ?_⟩)
  · exact sp1_len h
  · obtain ⟨d, rfl, hd, q⟩ := h
    walk_at "dv"
    rw [isT_str hd]
    cases d <;> first | exact q | (walk_at "dv"; exact q)
/-! ### in short order -/
def shortS (ns : List Str) : List Str := ns.mergeSort Ss.leLen
def sp_in_short_order : DSpF := fun ds n Q _ => ∃ (d : D) (xs : List Str), ds = [d] ∧ (d = .lst (strsD xs) ∨ d = .tup (strsD xs)) ∧ xs.length + 1 < scanBound ∧ ∀ ns, Ss.Ascending xs ns → Q (.lst (strsD (shortS ns))) n
abbrev s_in_short_order : Stmt := topS 10
theorem sc_in_short_order : FnScope ["words", "ascending"] ["words"] (defScope s_in_short_order) := ⟨rfl, rfl, rfl, by decide +kernel, rfl, by decide +kernel, by decide +kernel⟩
theorem ok_in_short_order  {k : Nat} {f : Addr} {fd : FuncData} (M : Mg mg) (F : Fun K "in_short_order" "in_short_order" s_in_short_order f fd)  : FnOk P w K mg base CX0 (k + 1) f fd ["words"] (lSpF K sp_in_short_order) := by
  refine dokF F sc_in_short_order (fun ds n Q E h => ?_) (fun cdv A outer s H E hr => ⟨_, (dss_cons (ds_set (i := 1) sc_in_short_order.nd rfl (by first | exact Or.inl rfl | exact Or.inr rfl) (df_sortedSet (hu64 hr) M.b_sorted M.b_set (dvb 0)).toE)
      (dss_one (ds_retF (df_sortedLen (hu64 hr) M.b_sorted M.b_len (dvb 1))))), fun ds n Q E h => ?_⟩)
  · obtain ⟨d, xs, rfl, _⟩ := h
    rfl
  · obtain ⟨d, xs, rfl, hd, hn, q⟩ := h
    walk_at "dv"
    exact ⟨xs, hd, hn, fun ns asc => ⟨ns, rfl, q ns asc⟩⟩
/-! ### one of some -/
abbrev sp__law_draw : DSp := sp_draw
def sp__law_of : DSp := fun ds n Q _ => ∃ (x : D) (ys : List D), ds = [.bag, x] ∧ n < 2 ^ 40 ∧ x.seq = some ys ∧ 0 < ys.length ∧ ys.length < 2 ^ 60 ∧ ∀ d ∈ ys, Q d (n + 1)
theorem atI_in {α : Type} {xs : List α} {k : Int} (h0 : 0 ≤ k) (h1 : k < (xs.length : Nat)) : ∃ d, atI xs k = some d ∧ d ∈ xs := by
  have e : k.toNat < xs.length := by omega
  have e5 : atI xs k = some xs[k.toNat] := by
    have z : atI xs ((k.toNat : Nat) : Int) = some xs[k.toNat] := atI_nat (List.getElem?_eq_getElem e)
    rwa [Int.toNat_of_nonneg h0] at z
  exact ⟨_, e5, List.getElem_mem e⟩
theorem tops_ok {n : Nat} (h : n < 2 ^ 60) : ((n : Nat) : Int).natAbs < 2 ^ tops := by
  rw [Int.natAbs_natCast]
  exact Nat.lt_of_lt_of_le h (Nat.pow_le_pow_right (by decide) (by decide))
abbrev s__law_of : Stmt := topS 14
theorem sc__law_of : FnScope ["_law_bag_here", "_law_some"] ["_law_bag_here", "_law_some"] (defScope s__law_of) := ⟨rfl, rfl, rfl, by decide +kernel, rfl, by decide +kernel, by decide +kernel⟩
theorem ok__law_of  {k : Nat} {f : Addr} {fd : FuncData} (M : Mg mg) (F : Fun K "_law_of" "_law_of" s__law_of f fd) (C__law_draw : Cal P w K mg base CX0 k "_law_draw" ["_law_bag_here", "_law_top"] sp__law_draw) : FnOk P w K mg base CX0 (k + 1) f fd ["_law_bag_here", "_law_some"] (lSp K sp__law_of) := by
  refine dok F sc__law_of (fun ds n Q E h => ?_) (fun cdv A outer s H E hr => ⟨_, (dss_one (ds_ret (de_ix (dvb 1) (de_call C__law_draw hr (da_cons (dv 0) (da_cons (de_bi cd_len M.b_len (dab_cons (dvb 1) dab_nil)) da_nil))).b))), fun ds n Q E h => ?_⟩)
  · obtain ⟨x, ys, rfl, _⟩ := h
    rfl
  · obtain ⟨x, ys, rfl, hn, hs, h0, h1, q⟩ := h
    walk_at "dv"
    cases x with
    | lst xs =>
      cases hs
      refine ⟨_, rfl, hn, by omega, tops_ok h1, fun k k0 k1 => ?_⟩
      obtain ⟨d, e, hd⟩ := atI_in k0 k1
      walk_at "dv"
      rw [e]
      exact q d hd
    | tup xs =>
      cases hs
      refine ⟨_, rfl, hn, by omega, tops_ok h1, fun k k0 k1 => ?_⟩
      obtain ⟨d, e, hd⟩ := atI_in k0 k1
      walk_at "dv"
      rw [e]
      exact q d hd
    | str s =>
      cases hs
      have hl : (signsD s).length = s.cps.toList.length := by unfold signsD; rw [List.length_map]
      have hl2 : s.length = s.cps.toList.length := (Array.length_toList).symm
      rw [hl] at h0 h1
      walk_at "dv"
      rw [hl2]
      refine ⟨_, rfl, hn, by omega, tops_ok h1, fun k k0 k1 => ?_⟩
      obtain ⟨c, e, hc⟩ := atI_in k0 k1
      walk_at "dv"
      rw [e]
      exact q _ (List.mem_map.2 ⟨c, hc, rfl⟩)
    | _ => cases hs
end
end K1

set_option Elab.async false
set_option linter.all false
set_option maxRecDepth 100000
set_option maxHeartbeats 4000000
/-! k01: sameness by value -/
namespace K1
open PySem PySem.Spec PyProof.Rows L2 Dv
local macro_rules | `(tactic| walk_at "dv") => `(tactic| simp only [s_var, s_varb, s_test, s_tru, s_andv, s_orv, s_notv, s_chain, s_part, s_list, s_len, s_tuple, s_is, s_ixl, s_ixt, s_ixs, s_seqi, s_gcons, s_gnil, s_gtup, s_append, s_reverse, s_retof, s_reto,
  asBl_bl, asInt_int, asTup_tup, asSome_some, asLst_lst, atVal_0, atVal_s, atGet_0, atGet_o, atGet_s, atOb_o, atOb_s, s_start0, s_startU, s_startV, s_add, s_addS, s_addL, s_addT, s_i2, s_ordI, s_ordS, s_isN, s_mulI, s_mulS, s_mulL, s_strip, s_inS, s_neg, s_abs, s_intI, s_intB, s_slL, s_slT, s_slS, isStr_str, s_ifand, s_ifor, s_eqS, s_eqI, s_eqB, Dv.ite_tt, Dv.ite_ff,
  wC, wOp, wMt1, Dv.wNot, Dv.wAnd, Dv.wOr, wIfE, wNil, wCons, wTup, wLst, wOb, Ob.d, wCall, wNoPart, wSl, wNx, Dv.wSeq, wDrop, wSortedSet, wSortedLen, wSortedPair, s_all, s_lc, s_for, s_zip, s_zipS, s_rng1, s_rng2, asZip_lst, asZip_tup, asStr_str, wRet, wRetN, wRetF, wSet, wOwn, wSetOb, wIf, wBk, wCt, wFn, wFnB, wFnF, wFnK, wFnFK, dEnds, dEndsF, gNm, wYes,
  wipeE, List.map_cons, List.map_nil, List.set_cons_zero, List.set_cons_succ, D.tru, D.len, D.items, D.seq, D.flat, D.isNon, true_and, and_true, if_true, if_false, Bool.false_eq_true, Bool.not_true, Bool.not_false])

mutual
def fit : D → Bool
  | .non | .bl _ | .int _ | .str _ => true
  | .lst xs => decide (xs.length ≤ 100000) && fits xs
  | .tup xs => decide (xs.length ≤ 100000) && fits xs
  | _ => false
def fits : List D → Bool
  | [] => true
  | x :: xs => fit x && fits xs
end
theorem fits_all : ∀ {xs : List D}, fits xs = true ↔ ∀ x ∈ xs, fit x = true
  | [] => by simp [fits]
  | x :: xs => by simp [fits, fits_all (xs := xs)]
def sp_same (m : Nat) : DSp := fun ds n Q _ => ∃ x : D, ds = [x, x] ∧ fit x = true ∧ x.dep < m ∧ Q (.bl true) n
theorem zipD_self {xs : List D} {i : Nat} {y : D} (h : (zipD xs xs)[i]? = some y) : ∃ x ∈ xs, y = .tup [x, x] := by
  unfold zipD at h
  rw [List.getElem?_map] at h
  cases e : (xs.zip xs)[i]? with
  | none => rw [e] at h; cases h
  | some p =>
    rw [e] at h
    obtain ⟨h1, h2⟩ := List.getElem?_zip_eq_some.1 e
    rw [h1] at h2
    have e2 : p.1 = p.2 := Option.some.inj h2
    refine ⟨p.1, List.mem_of_getElem? h1, ?_⟩
    have := (Option.some.inj h).symm
    rw [this]
    show D.tup [p.1, p.2] = _
    rw [← e2]
theorem zipD_self_len (xs : List D) : (zipD xs xs).length = xs.length := by rw [zipD_len]; exact Nat.min_self _
section
variable {P : Program} {w : World} {K : PySem.W.Frag} {mg : Str → Option Value} {base : Heap}
abbrev s__law_same : Stmt := topS 15
theorem sc__law_same : FnScope ["_law_found", "_law_due", "_law_p", "_law_q"] ["_law_found", "_law_due"] (defScope s__law_same) := ⟨rfl, rfl, rfl, by decide +kernel, rfl, by decide +kernel, by decide +kernel⟩
theorem ok__law_same {m : Nat} {k : Nat} {f : Addr} {fd : FuncData} (M : Mg mg) (F : Fun K "_law_same" "_law_same" s__law_same f fd) (C__law_same : Cal P w K mg base CX0 k "_law_same" ["_law_found", "_law_due"] (sp_same m)) : FnOk P w K mg base CX0 (k + 1) f fd ["_law_found", "_law_due"] (lSp K (sp_same (m + 1))) := by
  refine dok F sc__law_same (fun ds n Q E h => ?_) (fun cdv A outer s H E hr => ⟨_, (dss_cons (ds_if (dt_tru (de_bi cd_isT M.b_isinstance (dab_cons (dvb 1) (dab_cons (de_tup (da_cons (de_ty (T := "list") M.b_list) (da_cons (de_ty (T := "tuple") M.b_tuple) da_nil))).b dab_nil))).b) (dss_cons (ds_if (dw_or (dt_cmp (od_ne (hu64 hr)) (de_bi cd_is M.b_isinstance (dab_cons (dvb 0) (dab_cons (de_ty (T := "list") M.b_list).b dab_nil))).b (de_bi cd_is M.b_isinstance (dab_cons (dvb 1) (dab_cons (de_ty (T := "list") M.b_list).b dab_nil))).b) (dw_or1 (dt_cmp (od_ne (hu64 hr)) (de_bi cd_is M.b_isinstance (dab_cons (dvb 0) (dab_cons (de_ty (T := "tuple") M.b_tuple).b dab_nil))).b (de_bi cd_is M.b_isinstance (dab_cons (dvb 1) (dab_cons (de_ty (T := "tuple") M.b_tuple).b dab_nil))).b))).t (dss_one (ds_ret de_bl)) dss_nil)
      (dss_one (ds_ret (de_and (de_cmp (od_eq (hu64 hr)) (de_bi cd_len M.b_len (dab_cons (dvb 0) dab_nil)).b (de_bi cd_len M.b_len (dab_cons (dvb 1) dab_nil)).b) (de_one (de_bi (cd_all rfl) M.b_all (dab_cons (df_lc (own := [("_law_p", 2), ("_law_q", 3)]) sc__law_same.nd (di_zip M.b_zip (da_cons (dv 0) (da_cons (dv 1) da_nil))) (blkOk_by (N := ["_law_found", "_law_due", "_law_p", "_law_q"]) (sc := defScope s__law_same) (by decide +kernel)) (fun _ _ _ _ _ => (dg_tup (k := 2) (dgs_name (i := 2) sc__law_same.nd rfl (by first | exact Or.inl rfl | exact Or.inr rfl) (dgs_name (i := 3) sc__law_same.nd rfl (by first | exact Or.inl rfl | exact Or.inr rfl) dgs_nil)))) (fun _ _ _ _ _ => dts_nil) (fun _ _ _ _ _ => (de_call C__law_same hr (da_cons (dv 2) (da_cons (dv 3) da_nil))))).toE.b dab_nil))))))) dss_nil)
      (dss_cons (ds_if (dt_tru (de_bi cd_isT M.b_isinstance (dab_cons (dvb 0) (dab_cons (de_tup (da_cons (de_ty (T := "list") M.b_list) (da_cons (de_ty (T := "tuple") M.b_tuple) da_nil))).b dab_nil))).b) (dss_one (ds_ret de_bl)) dss_nil)
      (dss_cons (ds_if (dw_or (dt_cmp od_isN (dvb 1) (DE.b de_non)) (dw_or1 (dt_cmp od_isN (dvb 0) (DE.b de_non)))).t (dss_one (ds_ret (de_and (de_cmp od_isN (dvb 1) (DE.b de_non)) (de_one (de_cmp od_isN (dvb 0) (DE.b de_non)))))) dss_nil)
      (dss_cons (ds_if (dw_or (dt_tru (de_bi cd_is M.b_isinstance (dab_cons (dvb 1) (dab_cons (de_ty (T := "bool") M.b_bool).b dab_nil))).b) (dw_or1 (dt_tru (de_bi cd_is M.b_isinstance (dab_cons (dvb 0) (dab_cons (de_ty (T := "bool") M.b_bool).b dab_nil))).b))).t (dss_one (ds_ret (de_and (de_bi cd_is M.b_isinstance (dab_cons (dvb 1) (dab_cons (de_ty (T := "bool") M.b_bool).b dab_nil))) (de_and (de_bi cd_is M.b_isinstance (dab_cons (dvb 0) (dab_cons (de_ty (T := "bool") M.b_bool).b dab_nil))) (de_one (de_cmp (od_eq (hu64 hr)) (dvb 0) (dvb 1))))))) dss_nil)
      (dss_cons (ds_if (dw_or (dt_tru (de_bi cd_is M.b_isinstance (dab_cons (dvb 1) (dab_cons (de_ty (T := "int") M.b_int).b dab_nil))).b) (dw_or1 (dt_tru (de_bi cd_is M.b_isinstance (dab_cons (dvb 0) (dab_cons (de_ty (T := "int") M.b_int).b dab_nil))).b))).t (dss_one (ds_ret (de_and (de_bi cd_is M.b_isinstance (dab_cons (dvb 1) (dab_cons (de_ty (T := "int") M.b_int).b dab_nil))) (de_and (de_bi cd_is M.b_isinstance (dab_cons (dvb 0) (dab_cons (de_ty (T := "int") M.b_int).b dab_nil))) (de_one (de_cmp (od_eq (hu64 hr)) (dvb 0) (dvb 1))))))) dss_nil)
      (dss_cons (ds_if (dw_or (dt_tru (de_bi cd_is M.b_isinstance (dab_cons (dvb 1) (dab_cons (de_ty (T := "str") M.b_str).b dab_nil))).b) (dw_or1 (dt_tru (de_bi cd_is M.b_isinstance (dab_cons (dvb 0) (dab_cons (de_ty (T := "str") M.b_str).b dab_nil))).b))).t (dss_one (ds_ret (de_and (de_bi cd_is M.b_isinstance (dab_cons (dvb 1) (dab_cons (de_ty (T := "str") M.b_str).b dab_nil))) (de_and (de_bi cd_is M.b_isinstance (dab_cons (dvb 0) (dab_cons (de_ty (T := "str") M.b_str).b dab_nil))) (de_one (de_cmp (od_eq (hu64 hr)) (dvb 0) (dvb 1))))))) dss_nil)
      (dss_one (ds_ret (de_cmp (od_eq (hu64 hr)) (dvb 0) (dvb 1)))))))))), fun ds n Q E h => ?_⟩)
  · obtain ⟨x, rfl, _⟩ := h
    rfl
  · obtain ⟨x, rfl, hf, hd, q⟩ := h
    have hty : x.ty? = true := by cases x <;> first | rfl | cases hf
    have l2 : [D.ty "list", D.ty "tuple"].length ≤ sizeLine := by decide
    walk_at "dv"
    simp only [s_isTs hty, isT_list hty, isT_tuple hty, isT_bool hty, isT_int hty, isT_str hty, l2]
    have fin : ∀ (xs : List D) (R : List D → D) (vs : List Nat), vs = [2, 3] → (∀ y ∈ xs, fit y = true ∧ y.dep < m) → xs.length ≤ 100000 →
        LcR (gTp 2 (gsName 2 (gsName 3 gsNil))) wYes (wFn (sp_same m) (wCons (wVar 2) (wCons (wVar 3) wNil))) vs [SD.val (R xs), SD.val (R xs), SD.un, SD.un] (zipD xs xs) n fun ds n => rAllD [.lst ds] fun d => Q d n := by
      rintro xs R vs rfl hx hl
      refine lc_map (fun _ => .bl true) ?_ ?_ fun i y hy R hR => ?_
      · rw [zipD_self_len]; have := sizeLine_eq; omega
      · have e : (zipD xs xs).map (fun _ => D.bl true) = (List.replicate (zipD xs xs).length true).map D.bl := by
          rw [List.map_replicate, List.map_const']
        rw [e, s_all]
        have e2 : (List.replicate (zipD xs xs).length true).all id = true := by simp
        rw [e2]
        exact q
      · obtain ⟨z, hz, rfl⟩ := zipD_self hy
        walk_at "dv"
        exact ⟨rfl, z, rfl, (hx z hz).1, (hx z hz).2, hR⟩
    cases x with
    | lst xs =>
      rw [fit, Bool.and_eq_true, decide_eq_true_eq, fits_all] at hf
      rw [D.dep] at hd
      have hd' := (deps_le (k := m - 1)).1 (show D.deps xs ≤ m - 1 by omega)
      have hx : ∀ y ∈ xs, fit y = true ∧ y.dep < m := fun y hy => ⟨hf.2 y hy, by have := hd' y hy; omega⟩
      simp only [D.isLst, D.isTup, Bool.or_false, decide_true, Dv.ite_tt, Dv.ite_ff, asSome_some, Bool.not_true, Bool.not_false, Bool.false_or, true_and]
      walk_at "dv"
      exact ⟨rfl, fin xs D.lst _ rfl hx hf.1⟩
    | tup xs =>
      rw [fit, Bool.and_eq_true, decide_eq_true_eq, fits_all] at hf
      rw [D.dep] at hd
      have hd' := (deps_le (k := m - 1)).1 (show D.deps xs ≤ m - 1 by omega)
      have hx : ∀ y ∈ xs, fit y = true ∧ y.dep < m := fun y hy => ⟨hf.2 y hy, by have := hd' y hy; omega⟩
      simp only [D.isLst, D.isTup, Bool.or_false, decide_true, Dv.ite_tt, Dv.ite_ff, asSome_some, Bool.not_true, Bool.not_false, Bool.false_or, true_and]
      walk_at "dv"
      exact ⟨rfl, fin xs D.tup _ rfl hx hf.1⟩
    | non => simp only [D.isLst, D.isTup, D.isBool, D.isInt, D.isStr, Bool.or_false, decide_true, Dv.ite_tt, Dv.ite_ff, asSome_some, Bool.not_true, Bool.not_false, Bool.and_true, true_and, s_eqI, s_eqS, s_eqB, Bool.false_eq_true, if_false]; exact q
    | bl b => simp only [D.isLst, D.isTup, D.isBool, D.isInt, D.isStr, Bool.or_false, decide_true, Dv.ite_tt, Dv.ite_ff, asSome_some, Bool.not_true, Bool.not_false, Bool.and_true, true_and, s_eqI, s_eqS, s_eqB, Bool.false_eq_true, if_false]; exact q
    | int i => simp only [D.isLst, D.isTup, D.isBool, D.isInt, D.isStr, Bool.or_false, decide_true, Dv.ite_tt, Dv.ite_ff, asSome_some, Bool.not_true, Bool.not_false, Bool.and_true, true_and, s_eqI, s_eqS, s_eqB, Bool.false_eq_true, if_false]; exact q
    | str s => simp only [D.isLst, D.isTup, D.isBool, D.isInt, D.isStr, Bool.or_false, decide_true, Dv.ite_tt, Dv.ite_ff, asSome_some, Bool.not_true, Bool.not_false, Bool.and_true, true_and, s_eqI, s_eqS, s_eqB, Bool.false_eq_true, if_false]; exact q
    | _ => cases hf
end
theorem same_all {P : Program} {w : World} {K : PySem.W.Frag} {mg : Str → Option Value} {base : Heap} {f : Addr} {fd : FuncData} (M : Mg mg) (F : Fun K "_law_same" "_law_same" s__law_same f fd) (gm : mg "_law_same" = some (.ref f)) (bd : Binds K fd ["_law_found", "_law_due"] []) :
    ∀ m : Nat, FnOk P w K mg base CX0 (m + 1) f fd ["_law_found", "_law_due"] (lSp K (sp_same m))
  | 0 => F.ok sc__law_same (fun vs H Q E ⟨c, ds, n, Q0, E0, h1, h2, ⟨x, _, _, h, _⟩, _⟩ => by omega) (fun cdv A outer s H vs Q E hr ⟨c, ds, n, Q0, E0, h1, h2, ⟨x, _, _, h, _⟩, _⟩ => by omega)
  | m + 1 => ok__law_same M F ⟨⟨f, fd, same_all M F gm bd m, gm, F.kp, bd⟩⟩
end K1

set_option Elab.async false
set_option linter.all false
set_option maxRecDepth 100000
set_option maxHeartbeats 4000000
/-! Ma01: texts in short order; strip and in as words on signs -/
namespace Ma
open PySem PySem.Spec PyProof.Rows L2 Dv
theorem inS_one (c : Nat) (t : Str) : inS ⟨#[c]⟩ t = decide (c ∈ t.cps.toList) := PySem.StrLaws.found_one t c
theorem str_nil {s : Str} : s = "" ↔ s.cps.toList = [] := by
  constructor
  · rintro rfl; rfl
  · intro h
    cases s with
    | mk a =>
      have : a = #[] := by
        have h' : a.toList = [] := h
        cases a
        simp at h'
        rw [h']
      subst this
      rfl
theorem takeWhile_len {p : Nat → Bool} : ∀ {l : List Nat}, (l.takeWhile p).length = l.length ↔ ∀ c ∈ l, p c = true
  | [] => by simp
  | c :: l => by
    rw [List.takeWhile_cons]
    by_cases h : p c = true
    · rw [if_pos h, List.length_cons, List.length_cons, Nat.add_right_cancel_iff, takeWhile_len (l := l)]
      simp [h]
    · rw [if_neg h]
      simp [h]
theorem takeWhile_le (p : Nat → Bool) : ∀ (l : List Nat), (l.takeWhile p).length ≤ l.length
  | [] => Nat.le_refl _
  | c :: l => by
    rw [List.takeWhile_cons]
    split
    · rw [List.length_cons, List.length_cons]
      exact Nat.succ_le_succ (takeWhile_le p l)
    · exact Nat.zero_le _
theorem drop_takeWhile {p : Nat → Bool} : ∀ {l : List Nat}, (l.takeWhile p).length < l.length → ∃ c r, l.drop (l.takeWhile p).length = c :: r ∧ p c = false
  | [], h => by simp at h
  | c :: l, h => by
    rw [List.takeWhile_cons] at h ⊢
    by_cases hp : p c = true
    · rw [if_pos hp] at h ⊢
      rw [List.length_cons, List.length_cons] at h
      rw [List.length_cons, List.drop_succ_cons]
      exact drop_takeWhile (by omega)
    · rw [if_neg hp]
      exact ⟨c, l, rfl, by simpa using hp⟩
/-- nothing is left of a text when the signs of t are taken away at both ends: it has no others -/
theorem strip_nil (s t : Str) : Txt.stripChars s t = "" ↔ ∀ c ∈ s.cps.toList, c ∈ t.cps.toList := by
  have hp : ∀ c, t.cps.contains c = true ↔ c ∈ t.cps.toList := fun c => by simp
  have hlen : s.length = s.cps.toList.length := (Array.length_toList).symm
  have lo : PySem.stripLo t.cps.contains true s = (s.cps.toList.takeWhile t.cps.contains).length := rfl
  have hi : PySem.stripHi t.cps.contains true s (PySem.stripLo t.cps.contains true s) = s.cps.toList.length - ((s.cps.toList.drop (s.cps.toList.takeWhile t.cps.contains).length).reverse.takeWhile t.cps.contains).length := by
    rw [lo, ← hlen]
    rfl
  have le1 := takeWhile_le t.cps.contains s.cps.toList
  have le2 := takeWhile_le t.cps.contains (s.cps.toList.drop (s.cps.toList.takeWhile t.cps.contains).length).reverse
  rw [List.length_reverse, List.length_drop] at le2
  have all_iff : (∀ c ∈ s.cps.toList, c ∈ t.cps.toList) ↔ (s.cps.toList.takeWhile t.cps.contains).length = s.cps.toList.length := by
    rw [takeWhile_len]
    exact ⟨fun h c hc => (hp c).2 (h c hc), fun h c hc => (hp c).1 (h c hc)⟩
  -- a sign that stays
  have stays : (s.cps.toList.takeWhile t.cps.contains).length < s.cps.toList.length → ((s.cps.toList.drop (s.cps.toList.takeWhile t.cps.contains).length).reverse.takeWhile t.cps.contains).length < s.cps.toList.length - (s.cps.toList.takeWhile t.cps.contains).length := fun h => by
    refine Nat.lt_of_le_of_ne le2 fun e => ?_
    obtain ⟨c, r, e1, e2⟩ := drop_takeWhile h
    have : (((s.cps.toList.drop (s.cps.toList.takeWhile t.cps.contains).length).reverse.takeWhile t.cps.contains).length) = (s.cps.toList.drop (s.cps.toList.takeWhile t.cps.contains).length).reverse.length := by
      rw [e, List.length_reverse, List.length_drop]
    have a := takeWhile_len.1 this c (by rw [e1]; simp)
    rw [e2] at a
    cases a
  unfold Txt.stripChars Txt.stripBy
  rw [all_iff]
  by_cases hs : PySem.stripSame t.cps.contains true true s = true
  · rw [if_pos hs, str_nil]
    unfold PySem.stripSame at hs
    rw [hi, lo, Bool.and_eq_true, beq_iff_eq, beq_iff_eq] at hs
    constructor
    · intro h
      rw [h]
      rfl
    · intro h
      rw [hs.1] at h
      exact List.length_eq_zero_iff.1 h.symm
  · rw [if_neg hs, str_nil]
    unfold PySem.stripped Builtin.Str.strSub
    rw [hi, lo]
    have e : (s.cps.extract (s.cps.toList.takeWhile t.cps.contains).length (s.cps.toList.length - ((s.cps.toList.drop (s.cps.toList.takeWhile t.cps.contains).length).reverse.takeWhile t.cps.contains).length)).toList = [] ↔ (s.cps.toList.length - ((s.cps.toList.drop (s.cps.toList.takeWhile t.cps.contains).length).reverse.takeWhile t.cps.contains).length) ≤ (s.cps.toList.takeWhile t.cps.contains).length := by
      rw [← List.length_eq_zero_iff, Array.length_toList, Array.size_extract, ← Array.length_toList]
      omega
    rw [e]
    constructor
    · intro h
      rcases Nat.lt_or_ge (s.cps.toList.takeWhile t.cps.contains).length s.cps.toList.length with z | z
      · have := stays z
        omega
      · omega
    · intro h
      rw [h]
      omega
/-! ### strictly ascending lists -/
theorem strict_unique {α : Type} {lt : α → α → Prop} (irr : ∀ a, ¬ lt a a) (asy : ∀ a b, lt a b → ¬ lt b a) : ∀ {xs ys : List α}, xs.Pairwise lt → ys.Pairwise lt → (∀ z, z ∈ xs ↔ z ∈ ys) → xs = ys
  | [], [], _, _, _ => rfl
  | [], y :: ys, _, _, h => absurd ((h y).2 List.mem_cons_self) (by simp)
  | x :: xs, [], _, _, h => absurd ((h x).1 List.mem_cons_self) (by simp)
  | x :: xs, y :: ys, hx, hy, h => by
    rw [List.pairwise_cons] at hx hy
    have e : x = y := by
      rcases List.mem_cons.1 ((h x).1 List.mem_cons_self) with e | e
      · exact e
      · rcases List.mem_cons.1 ((h y).2 List.mem_cons_self) with f | f
        · exact f.symm
        · exact absurd (hy.1 x e) (asy _ _ (hx.1 y f))
    subst e
    rw [strict_unique irr asy hx.2 hy.2 fun z => ?_]
    constructor
    · intro hz
      rcases List.mem_cons.1 ((h z).1 (List.mem_cons_of_mem _ hz)) with e | e
      · exact absurd (hx.1 z hz) (by rw [e]; exact irr x)
      · exact e
    · intro hz
      rcases List.mem_cons.1 ((h z).2 (List.mem_cons_of_mem _ hz)) with e | e
      · exact absurd (hy.1 z hz) (by rw [e]; exact irr x)
      · exact e
theorem no_swap {α : Type} {a b : α} : ∀ {l : List α}, l.Nodup → List.Sublist [a, b] l → List.Sublist [b, a] l → False
  | [], _, h, _ => by simp at h
  | c :: l, hn, h1, h2 => by
    rw [List.nodup_cons] at hn
    cases h1 with
    | cons _ h1 =>
      cases h2 with
      | cons _ h2 => exact no_swap hn.2 h1 h2
      | cons_cons _ h2 => exact hn.1 (h1.subset (by simp))
    | cons_cons _ h1 =>
      cases h2 with
      | cons _ h2 => exact hn.1 (h2.subset (by simp))
      | cons_cons _ h2 => exact hn.1 (h1.subset (by simp))
/-- short order -/
def ltShort (p q : Str) : Prop := p.length < q.length ∨ (p.length = q.length ∧ p.cps.toList < q.cps.toList)
theorem str_eq {p q : Str} (h : p.cps.toList = q.cps.toList) : p = q := by
  cases p; cases q
  have h' : Array.toList _ = Array.toList _ := h
  rw [Array.toList_inj] at h'
  exact congrArg _ h'
theorem lt_irr (p : Str) : ¬ ltShort p p := fun h => by
  rcases h with h | h
  · omega
  · exact List.lt_irrefl _ h.2
theorem lt_asy (p q : Str) (h : ltShort p q) : ¬ ltShort q p := fun k => by
  rcases h with h | h <;> rcases k with k | k
  · omega
  · omega
  · omega
  · exact List.lt_asymm h.2 k.2
theorem lex_lt_of {p q : Str} (h : p.cps.toList ≤ q.cps.toList) (hne : p ≠ q) : p.cps.toList < q.cps.toList := by
  rcases List.le_iff_lt_or_eq.1 h with h | h
  · exact h
  · exact absurd (str_eq h) hne
theorem leLen_trans (a b c : Str) (h1 : Ss.leLen a b = true) (h2 : Ss.leLen b c = true) : Ss.leLen a c = true := by
  rw [Ss.leLen_iff] at *
  omega
theorem leLen_total (a b : Str) : (Ss.leLen a b || Ss.leLen b a) = true := by
  rw [Bool.or_eq_true, Ss.leLen_iff, Ss.leLen_iff]
  omega
theorem short_pw {xs ns : List Str} (asc : Ss.Ascending xs ns) : (ns.mergeSort Ss.leLen).Pairwise ltShort := by
  have hs := List.pairwise_mergeSort leLen_trans leLen_total ns
  have hp := List.mergeSort_perm ns Ss.leLen
  have nd : (ns.mergeSort Ss.leLen).Nodup := hp.nodup_iff.2 asc.nodup
  rw [List.pairwise_iff_forall_sublist]
  intro a b hab
  have le := (List.pairwise_iff_forall_sublist.1 hs) hab
  rw [Ss.leLen_iff] at le
  rcases Nat.lt_or_eq_of_le le with h | h
  · exact .inl h
  · refine .inr ⟨h, ?_⟩
    have hne : a ≠ b := fun e => by
      have := (List.pairwise_iff_forall_sublist.1 nd) hab
      exact this e
    have ha : a ∈ ns := hp.mem_iff.1 (hab.subset (by simp))
    have hb : b ∈ ns := hp.mem_iff.1 (hab.subset (by simp))
    -- in ns the two stand in the same order
    have key : ∀ {l : List Str}, a ∈ l → b ∈ l → List.Sublist [a, b] l ∨ List.Sublist [b, a] l := by
      intro l
      induction l with
      | nil => intro h; cases h
      | cons c l ih =>
        intro h1 h2
        rcases List.mem_cons.1 h1 with e1 | k1 <;> rcases List.mem_cons.1 h2 with e2 | k2
        · exact absurd (e1.trans e2.symm) hne
        · subst e1; exact .inl ((List.singleton_sublist.2 k2).cons_cons _)
        · subst e2; exact .inr ((List.singleton_sublist.2 k1).cons_cons _)
        · exact (ih k1 k2).imp (fun z => z.cons _) (fun z => z.cons _)
    rcases key ha hb with z | z
    · have := (List.pairwise_iff_forall_sublist.1 asc.sorted) z
      exact lex_lt_of ((Ss.leStr_iff a b).1 this) hne
    · exfalso
      have z2 := List.pair_sublist_mergeSort leLen_trans leLen_total (by rw [Ss.leLen_iff]; omega) z
      exact no_swap nd hab z2
theorem short_mem {xs ns : List Str} (asc : Ss.Ascending xs ns) (z : Str) : z ∈ ns.mergeSort Ss.leLen ↔ z ∈ xs := by
  rw [(List.mergeSort_perm ns Ss.leLen).mem_iff, asc.mem]
theorem short_eq {xs ns ys : List Str} (asc : Ss.Ascending xs ns) (h : ys.Pairwise ltShort) (hm : ∀ z, z ∈ ys ↔ z ∈ xs) : ns.mergeSort Ss.leLen = ys :=
  strict_unique lt_irr lt_asy (short_pw asc) h fun z => by rw [short_mem asc, hm]
/-! ### the law's own way: sorted pairs, equal ones left out -/
theorem leP_trans (a b c : Int × Str) (h1 : So.leP a b = true) (h2 : So.leP b c = true) : So.leP a c = true := by
  rw [So.leP_iff] at *
  rcases h1 with h1 | h1 <;> rcases h2 with h2 | h2
  · exact .inl (by omega)
  · exact .inl (by omega)
  · exact .inl (by omega)
  · exact .inr ⟨by omega, List.le_trans h1.2 h2.2⟩
theorem leP_total (a b : Int × Str) : (So.leP a b || So.leP b a) = true := by
  rw [Bool.or_eq_true, So.leP_iff, So.leP_iff]
  rcases Int.lt_trichotomy a.1 b.1 with h | h | h
  · exact .inl (.inl h)
  · rcases List.le_total a.2.cps.toList b.2.cps.toList with g | g
    · exact .inl (.inr ⟨h, g⟩)
    · exact .inr (.inr ⟨h.symm, g⟩)
  · exact .inr (.inl h)
def newAt {α : Type} [DecidableEq α] (rows : List α) (k : Nat) : Bool := decide (k = 0) || decide (rows[k - 1]? ≠ rows[k]?)
def uniq {α : Type} [DecidableEq α] (rows : List α) (d : α) : List α := ((List.range rows.length).filter (newAt rows)).map fun k => rows.getD k d
theorem uniq_mem {α : Type} [DecidableEq α] (rows : List α) (d z : α) : z ∈ uniq rows d ↔ z ∈ rows := by
  unfold uniq
  rw [List.mem_map]
  constructor
  · rintro ⟨k, hk, rfl⟩
    rw [List.mem_filter, List.mem_range] at hk
    rw [List.getD_eq_getElem?_getD, List.getElem?_eq_getElem hk.1]
    exact List.getElem_mem hk.1
  · intro hz
    obtain ⟨m, hm, e⟩ := List.mem_iff_getElem.1 hz
    -- the first place of z
    have key : ∀ m : Nat, (hm : m < rows.length) → rows[m] = z → ∃ k, k < rows.length ∧ rows[k]? = some z ∧ newAt rows k = true := by
      intro m
      induction m with
      | zero =>
        intro hm e
        exact ⟨0, hm, by rw [List.getElem?_eq_getElem hm, e], rfl⟩
      | succ m ih =>
        intro hm e
        by_cases h : rows[m] = z
        · exact ih (by omega) h
        · refine ⟨m + 1, hm, by rw [List.getElem?_eq_getElem hm, e], ?_⟩
          unfold newAt
          rw [Bool.or_eq_true]
          refine .inr (decide_eq_true fun z' => h ?_)
          rw [show m + 1 - 1 = m from rfl, List.getElem?_eq_getElem hm, List.getElem?_eq_getElem (show m < rows.length by omega), e] at z'
          exact Option.some.inj z'
    obtain ⟨k, h1, h2, h3⟩ := key m hm e
    exact ⟨k, List.mem_filter.2 ⟨List.mem_range.2 h1, h3⟩, by rw [List.getD_eq_getElem?_getD, h2]; rfl⟩
theorem uniq_pw {α : Type} [DecidableEq α] {le : α → α → Prop} {rows : List α} (d : α) (trans : ∀ a b c, le a b → le b c → le a c) (anti : ∀ a b, le a b → le b a → a = b) (h : rows.Pairwise le) (refl : ∀ a, le a a) : (uniq rows d).Pairwise fun a b => le a b ∧ a ≠ b := by
  unfold uniq
  rw [List.pairwise_map]
  have hr : (List.range rows.length).Pairwise (· < ·) := List.pairwise_lt_range
  have at_ : ∀ i j : Nat, i ≤ j → (hj : j < rows.length) → le (rows.getD i d) (rows.getD j d) := fun i j hij hj => by
    rw [List.getD_eq_getElem?_getD, List.getD_eq_getElem?_getD, List.getElem?_eq_getElem hj, List.getElem?_eq_getElem (show i < rows.length by omega)]
    rcases Nat.lt_or_eq_of_le hij with h' | h'
    · exact List.pairwise_iff_getElem.1 h i j (by omega) hj h'
    · subst h'; exact refl _
  refine (hr.filter (newAt rows)).imp_of_mem fun {i j} hi hj hij => ?_
  rw [List.mem_filter, List.mem_range] at hi hj
  refine ⟨at_ i j (by omega) hj.1, fun e => ?_⟩
  have h1 := hj.2
  unfold newAt at h1
  rw [Bool.or_eq_true] at h1
  rcases h1 with h1 | h1
  · have := of_decide_eq_true h1
    omega
  · refine of_decide_eq_true h1 ?_
    have a := at_ i (j - 1) (by omega) (by omega)
    have b := at_ (j - 1) j (by omega) hj.1
    rw [e] at a
    have c := anti _ _ b a
    have e1 : rows[j - 1]? = some (rows.getD (j - 1) d) := by
      rw [List.getD_eq_getElem?_getD, List.getElem?_eq_getElem (show j - 1 < rows.length by omega)]
      rfl
    have e2 : rows[j]? = some (rows.getD j d) := by
      rw [List.getD_eq_getElem?_getD, List.getElem?_eq_getElem hj.1]
      rfl
    rw [e1, e2, c]
end Ma

set_option Elab.async false
set_option linter.all false
set_option maxRecDepth 100000
set_option maxHeartbeats 4000000
/-! k01: words and values drawn -/
namespace K1
open PySem PySem.Spec PyProof.Rows L2 Dv
local macro_rules | `(tactic| walk_at "dv") => `(tactic| simp only [s_var, s_varb, s_test, s_tru, s_andv, s_orv, s_notv, s_chain, s_part, s_list, s_len, s_tuple, s_is, s_ixl, s_ixt, s_ixs, s_seqi, s_gcons, s_gnil, s_gtup, s_append, s_reverse, s_retof, s_reto,
  asBl_bl, asInt_int, asTup_tup, asSome_some, asLst_lst, atVal_0, atVal_s, atGet_0, atGet_o, atGet_s, atOb_o, atOb_s, s_start0, s_startU, s_startV, s_add, s_addS, s_addL, s_addT, s_i2, s_ordI, s_ordS, s_isN, s_mulI, s_mulS, s_mulL, s_strip, s_inS, s_neg, s_abs, s_intI, s_intB, s_slL, s_slT, s_slS, isStr_str, s_ifand, s_ifor, s_eqS, s_eqI, s_eqB, Dv.ite_tt, Dv.ite_ff,
  wC, wOp, wMt1, Dv.wNot, Dv.wAnd, Dv.wOr, wIfE, wNil, wCons, wTup, wLst, wOb, Ob.d, wCall, wNoPart, wSl, wNx, Dv.wSeq, wDrop, wSortedSet, wSortedLen, wSortedPair, s_all, s_lc, s_for, s_zip, s_zipS, s_rng1, s_rng2, asZip_lst, asZip_tup, asStr_str, wRet, wRetN, wRetF, wSet, wOwn, wSetOb, wIf, wBk, wCt, wFn, wFnB, wFnF, wFnK, wFnFK, dEnds, dEndsF, gNm, wYes,
  wipeE, List.map_cons, List.map_nil, List.set_cons_zero, List.set_cons_succ, D.tru, D.len, D.items, D.seq, D.flat, D.isNon, true_and, and_true, if_true, if_false, Bool.false_eq_true, Bool.not_true, Bool.not_false])

local macro_rules | `(tactic| walk_at "sz") => `(tactic| simp only [List.length_cons, List.length_nil, sizeLine_eq, Nat.reduceAdd, Nat.reduceLeDiff, true_and])
section
variable {P : Program} {w : World} {K : PySem.W.Frag} {mg : Str → Option Value} {base : Heap}
def LetS (u : Str) : Prop := ∀ c ∈ u.cps.toList, 97 ≤ c ∧ c ≤ 100
def isLetC (c : Nat) : Prop := 97 ≤ c ∧ c ≤ 100
def sp__law_word : DSp := fun ds n Q _ => ∃ m : Int, ds = [.bag, .int m] ∧ n + 100 < 2 ^ 40 ∧ 0 ≤ m ∧ m ≤ 40 ∧ ∀ u n', LetS u → u.length ≤ 40 → n ≤ n' → n' ≤ n + 100 → Q (.str u) n'
theorem tops_int {t : Int} (h0 : 0 ≤ t) (h : t < 2 ^ 60) : t.natAbs < 2 ^ tops := by
  have e : t.natAbs < 2 ^ 60 := by omega
  exact Nat.lt_of_lt_of_le e (Nat.pow_le_pow_right (by decide) (by decide))
theorem sub_sign {s : Str} {d : D} (h : d ∈ signsD s) : ∃ c ∈ s.cps.toList, d = .str (sgn c) := by
  unfold signsD at h
  obtain ⟨c, hc, e⟩ := List.mem_map.1 h
  exact ⟨c, hc, e.symm⟩
theorem signsD_len (s : Str) : (signsD s).length = s.length := by unfold signsD; rw [List.length_map, len_toList]
/-- signs drawn, put together -/
theorem join_drawn {p : Nat → Prop} {Q : Str → Prop} {ds : List D} {k : Nat} (hl : ds.length ≤ k) (hk : k ≤ 1000) (h : ∀ (i : Nat) (d : D), ds[i]? = some d → ∃ c, p c ∧ d = .str (sgn c)) (hq : ∀ u : Str, (∀ c ∈ u.cps.toList, p c) → u.length = ds.length → Q u) : rJoinD (.str "") (.lst ds) fun d => ∃ u, d = .str u ∧ Q u := by
  obtain ⟨cs, rfl, hc⟩ := signs_of h
  rw [List.length_map] at hl hq
  refine ⟨"", _, cs.map sgn, rfl, rfl, strsOf_signs cs, ?_, _, rfl, hq _ (by rw [join_signs]; exact hc) (by rw [len_toList, join_signs])⟩
  rw [signs_len, List.length_map]
  show cs.length + cs.length * 0 ≤ _
  omega
theorem join_imp {d e : D} {Q Q' : D → Prop} (h : rJoinD d e Q) (k : ∀ x, Q x → Q' x) : rJoinD d e Q' := by
  obtain ⟨a, xs, ss, h1, h2, h3, h4, h5⟩ := h
  exact ⟨a, xs, ss, h1, h2, h3, h4, k _ h5⟩
abbrev s__law_word : Stmt := topS 16
theorem sc__law_word : FnScope ["_law_bag_here", "_law_most_y", "_law_some", "_law_k"] ["_law_bag_here", "_law_most_y"] (defScope s__law_word) := ⟨rfl, rfl, rfl, by decide +kernel, rfl, by decide +kernel, by decide +kernel⟩
theorem ok__law_word  {k : Nat} {f : Addr} {fd : FuncData} (M : Mg mg) (F : Fun K "_law_word" "_law_word" s__law_word f fd) (C__law_of : Cal P w K mg base CX0 k "_law_of" ["_law_bag_here", "_law_some"] sp__law_of) (C__law_draw : Cal P w K mg base CX0 k "_law_draw" ["_law_bag_here", "_law_top"] sp__law_draw) : FnOk P w K mg base CX0 (k + 1) f fd ["_law_bag_here", "_law_most_y"] (lSp K sp__law_word) := by
  refine dok F sc__law_word (fun ds n Q E h => ?_) (fun cdv A outer s H E hr => ⟨_, (dss_cons (ds_set (i := 2) sc__law_word.nd rfl (by first | exact Or.inl rfl | exact Or.inr rfl) (de_call C__law_of hr (da_cons (dv 0) (da_cons (df_lst (da_cons de_str (da_cons de_str (da_cons de_str (da_cons de_str (da_cons de_str da_nil)))))).toE da_nil))))
      (dss_one (ds_ret (de_join (DE.b de_str) (df_lc (own := [("_law_k", 3)]) sc__law_word.nd (di_rng1 M.b_range (da_cons (de_call C__law_draw hr (da_cons (dv 0) (da_cons (de_op od_add (dvb 1) (DE.b de_int)) da_nil))) da_nil)) (blkOk_by (N := ["_law_bag_here", "_law_most_y", "_law_some", "_law_k"]) (sc := defScope s__law_word) (by decide +kernel)) (fun _ _ _ _ _ => (dg_name (i := 3) sc__law_word.nd rfl (by first | exact Or.inl rfl | exact Or.inr rfl))) (fun _ _ _ _ _ => dts_nil) (fun _ _ _ _ _ => (de_call C__law_of hr (da_cons (dv 0) (da_cons (dv 2) da_nil))))).toE.b)))), fun ds n Q E h => ?_⟩)
  · obtain ⟨m, rfl, _⟩ := h
    rfl
  · obtain ⟨m, rfl, hn, m0, m1, q⟩ := h
    walk_at "dv"
    refine ⟨by decide, _, _, rfl, by omega, rfl, by decide, by decide, fun d hd => ?_⟩
    obtain ⟨s, rfl, hl, h0, h1⟩ : ∃ s, d = .str s ∧ LetS s ∧ 0 < (signsD s).length ∧ (signsD s).length < 2 ^ 60 := by
      simp only [List.mem_cons, List.not_mem_nil, or_false] at hd
      rcases hd with e | e | e | e | e <;> exact ⟨_, e, by unfold LetS; decide +kernel, by decide +kernel, by decide +kernel⟩
    refine ⟨rfl, _, rfl, by omega, by omega, tops_int (by omega) (by omega), fun k k0 k1 => ?_⟩
    walk_at "dv"
    refine ⟨⟨by omega, by omega⟩, ?_⟩
    refine lc_draw (fun _ d => ∃ c, isLetC c ∧ d = .str (sgn c)) 1 ?_ (fun ds n' h1 h2 h3 h4 => ?_) (fun i y hy n1 R hn1 hn2 hR => ?_)
    · rw [rngD_len]
      have := sizeLine_eq
      omega
    · rw [rngD_len] at h1 h4
      refine join_imp (join_drawn (Q := fun u => LetS u ∧ u.length = ds.length) (k := 41) (by omega) (by omega) h2 fun u hu e => ⟨hu, e⟩) ?_
      rintro x ⟨u, rfl, hu, e⟩
      exact q u n' hu (by omega) (by omega) (by omega)
    · obtain ⟨hi, rfl⟩ := rngD_get hy
      walk_at "dv"
      refine ⟨_, _, rfl, by omega, rfl, h0, h1, fun d hd => ?_⟩
      obtain ⟨c, hc, rfl⟩ := sub_sign hd
      exact hR _ _ ⟨c, hl c hc, rfl⟩ (by omega) (by omega)
end
end K1

set_option Elab.async false
set_option linter.all false
set_option maxRecDepth 100000
set_option maxHeartbeats 4000000
/-! k01: values drawn -/
namespace K1
open PySem PySem.Spec PyProof.Rows L2 Dv
local macro_rules | `(tactic| walk_at "dv") => `(tactic| simp only [s_var, s_varb, s_test, s_tru, s_andv, s_orv, s_notv, s_chain, s_part, s_list, s_len, s_tuple, s_is, s_ixl, s_ixt, s_ixs, s_seqi, s_gcons, s_gnil, s_gtup, s_append, s_reverse, s_retof, s_reto,
  asBl_bl, asInt_int, asTup_tup, asSome_some, asLst_lst, atVal_0, atVal_s, atGet_0, atGet_o, atGet_s, atOb_o, atOb_s, s_start0, s_startU, s_startV, s_add, s_addS, s_addL, s_addT, s_i2, s_ordI, s_ordS, s_isN, s_mulI, s_mulS, s_mulL, s_strip, s_inS, s_neg, s_abs, s_intI, s_intB, s_slL, s_slT, s_slS, isStr_str, s_ifand, s_ifor, s_eqS, s_eqI, s_eqB, Dv.ite_tt, Dv.ite_ff,
  wC, wOp, wMt1, Dv.wNot, Dv.wAnd, Dv.wOr, wIfE, wNil, wCons, wTup, wLst, wOb, Ob.d, wCall, wNoPart, wSl, wNx, Dv.wSeq, wDrop, wSortedSet, wSortedLen, wSortedPair, s_all, s_lc, s_for, s_zip, s_zipS, s_rng1, s_rng2, asZip_lst, asZip_tup, asStr_str, wRet, wRetN, wRetF, wSet, wOwn, wSetOb, wIf, wBk, wCt, wFn, wFnB, wFnF, wFnK, wFnFK, dEnds, dEndsF, gNm, wYes,
  wipeE, List.map_cons, List.map_nil, List.set_cons_zero, List.set_cons_succ, D.tru, D.len, D.items, D.seq, D.flat, D.isNon, true_and, and_true, if_true, if_false, Bool.false_eq_true, Bool.not_true, Bool.not_false])

section
variable {P : Program} {w : World} {K : PySem.W.Frag} {mg : Str → Option Value} {base : Heap}
def ValOk (d : D) : Prop := d.ty? = true ∧ ∀ s, d = .str s → s.length ≤ 1000
def sp__law_any : DSp := fun ds n Q _ => ∃ more : List D, ds = [.bag, .lst more] ∧ n < 2 ^ 40 ∧ more.length ≤ 100 ∧ (∀ d ∈ more, ValOk d) ∧ ∀ d, ValOk d → Q d (n + 1)
theorem val_str {s : Str} (h : s.length ≤ 1000) : ValOk (.str s) := ⟨rfl, fun t e => by cases e; exact h⟩
abbrev s__law_any : Stmt := topS 17
theorem sc__law_any : FnScope ["_law_bag_here", "_law_more", "_law_menu"] ["_law_bag_here", "_law_more"] (defScope s__law_any) := ⟨rfl, rfl, rfl, by decide +kernel, rfl, by decide +kernel, by decide +kernel⟩
theorem ok__law_any  {k : Nat} {f : Addr} {fd : FuncData} (M : Mg mg) (F : Fun K "_law_any" "_law_any" s__law_any f fd) (C__law_of : Cal P w K mg base CX0 k "_law_of" ["_law_bag_here", "_law_some"] sp__law_of) : FnOk P w K mg base CX0 (k + 1) f fd ["_law_bag_here", "_law_more"] (lSp K sp__law_any) := by
  refine dok F sc__law_any (fun ds n Q E h => ?_) (fun cdv A outer s H E hr => ⟨_, (dss_cons (ds_set (i := 2) sc__law_any.nd rfl (by first | exact Or.inl rfl | exact Or.inr rfl) (df_lst (da_cons de_non (da_cons de_bl (da_cons de_bl (da_cons de_int (da_cons de_int (da_cons (de_neg (DE.b de_int)) (da_cons de_int (da_cons (de_op od_pow (DE.b de_int) (DE.b de_int)) (da_cons de_str (da_cons de_str (da_cons de_str (da_cons de_str (da_cons de_str (da_cons de_str (da_cons (de_tup da_nil) (da_cons (df_lst da_nil).toE (da_cons (de_tup (da_cons de_str da_nil)) (da_cons (df_lst (da_cons de_str da_nil)).toE (da_cons (de_tup (da_cons de_int (da_cons de_int da_nil))) (da_cons (de_tup (da_cons (de_tup da_nil) da_nil)) (da_cons de_str (da_cons de_str (da_cons de_str da_nil)))))))))))))))))))))))).toE)
      (dss_one (ds_ret (de_call C__law_of hr (da_cons (dv 0) (da_cons (de_op od_add (de_op od_add (dvb 2) (df_lst (da_cons (de_tup (da_cons de_str (da_cons de_non (da_cons de_non (da_cons de_non (da_cons de_non da_nil)))))) (da_cons (df_lst (da_cons (de_tup (da_cons de_str (da_cons de_int da_nil))) da_nil)).toE da_nil))).toE.b).b (dvb 1)) da_nil)))))), fun ds n Q E h => ?_⟩)
  · obtain ⟨m, rfl, _⟩ := h
    rfl
  · obtain ⟨m, rfl, hn, hm, hv, q⟩ := h
    walk_at "dv"
    refine ⟨⟨by decide, by decide, by decide⟩, by decide, by decide, by decide, by decide, by decide, by decide, by decide, by decide, by decide, by decide, by decide, by decide, by decide, ?_, _, _, rfl, hn, rfl, ?_, ?_, fun d hd => q d ?_⟩
    · have := sizeLine_eq
      simp only [List.length_append, List.length_cons, List.length_nil]
      omega
    · simp only [List.length_append, List.length_cons, List.length_nil]
      omega
    · simp only [List.length_append, List.length_cons, List.length_nil]
      omega
    · rw [List.mem_append, List.mem_append] at hd
      rcases hd with (hd | hd) | hd
      · simp only [List.mem_cons, List.not_mem_nil, or_false] at hd
        rcases hd with e | e | e | e | e | e | e | e | e | e | e | e | e | e | e | e | e | e | e | e | e | e | e <;> rw [e] <;> first | exact val_str (by decide +kernel) | exact ⟨rfl, fun s h => nomatch h⟩
      · simp only [List.mem_cons, List.not_mem_nil, or_false] at hd
        rcases hd with e | e <;> rw [e] <;> exact ⟨rfl, fun s h => nomatch h⟩
      · exact hv d hd
def sp__law_value : DSp := fun ds n Q _ => ds = [.bag] ∧ n + 1000 < 2 ^ 40 ∧ ∀ d n', ValOk d → n ≤ n' → n' ≤ n + 1000 → Q d n'
theorem cutS_len (s : Str) (lo hi : Option Int) : (cutS s lo hi).length ≤ s.length := cutS_length s lo hi
abbrev s__law_value : Stmt := topS 18
theorem sc__law_value : FnScope ["_law_bag_here", "_law_way", "_law_told", "_law_spot", "_law_k"] ["_law_bag_here"] (defScope s__law_value) := ⟨rfl, rfl, rfl, by decide +kernel, rfl, by decide +kernel, by decide +kernel⟩
theorem ok__law_value  {k : Nat} {f : Addr} {fd : FuncData} (M : Mg mg) (F : Fun K "_law_value" "_law_value" s__law_value f fd) (C__law_draw : Cal P w K mg base CX0 k "_law_draw" ["_law_bag_here", "_law_top"] sp__law_draw) (C__law_any : Cal P w K mg base CX0 k "_law_any" ["_law_bag_here", "_law_more"] sp__law_any) (C__law_of : Cal P w K mg base CX0 k "_law_of" ["_law_bag_here", "_law_some"] sp__law_of) (C__law_word : Cal P w K mg base CX0 k "_law_word" ["_law_bag_here", "_law_most_y"] sp__law_word) : FnOk P w K mg base CX0 (k + 1) f fd ["_law_bag_here"] (lSp K sp__law_value) := by
  refine dok F sc__law_value (fun ds n Q E h => ?_) (fun cdv A outer s H E hr => ⟨_, (dss_cons (ds_set (i := 1) sc__law_value.nd rfl (by first | exact Or.inl rfl | exact Or.inr rfl) (de_call C__law_draw hr (da_cons (dv 0) (da_cons de_int da_nil))))
      (dss_cons (ds_if (dt_cmp (od_eq (hu64 hr)) (dvb 1) (DE.b de_int)) (dss_one (ds_ret (de_call C__law_any hr (da_cons (dv 0) (da_cons (df_lst (da_cons de_str (da_cons de_str (da_cons de_str (da_cons (df_lst (da_cons de_str da_nil)).toE (da_cons de_str (da_cons de_str (da_cons de_str da_nil)))))))).toE da_nil))))) dss_nil)
      (dss_cons (ds_if (dt_cmp (od_eq (hu64 hr)) (dvb 1) (DE.b de_int)) (dss_cons (ds_set (i := 2) sc__law_value.nd rfl (by first | exact Or.inl rfl | exact Or.inr rfl) (de_op od_mul (de_call C__law_of hr (da_cons (dv 0) (da_cons (de_gstr M.c_LETTERS) da_nil))).b (de_call C__law_of hr (da_cons (dv 0) (da_cons (df_lst (da_cons de_int (da_cons de_int (da_cons de_int (da_cons de_int da_nil))))).toE da_nil))).b))
      (dss_one (ds_ret (de_op od_add (de_op od_add (de_call C__law_of hr (da_cons (dv 0) (da_cons (df_lst (da_cons de_str (da_cons de_str (da_cons de_str da_nil)))).toE da_nil))).b (dvb 2)).b (de_call C__law_of hr (da_cons (dv 0) (da_cons (df_lst (da_cons de_str (da_cons de_str (da_cons de_str da_nil)))).toE da_nil))).b)))) dss_nil)
      (dss_cons (ds_if (dt_cmp (od_eq (hu64 hr)) (dvb 1) (DE.b de_int)) (dss_one (ds_ret (de_join (DE.b de_str) (df_lc (own := [("_law_k", 4)]) sc__law_value.nd (di_rng1 M.b_range (da_cons (de_call C__law_draw hr (da_cons (dv 0) (da_cons de_int da_nil))) da_nil)) (blkOk_by (N := ["_law_bag_here", "_law_way", "_law_told", "_law_spot", "_law_k"]) (sc := defScope s__law_value) (by decide +kernel)) (fun _ _ _ _ _ => (dg_name (i := 4) sc__law_value.nd rfl (by first | exact Or.inl rfl | exact Or.inr rfl))) (fun _ _ _ _ _ => dts_nil) (fun _ _ _ _ _ => (de_call C__law_of hr (da_cons (dv 0) (da_cons de_str da_nil))))).toE.b))) dss_nil)
      (dss_cons (ds_set (i := 2) sc__law_value.nd rfl (by first | exact Or.inl rfl | exact Or.inr rfl) (de_call C__law_word hr (da_cons (dv 0) (da_cons de_int da_nil))))
      (dss_cons (ds_set (i := 3) sc__law_value.nd rfl (by first | exact Or.inl rfl | exact Or.inr rfl) (de_call C__law_draw hr (da_cons (dv 0) (da_cons (de_op od_add (de_bi cd_len M.b_len (dab_cons (dvb 2) dab_nil)).b (DE.b de_int)) da_nil))))
      (dss_one (ds_ret (de_if (dt_cmp (od_eq (hu64 hr)) (dvb 1) (DE.b de_int)) (dv 2) (de_op od_add (de_op od_add (de_slice (dvb 2) do_none (do_some (dv 3))).b (de_call C__law_of hr (da_cons (dv 0) (da_cons (df_lst (da_cons de_str (da_cons de_str (da_cons de_str (da_cons de_str (da_cons de_str (da_cons de_str (da_cons de_str (da_cons de_str (da_cons de_str (da_cons de_str (da_cons de_str (da_cons de_str da_nil))))))))))))).toE da_nil))).b).b (de_slice (dvb 2) (do_some (dv 3)) do_none).b)))))))))), fun ds n Q E h => ?_⟩)
  · exact congrArg List.length h.1
  · obtain ⟨rfl, hn, q⟩ := h
    walk_at "dv"
    refine ⟨_, rfl, by omega, by decide, by decide +kernel, fun k k0 k1 => ?_⟩
    walk_at "dv"
    split
    · refine ⟨by decide, by decide, _, rfl, by omega, by decide, fun d hd => ?_, fun d hv => q d _ hv (by omega) (by omega)⟩
      simp only [List.mem_cons, List.not_mem_nil, or_false] at hd
      rcases hd with e | e | e | e | e | e | e <;> rw [e] <;> first | exact val_str (by decide +kernel) | exact ⟨rfl, fun s h => nomatch h⟩
    · split
      · refine ⟨_, _, rfl, by omega, rfl, by decide +kernel, by decide +kernel, fun d hd => ⟨by decide, _, _, rfl, by omega, rfl, by decide, by decide, fun j hj => ?_⟩⟩
        obtain ⟨c, hc, rfl⟩ := sub_sign hd
        obtain ⟨j, rfl, j0, j1⟩ : ∃ i : Int, j = .int i ∧ 0 ≤ i ∧ i ≤ 41 := by
          simp only [List.mem_cons, List.not_mem_nil, or_false] at hj
          rcases hj with e | e | e | e <;> exact ⟨_, e, by decide, by decide⟩
        walk_at "dv"
        have hl : (Txt.mul (sgn c) j).length ≤ 41 := by
          rw [mul_len]
          show j.toNat * 1 ≤ 41
          omega
        have hs := sizeLine_eq
        refine ⟨⟨by show 1 ≤ 4096; decide, by omega, by omega⟩, by decide, _, _, rfl, by omega, rfl, by decide, by decide, fun x hx => ?_⟩
        obtain ⟨x, rfl, x0⟩ : ∃ i : Str, x = .str i ∧ i.length ≤ 1 := by
          simp only [List.mem_cons, List.not_mem_nil, or_false] at hx
          rcases hx with e | e | e <;> exact ⟨_, e, by decide +kernel⟩
        walk_at "dv"
        refine ⟨by omega, by decide, _, _, rfl, by omega, rfl, by decide, by decide, fun y hy => ?_⟩
        obtain ⟨y, rfl, y0⟩ : ∃ i : Str, y = .str i ∧ i.length ≤ 1 := by
          simp only [List.mem_cons, List.not_mem_nil, or_false] at hy
          rcases hy with e | e | e <;> exact ⟨_, e, by decide +kernel⟩
        walk_at "dv"
        have hl2 : (x ++ Txt.mul (sgn c) j).length = x.length + (Txt.mul (sgn c) j).length := str_len_add _ _
        have hl3 : (x ++ Txt.mul (sgn c) j ++ y).length = (x ++ Txt.mul (sgn c) j).length + y.length := str_len_add _ _
        exact ⟨by omega, q _ _ (val_str (by omega)) (by omega) (by omega)⟩
      · split
        · refine ⟨rfl, _, rfl, by omega, by decide, by decide +kernel, fun k k0 k1 => ?_⟩
          walk_at "dv"
          refine ⟨⟨by omega, by omega⟩, ?_⟩
          refine lc_draw (fun _ d => ∃ c, True ∧ d = .str (sgn c)) 1 ?_ (fun ds n' h1 h2 h3 h4 => ?_) (fun i y hy n1 R hn1 hn2 hR => ?_)
          · rw [rngD_len]
            have := sizeLine_eq
            omega
          · rw [rngD_len] at h1 h4
            refine join_imp (join_drawn (Q := fun u => u.length = ds.length) (k := 41) (by omega) (by omega) h2 fun u hu e => e) ?_
            rintro x ⟨u, rfl, e⟩
            exact q _ n' (val_str (by omega)) (by omega) (by omega)
          · obtain ⟨hi, rfl⟩ := rngD_get hy
            walk_at "dv"
            refine ⟨_, _, rfl, by omega, rfl, by decide +kernel, by decide +kernel, fun d hd => ?_⟩
            obtain ⟨c, hc, rfl⟩ := sub_sign hd
            exact hR _ _ ⟨c, trivial, rfl⟩ (by omega) (by omega)
        · refine ⟨5, rfl, by omega, by decide, by decide, fun u n' hu hl h1 h2 => ?_⟩
          walk_at "dv"
          refine ⟨_, rfl, by omega, by omega, tops_int (by omega) (by omega), fun k k0 k1 => ?_⟩
          walk_at "dv"
          split
          · exact q _ _ (val_str (by omega)) (by omega) (by omega)
          · refine ⟨by decide, _, _, rfl, by omega, rfl, by decide, by decide, fun x hx => ?_⟩
            obtain ⟨x, rfl, x0⟩ : ∃ i : Str, x = .str i ∧ i.length ≤ 1 := by
              simp only [List.mem_cons, List.not_mem_nil, or_false] at hx
              rcases hx with e | e | e | e | e | e | e | e | e | e | e | e <;> exact ⟨_, e, by decide +kernel⟩
            walk_at "dv"
            have hs := sizeLine_eq
            have l1 := cutS_len u none (some k)
            have l2 := cutS_len u (some k) none
            have hl2 : (cutS u none (some k) ++ x).length = (cutS u none (some k)).length + x.length := str_len_add _ _
            have hl3 : (cutS u none (some k) ++ x ++ cutS u (some k) none).length = (cutS u none (some k) ++ x).length + (cutS u (some k) none).length := str_len_add _ _
            exact ⟨by omega, by omega, q _ _ (val_str (by omega)) (by omega) (by omega)⟩
end
end K1

set_option Elab.async false
set_option linter.all false
set_option maxRecDepth 100000
set_option maxHeartbeats 4000000
/-! k01: what is due; ahead -/
namespace K1
open PySem PySem.Spec PyProof.Rows L2 Dv
local macro_rules | `(tactic| walk_at "dv") => `(tactic| simp only [s_var, s_varb, s_test, s_tru, s_andv, s_orv, s_notv, s_chain, s_part, s_list, s_len, s_tuple, s_is, s_ixl, s_ixt, s_ixs, s_seqi, s_gcons, s_gnil, s_gtup, s_append, s_reverse, s_retof, s_reto,
  asBl_bl, asInt_int, asTup_tup, asSome_some, asLst_lst, atVal_0, atVal_s, atGet_0, atGet_o, atGet_s, atOb_o, atOb_s, s_start0, s_startU, s_startV, s_add, s_addS, s_addL, s_addT, s_i2, s_ordI, s_ordS, s_isN, s_mulI, s_mulS, s_mulL, s_strip, s_inS, s_neg, s_abs, s_intI, s_intB, s_slL, s_slT, s_slS, isStr_str, s_ifand, s_ifor, s_eqS, s_eqI, s_eqB, Dv.ite_tt, Dv.ite_ff,
  wC, wOp, wMt1, Dv.wNot, Dv.wAnd, Dv.wOr, wIfE, wNil, wCons, wTup, wLst, wOb, Ob.d, wCall, wNoPart, wSl, wNx, Dv.wSeq, wDrop, wSortedSet, wSortedLen, wSortedPair, s_all, s_lc, s_for, s_zip, s_zipS, s_rng1, s_rng2, asZip_lst, asZip_tup, asStr_str, wRet, wRetN, wRetF, wSet, wOwn, wSetOb, wIf, wBk, wCt, wFn, wFnB, wFnF, wFnK, wFnFK, dEnds, dEndsF, gNm, wYes,
  wipeE, List.map_cons, List.map_nil, List.set_cons_zero, List.set_cons_succ, D.tru, D.len, D.items, D.seq, D.flat, D.isNon, true_and, and_true, if_true, if_false, Bool.false_eq_true, Bool.not_true, Bool.not_false])

def others (s t : Str) : List Nat := s.cps.toList.filter fun c => !decide (c ∈ t.cps.toList)
theorem others_nil (s t : Str) : (others s t).isEmpty = decide (Txt.stripChars s t = "") := by
  have : (others s t).isEmpty = true ↔ Txt.stripChars s t = "" := by
    rw [Ma.strip_nil, List.isEmpty_iff]
    unfold others
    rw [List.filter_eq_nil_iff]
    simp
  by_cases h : Txt.stripChars s t = ""
  · rw [this.2 h, decide_eq_true h]
  · rw [decide_eq_false h]
    cases e : (others s t).isEmpty with
    | false => rfl
    | true => exact absurd (this.1 e) h
theorem others_lc {s t : Str} {a b : SD} {n : Nat} {vs : List Nat} {Q : List D → Nat → Prop} (hl : s.length ≤ 1000) (hv : vs = [2]) (q : Q ((others s t).map fun c => .str (sgn c)) n) :
    LcR (gNm 2) (wTest (wOp (Dv.rInD true) (wVarB 2) (wC (D.str t)))) (wVar 2) vs [a, b, SD.un] (signsD s) n Q := by
  subst hv
  refine lc_filter (fun d => match d with | .str u => !inS u t | _ => false) id ?_ ?_ fun i y hy R S h1 h2 => ?_
  · rw [signsD_len]
    have := sizeLine_eq
    omega
  · have e : ((signsD s).filter fun d => match d with | .str u => !inS u t | _ => false).map id = (others s t).map fun c => .str (sgn c) := by
      unfold signsD others
      rw [List.map_id, List.filter_map]
      congr 1
      refine List.filter_congr fun c _ => ?_
      show (!inS (sgn c) t) = _
      rw [show inS (sgn c) t = decide (c ∈ t.cps.toList) from Ma.inS_one c t]
    rw [e]
    exact q
  · obtain ⟨c, hc, rfl⟩ := sub_sign (List.mem_of_getElem? hy)
    walk_at "dv"
    cases e : inS (sgn c) t with
    | false => simp; exact h1 (by simp [e])
    | true => simp; exact h2 (by simp [e])
theorem eq_nil {cs : List Nat} {Q : D → Prop} : Dv.rEqD false (.lst (cs.map fun c => .str (sgn c))) (.lst []) Q = Q (.bl cs.isEmpty) := by
  have hd : D.datas (cs.map fun c => .str (sgn c)) = true := by rw [datas_all]; intro x hx; obtain ⟨c, _, rfl⟩ := List.mem_map.1 hx; rfl
  have hp : D.deps (cs.map fun c => .str (sgn c)) ≤ 0 := by rw [deps_le]; intro x hx; obtain ⟨c, _, rfl⟩ := List.mem_map.1 hx; exact Nat.le_refl _
  have e : D.eqv (.lst (cs.map fun c => .str (sgn c))) (.lst []) = cs.isEmpty := by
    unfold D.eqv
    rw [D.py, D.py, D.pys]
    cases cs with
    | nil => simp [D.pys, PyData.eqv, PyData.eqvAll]
    | cons c cs => simp [D.pys, PyData.eqv, PyData.eqvAll]
  unfold Dv.rEqD
  rw [e]
  refine propext ⟨fun h => h.2, fun h => ⟨⟨by rw [D.data]; exact hd, rfl, ?_, by decide⟩, h⟩⟩
  rw [D.dep]
  omega
theorem isColor_str (s : Str) : isColorD (.str s) = (decide ((s.length : Int) = 1) && inS s "xyz") := rfl
theorem isWord_str (s : Str) : isWordD (.str s) = (decide (Txt.stripChars s "abcd" = "") && decide ((s.length : Int) ≤ 40)) := rfl
theorem isName_str (s : Str) : isNameD (.str s) = (decide (1 ≤ (s.length : Int)) && (decide ((s.length : Int) ≤ 6) && decide (Txt.stripChars s "abcdefghijklmnopqrstuvwxyz" = ""))) := rfl
theorem in_xyz {s : Str} {Q : D → Prop} : Dv.rInD false (.str s) (.lst [.str "x", .str "y", .str "z"]) Q = Q (.bl (isColorD (.str s))) := by
  have e : ([D.str "x", .str "y", .str "z"].any fun z => z.eqv (.str s)) = isColorD (.str s) := by
    rw [List.any_cons, List.any_cons, List.any_cons, List.any_nil, eqv_str, eqv_str, eqv_str, Bool.or_false, isColor_str]
    by_cases h : (s.length : Int) = 1
    · rw [decide_eq_true h, Bool.true_and]
      have h1 : s.cps.toList.length = 1 := by rw [← len_toList]; omega
      obtain ⟨c, hc⟩ := List.length_eq_one_iff.1 h1
      have hs : s = sgn c := Ma.str_eq hc
      subst hs
      rw [show inS (sgn c) "xyz" = decide (c ∈ ("xyz" : Str).cps.toList) from Ma.inS_one c _]
      have hx : ∀ d : Nat, decide (sgn d = sgn c) = decide (c = d) := fun d => by
        by_cases z : c = d
        · subst z; simp
        · rw [decide_eq_false z, decide_eq_false fun e => z ?_]
          have := congrArg (fun u : Str => u.cps.toList) e
          simpa [sgn] using this.symm
      rw [show ("x" : Str) = sgn 120 from rfl, show ("y" : Str) = sgn 121 from rfl, show ("z" : Str) = sgn 122 from rfl, hx, hx, hx]
      rw [show ("xyz" : Str).cps.toList = [120, 121, 122] from rfl]
      simp [Bool.decide_or]
    · rw [decide_eq_false h, Bool.false_and]
      have hx : ∀ d : Nat, decide (sgn d = s) = false := fun d => decide_eq_false fun e => h (by rw [← e]; rfl)
      rw [show ("x" : Str) = sgn 120 from rfl, show ("y" : Str) = sgn 121 from rfl, show ("z" : Str) = sgn 122 from rfl, hx, hx, hx]
      rfl
  rw [s_inL, e]
  exact propext ⟨fun h => h.2, fun h => ⟨⟨rfl, rfl, Nat.zero_le _, by decide⟩, h⟩⟩
section
variable {P : Program} {w : World} {K : PySem.W.Frag} {mg : Str → Option Value} {base : Heap}
def sp__law_so : DSp := fun ds n Q _ => ∃ d, ds = [d] ∧ ValOk d ∧ Q (.lst [.bl (isWordD d), .bl (isColorD d), .bl (isNameD d)]) n
abbrev s__law_so : Stmt := topS 19
theorem sc__law_so : FnScope ["_law_v", "_law_lower_y", "_law_c"] ["_law_v"] (defScope s__law_so) := ⟨rfl, rfl, rfl, by decide +kernel, rfl, by decide +kernel, by decide +kernel⟩
theorem ok__law_so  {k : Nat} {f : Addr} {fd : FuncData} (M : Mg mg) (F : Fun K "_law_so" "_law_so" s__law_so f fd)  : FnOk P w K mg base CX0 (k + 1) f fd ["_law_v"] (lSp K sp__law_so) := by
  refine dok F sc__law_so (fun ds n Q E h => ?_) (fun cdv A outer s H E hr => ⟨_, (dss_cons (ds_if (dt_not (dt_tru (de_bi cd_is M.b_isinstance (dab_cons (dvb 0) (dab_cons (de_ty (T := "str") M.b_str).b dab_nil))).b)) (dss_one (ds_ret (df_lst (da_cons de_bl (da_cons de_bl (da_cons de_bl da_nil)))).toE)) dss_nil)
      (dss_cons (ds_set (i := 1) sc__law_so.nd rfl (by first | exact Or.inl rfl | exact Or.inr rfl) (de_cmp (od_eq (hu64 hr)) (df_lc (own := [("_law_c", 2)]) sc__law_so.nd (di_seq (dv 0)) (blkOk_by (N := ["_law_v", "_law_lower_y", "_law_c"]) (sc := defScope s__law_so) (by decide +kernel)) (fun _ _ _ _ _ => (dg_name (i := 2) sc__law_so.nd rfl (by first | exact Or.inl rfl | exact Or.inr rfl))) (fun _ _ _ _ _ => (dts_one (dt_cmp (od_notIn (hu65 hr)) (dvb 2) (DE.b de_str)))) (fun _ _ _ _ _ => (dv 2))).toE.b (df_lst da_nil).toE.b))
      (dss_one (ds_ret (df_lst (da_cons (de_and (de_cmp od_le (de_bi cd_len M.b_len (dab_cons (dvb 0) dab_nil)).b (DE.b de_int)) (de_one (de_cmp (od_eq (hu64 hr)) (df_lc (own := [("_law_c", 2)]) sc__law_so.nd (di_seq (dv 0)) (blkOk_by (N := ["_law_v", "_law_lower_y", "_law_c"]) (sc := defScope s__law_so) (by decide +kernel)) (fun _ _ _ _ _ => (dg_name (i := 2) sc__law_so.nd rfl (by first | exact Or.inl rfl | exact Or.inr rfl))) (fun _ _ _ _ _ => (dts_one (dt_cmp (od_notIn (hu65 hr)) (dvb 2) (DE.b de_str)))) (fun _ _ _ _ _ => (dv 2))).toE.b (df_lst da_nil).toE.b))) (da_cons (de_cmp (od_in (hu65 hr)) (dvb 0) (df_lst (da_cons de_str (da_cons de_str (da_cons de_str da_nil)))).toE.b) (da_cons (de_and (dv 1) (de_and (de_cmp od_le (DE.b de_int) (de_bi cd_len M.b_len (dab_cons (dvb 0) dab_nil)).b) (de_one (de_cmp od_le (de_bi cd_len M.b_len (dab_cons (dvb 0) dab_nil)).b (DE.b de_int))))) da_nil)))).toE)))), fun ds n Q E h => ?_⟩)
  · obtain ⟨m, rfl, _⟩ := h
    rfl
  · obtain ⟨d, rfl, hv, q⟩ := h
    have l3 : ∀ x y z : D, [x, y, z].length ≤ sizeLine := fun x y z => by show 3 ≤ sizeLine; decide
    have l0 : ([] : List D).length ≤ sizeLine := Nat.zero_le _
    walk_at "dv"
    rw [isT_str hv.1]
    cases d with
    | str s =>
      have hl := hv.2 s rfl
      walk_at "dv"
      refine ⟨rfl, others_lc hl rfl ⟨l0, ?_⟩⟩
      rw [eq_nil]
      have fin : ∀ b : Bool, (b = isWordD (.str s)) → (if (others s "abcdefghijklmnopqrstuvwxyz").isEmpty = true then if decide (1 ≤ (s.length : Int)) = true then [D.bl b, .bl (isColorD (.str s)), D.bl (decide ((s.length : Int) ≤ 6))].length ≤ sizeLine ∧ Q (.lst [D.bl b, .bl (isColorD (.str s)), D.bl (decide ((s.length : Int) ≤ 6))]) n else [D.bl b, .bl (isColorD (.str s)), D.bl false].length ≤ sizeLine ∧ Q (.lst [D.bl b, .bl (isColorD (.str s)), D.bl false]) n else [D.bl b, .bl (isColorD (.str s)), D.bl false].length ≤ sizeLine ∧ Q (.lst [D.bl b, .bl (isColorD (.str s)), D.bl false]) n) := by
        intro b hb
        subst hb
        rw [others_nil]
        have hq : ∀ c : Bool, c = isNameD (.str s) → [D.bl (isWordD (.str s)), .bl (isColorD (.str s)), D.bl c].length ≤ sizeLine ∧ Q (.lst [D.bl (isWordD (.str s)), .bl (isColorD (.str s)), D.bl c]) n := fun c e => ⟨l3 _ _ _, by rw [e]; exact q⟩
        rw [isName_str] at hq
        cases e1 : decide (Txt.stripChars s "abcdefghijklmnopqrstuvwxyz" = "") <;> cases e2 : decide (1 ≤ (s.length : Int)) <;> cases e3 : decide ((s.length : Int) ≤ 6) <;> rw [e1, e2, e3] at hq <;> simp only [Dv.ite_tt, Dv.ite_ff] <;> exact hq _ rfl
      walk_at "dv"
      cases e4 : decide ((s.length : Int) ≤ 40) with
      | true =>
        walk_at "dv"
        refine ⟨rfl, others_lc hl rfl ⟨l0, ?_⟩⟩
        rw [eq_nil]
        refine ⟨l3 _ _ _, ?_⟩
        rw [in_xyz]
        exact fin _ (by rw [isWord_str, others_nil, e4, Bool.and_true])
      | false =>
        walk_at "dv"
        refine ⟨l3 _ _ _, ?_⟩
        rw [in_xyz]
        exact fin _ (by rw [isWord_str, e4, Bool.and_false])
    | _ => exact ⟨l3 _ _ _, q⟩
/-! ### ahead -/
theorem lex_at : ∀ {i : Nat} {l m : List Nat} {a b : Nat}, l < m → l.take i = m.take i → l[i]? = some a → m[i]? = some b → a ≠ b → a < b
  | 0, [], _, _, _, _, _, h, _, _ => by simp at h
  | 0, _ :: _, [], _, _, _, _, _, h, _ => by simp at h
  | 0, x :: l, y :: m, a, b, h, _, h1, h2, hne => by
    simp at h1 h2
    subst h1 h2
    rw [List.cons_lt_cons_iff] at h
    rcases h with h | h
    · exact h
    · exact absurd h.1 hne
  | i + 1, [], _, _, _, _, _, h, _, _ => by simp at h
  | i + 1, _ :: _, [], _, _, _, _, _, h, _ => by simp at h
  | i + 1, x :: l, y :: m, a, b, h, ht, h1, h2, hne => by
    rw [List.take_succ_cons, List.take_succ_cons, List.cons.injEq] at ht
    rw [List.cons_lt_cons_iff] at h
    rcases h with h | h
    · rw [ht.1] at h
      exact absurd h (Nat.lt_irrefl _)
    · exact lex_at h.2 ht.2 (by simpa using h1) (by simpa using h2) hne
theorem idx_abcd {c : Nat} {Q : D → Prop} (h : 97 ≤ c ∧ c ≤ 100) (q : Q (.int ((c : Int) - 97))) : rIndexS (.str "abcd") (.str (sgn c)) Q := by
  obtain ⟨h1, h2⟩ := h
  rcases (by omega : c = 97 ∨ c = 98 ∨ c = 99 ∨ c = 100) with e | e | e | e <;> subst e
  · exact ⟨0, [], by decide +kernel, q⟩
  · exact ⟨1, [], by decide +kernel, q⟩
  · exact ⟨2, [], by decide +kernel, q⟩
  · exact ⟨3, [], by decide +kernel, q⟩
theorem zipSD_get {u v : Str} {i : Nat} {y : D} (h : (Zs.zipSD u v)[i]? = some y) : ∃ c d, u.cps.toList[i]? = some c ∧ v.cps.toList[i]? = some d ∧ y = .tup [.str (sgn c), .str (sgn d)] := by
  unfold Zs.zipSD at h
  rw [List.getElem?_map] at h
  cases e : (u.cps.toList.zip v.cps.toList)[i]? with
  | none => rw [e] at h; cases h
  | some p =>
    rw [e] at h
    obtain ⟨h1, h2⟩ := List.getElem?_zip_eq_some.1 e
    exact ⟨p.1, p.2, h1, h2, (Option.some.inj h).symm⟩
def sp__law_ahead : DSp := fun ds n Q _ => ∃ p q : Str, ds = [.str p, .str q] ∧ LetS p ∧ LetS q ∧ Ma.ltShort p q ∧ Q (.bl true) n
abbrev s__law_ahead : Stmt := topS 20
theorem sc__law_ahead : FnScope ["_law_p", "_law_q", "_law_c", "_law_d"] ["_law_p", "_law_q"] (defScope s__law_ahead) := ⟨rfl, rfl, rfl, by decide +kernel, rfl, by decide +kernel, by decide +kernel⟩
theorem ok__law_ahead  {k : Nat} {f : Addr} {fd : FuncData} (M : Mg mg) (F : Fun K "_law_ahead" "_law_ahead" s__law_ahead f fd)  : FnOk P w K mg base CX0 (k + 1) f fd ["_law_p", "_law_q"] (lSp K sp__law_ahead) := by
  refine dok F sc__law_ahead (fun ds n Q E h => ?_) (fun cdv A outer s H E hr => ⟨_, (dss_cons (ds_if (dt_cmp (od_ne (hu64 hr)) (de_bi cd_len M.b_len (dab_cons (dvb 0) dab_nil)).b (de_bi cd_len M.b_len (dab_cons (dvb 1) dab_nil)).b) (dss_one (ds_ret (de_cmp od_lt (de_bi cd_len M.b_len (dab_cons (dvb 0) dab_nil)).b (de_bi cd_len M.b_len (dab_cons (dvb 1) dab_nil)).b))) dss_nil)
      (dss_cons (ds_for (vs := [2, 3]) (Zs.di_zipS M.b_zip (da_cons (dv 0) (da_cons (dv 1) da_nil))) (dg_tup (k := 2) (dgs_name (i := 2) sc__law_ahead.nd rfl (by first | exact Or.inl rfl | exact Or.inr rfl) (dgs_name (i := 3) sc__law_ahead.nd rfl (by first | exact Or.inl rfl | exact Or.inr rfl) dgs_nil))) (dss_one (ds_if (dt_cmp (od_ne (hu64 hr)) (dvb 2) (dvb 3)) (dss_one (ds_ret (de_cmp od_lt (de_index (DE.b de_str) (dvb 2)).b (de_index (DE.b de_str) (dvb 3)).b))) dss_nil)))
      (dss_one (ds_ret de_bl)))), fun ds n Q E h => ?_⟩)
  · obtain ⟨p, q, rfl, _⟩ := h
    rfl
  · obtain ⟨u, v, rfl, hu, hv, hlt, q⟩ := h
    walk_at "dv"
    split
    · rename_i hne
      have hne' : (u.length : Int) ≠ v.length := by simpa using hne
      rcases hlt with h | h
      · rw [decide_eq_true (by omega)]
        exact q
      · omega
    · rename_i hne
      have heq : (u.length : Int) = v.length := by simpa using hne
      have hlex : u.cps.toList < v.cps.toList := by
        rcases hlt with h | h
        · omega
        · exact h.2
      have hl1 := len_toList u
      have hl2 := len_toList v
      have hz : (Zs.zipSD u v).length = u.cps.toList.length := by
        rw [Zs.zipSD_len, ← Array.length_toList, ← Array.length_toList]
        omega
      refine ⟨fun i env n' => ∃ x y, env = [.val (.str u), .val (.str v), x, y] ∧ n' = n ∧ u.cps.toList.take i = v.cps.toList.take i, ⟨_, _, rfl, rfl, rfl⟩, ?_, ?_⟩
      · rintro env n' ⟨x, y, rfl, rfl, ht⟩
        rw [hz, List.take_of_length_le (Nat.le_refl _), List.take_of_length_le (by omega)] at ht
        rw [ht] at hlex
        exact absurd hlex (List.lt_irrefl _)
      · rintro i y env n' hy ⟨x1, x2, rfl, rfl, ht⟩
        obtain ⟨c, d, h1, h2, rfl⟩ := zipSD_get hy
        walk_at "dv"
        refine ⟨rfl, ?_⟩
        by_cases hcd : c = d
        · subst hcd
          rw [if_neg (by simp)]
          refine ⟨_, _, rfl, ?_⟩
          rw [List.take_add_one, List.take_add_one, ht, h1, h2]
        · have hs : sgn c ≠ sgn d := fun e => hcd (by
            have := congrArg (fun u : Str => u.cps.toList) e
            simpa [sgn] using this)
          rw [if_pos (by simp [hs])]
          have lt := lex_at hlex ht h1 h2 hcd
          refine idx_abcd (hu c (List.mem_of_getElem? h1)) (idx_abcd (hv d (List.mem_of_getElem? h2)) ?_)
          walk_at "dv"
          rw [decide_eq_true (by omega)]
          exact q
end
end K1

set_option Elab.async false
set_option linter.all false
set_option maxRecDepth 100000
set_option maxHeartbeats 4000000
/-! k01: the law -/
namespace K1
open PySem PySem.Spec PyProof.Rows L2 Dv
local macro_rules | `(tactic| walk_at "dv") => `(tactic| simp only [s_var, s_varb, s_test, s_tru, s_andv, s_orv, s_notv, s_chain, s_part, s_list, s_len, s_tuple, s_is, s_ixl, s_ixt, s_ixs, s_seqi, s_gcons, s_gnil, s_gtup, s_append, s_reverse, s_retof, s_reto,
  asBl_bl, asInt_int, asTup_tup, asSome_some, asLst_lst, atVal_0, atVal_s, atGet_0, atGet_o, atGet_s, atOb_o, atOb_s, s_start0, s_startU, s_startV, s_add, s_addS, s_addL, s_addT, s_i2, s_ordI, s_ordS, s_isN, s_mulI, s_mulS, s_mulL, s_strip, s_inS, s_neg, s_abs, s_intI, s_intB, s_slL, s_slT, s_slS, isStr_str, s_ifand, s_ifor, s_eqS, s_eqI, s_eqB, Dv.ite_tt, Dv.ite_ff,
  wC, wOp, wMt1, Dv.wNot, Dv.wAnd, Dv.wOr, wIfE, wNil, wCons, wTup, wLst, wOb, Ob.d, wCall, wNoPart, wSl, wNx, Dv.wSeq, wDrop, wSortedSet, wSortedLen, wSortedPair, s_all, s_lc, s_for, s_zip, s_zipS, s_rng1, s_rng2, asZip_lst, asZip_tup, asStr_str, wRet, wRetN, wRetF, wSet, wOwn, wSetOb, wIf, wBk, wCt, wFn, wFnB, wFnF, wFnK, wFnFK, dEnds, dEndsF, gNm, wYes,
  wipeE, List.map_cons, List.map_nil, List.set_cons_zero, List.set_cons_succ, D.tru, D.len, D.items, D.seq, D.flat, D.isNon, true_and, and_true, if_true, if_false, Bool.false_eq_true, Bool.not_true, Bool.not_false])

theorem strs_all {P : Nat → Str → Prop} : ∀ {ds : List D} {k : Nat}, (∀ (i : Nat) (d : D), ds[i]? = some d → ∃ u, P (k + i) u ∧ d = .str u) → ∃ xs : List Str, ds = strsD xs ∧ ∀ u ∈ xs, ∃ i, P i u
  | [], _, _ => ⟨[], rfl, fun u h => by cases h⟩
  | d :: ds, k, h => by
    obtain ⟨u, hu, e⟩ := h 0 d rfl
    obtain ⟨xs, e2, h2⟩ := strs_all (P := P) (ds := ds) (k := k + 1) fun i d' h' => by
      obtain ⟨v, hv, ev⟩ := h (i + 1) d' (by simpa using h')
      exact ⟨v, by rw [Nat.add_assoc, Nat.add_comm 1 i]; exact hv, ev⟩
    refine ⟨u :: xs, by rw [e, e2]; rfl, fun x hx => ?_⟩
    rcases List.mem_cons.1 hx with e | hx
    · rw [e]; exact ⟨_, hu⟩
    · exact h2 x hx
theorem fits_strs (xs : List Str) : fits (strsD xs) = true := by
  rw [fits_all]
  intro x hx
  obtain ⟨u, _, rfl⟩ := List.mem_map.1 hx
  rfl
theorem fit_strs {xs : List Str} (h : xs.length ≤ 100000) : fit (.lst (strsD xs)) = true := by
  rw [fit, fits_strs, Bool.and_true, decide_eq_true_eq]
  unfold strsD
  rw [List.length_map]
  exact h
theorem deps_strs (xs : List Str) : D.deps (strsD xs) = 0 := by
  have : D.deps (strsD xs) ≤ 0 := by
    rw [deps_le]
    intro x hx
    obtain ⟨u, _, rfl⟩ := List.mem_map.1 hx
    exact Nat.le_refl _
  omega
theorem dep_strs (xs : List Str) : D.dep (.lst (strsD xs)) = 1 := by rw [D.dep, deps_strs]
theorem datas_strs (xs : List Str) : D.datas (strsD xs) = true := by
  rw [datas_all]
  intro x hx
  obtain ⟨u, _, rfl⟩ := List.mem_map.1 hx
  rfl
theorem flats_strs (xs : List Str) : (strsD xs).all D.flatD = true := by
  rw [List.all_eq_true]
  intro x hx
  obtain ⟨u, _, rfl⟩ := List.mem_map.1 hx
  rfl
theorem in_strs (xs : List Str) (u : Str) : ((strsD xs).any fun z => z.eqv (.str u)) = decide (u ∈ xs) := by
  induction xs with
  | nil => rfl
  | cons x xs ih =>
    show ((D.str x).eqv (.str u) || (strsD xs).any fun z => z.eqv (.str u)) = _
    rw [ih, eqv_str]
    by_cases h : x = u
    · subst h; simp
    · have h' : ¬ u = x := fun e => h e.symm
      simp [h, h']
theorem strsD_len (xs : List Str) : (strsD xs).length = xs.length := by unfold strsD; rw [List.length_map]
theorem strsD_get {xs : List Str} {i : Nat} {y : D} (h : (strsD xs)[i]? = some y) : ∃ u, xs[i]? = some u ∧ y = .str u := by
  unfold strsD at h
  rw [List.getElem?_map] at h
  cases e : xs[i]? with
  | none => rw [e] at h; cases h
  | some u => rw [e] at h; exact ⟨u, rfl, (Option.some.inj h).symm⟩
theorem strsD_at {xs : List Str} {i : Nat} (h : i < xs.length) : atI (strsD xs) ((i : Nat) : Int) = some (.str xs[i]) := by
  refine atI_nat ?_
  unfold strsD
  rw [List.getElem?_map, List.getElem?_eq_getElem h]
  rfl
theorem strsD_app (xs ys : List Str) : strsD xs ++ strsD ys = strsD (xs ++ ys) := by unfold strsD; rw [List.map_append]
theorem eqv_pair (p q : Int × Str) : (pairD p).eqv (pairD q) = decide (p = q) := by
  obtain ⟨i, u⟩ := p
  obtain ⟨j, v⟩ := q
  show PyData.eqv _ _ = _
  unfold Dv.pairD
  rw [D.py, D.py, D.pys, D.pys, D.pys, D.pys, D.pys]
  have e1 : PyData.eqv (.int i) (.int j) = decide (i = j) := eqv_int
  have e2 : PyData.eqv (.str u) (.str v) = decide (u = v) := eqv_str
  simp only [PyData.eqv, PyData.eqvAll, D.py] at *
  rw [e1, e2]
  by_cases h1 : i = j <;> by_cases h2 : u = v <;> simp [h1, h2, D.pys, PyData.eqvAll]
theorem s_nePair {p q : Int × Str} {Q : D → Prop} : Dv.rEqD true (pairD p) (pairD q) Q = Q (.bl (!decide (p = q))) := by
  unfold Dv.rEqD
  rw [eqv_pair]
  exact propext ⟨fun h => h.2, fun h => ⟨⟨rfl, rfl, (by show 1 ≤ 64; decide), (by show 1 ≤ 64; decide)⟩, h⟩⟩
/-- the law's rows -/
def rowOf (xs : List Str) : List (Int × Str) := xs.map fun w => ((w.length : Int), w)
def rowsOf (xs : List Str) : List (Int × Str) := (rowOf xs).mergeSort So.leP
theorem rowsOf_len (xs : List Str) : (rowsOf xs).length = xs.length := by unfold rowsOf rowOf; rw [List.length_mergeSort, List.length_map]
theorem rowsOf_mem {xs : List Str} {p : Int × Str} : p ∈ rowsOf xs ↔ p.2 ∈ xs ∧ p.1 = p.2.length := by
  unfold rowsOf rowOf
  rw [List.mem_mergeSort, List.mem_map]
  constructor
  · rintro ⟨w, hw, rfl⟩
    exact ⟨hw, rfl⟩
  · rintro ⟨h1, h2⟩
    exact ⟨p.2, h1, by obtain ⟨a, b⟩ := p; simp at h2; rw [h2]⟩
theorem short_rows {xs ns : List Str} (asc : Ss.Ascending xs ns) (d : Int × Str) : shortS ns = (Ma.uniq (rowsOf xs) d).map (·.2) := by
  refine Ma.short_eq asc ?_ fun z => ?_
  · rw [List.pairwise_map]
    have hs : (rowsOf xs).Pairwise fun a b => So.leP a b = true := List.pairwise_mergeSort Ma.leP_trans Ma.leP_total _
    refine (Ma.uniq_pw (le := fun a b => So.leP a b = true) d Ma.leP_trans (fun a b h1 h2 => ?_) hs fun a => ?_).imp_of_mem fun {a b} ha hb ⟨hle, hne⟩ => ?_
    · rw [So.leP_iff] at h1 h2
      obtain ⟨i, u⟩ := a
      obtain ⟨j, v⟩ := b
      simp only at h1 h2
      rcases h1 with h1 | h1 <;> rcases h2 with h2 | h2
      · omega
      · omega
      · omega
      · rw [h1.1, Ma.str_eq (List.le_antisymm h1.2 h2.2)]
    · rw [So.leP_iff]
      exact .inr ⟨rfl, List.le_refl _⟩
    · rw [Ma.uniq_mem, rowsOf_mem] at ha hb
      rw [So.leP_iff] at hle
      rcases hle with h | h
      · exact .inl (by omega)
      · refine .inr ⟨by omega, Ma.lex_lt_of h.2 fun e => hne ?_⟩
        obtain ⟨i, u⟩ := a
        obtain ⟨j, v⟩ := b
        simp only at e h
        rw [e, h.1]
  · rw [List.mem_map]
    constructor
    · rintro ⟨p, hp, rfl⟩
      rw [Ma.uniq_mem, rowsOf_mem] at hp
      exact hp.1
    · intro hz
      exact ⟨((z.length : Int), z), by rw [Ma.uniq_mem, rowsOf_mem]; exact ⟨hz, rfl⟩, rfl⟩
theorem short_mem' {xs ns : List Str} (asc : Ss.Ascending xs ns) (z : Str) : z ∈ shortS ns ↔ z ∈ xs := Ma.short_mem asc z
theorem short_pw' {xs ns : List Str} (asc : Ss.Ascending xs ns) : (shortS ns).Pairwise Ma.ltShort := Ma.short_pw asc
theorem short_again {xs ns ms : List Str} (asc : Ss.Ascending xs ns) (a2 : Ss.Ascending (shortS ns) ms) : shortS ms = shortS ns :=
  Ma.short_eq a2 (Ma.short_pw asc) fun z => Iff.rfl
theorem short_len {xs ns : List Str} (asc : Ss.Ascending xs ns) : (shortS ns).length ≤ xs.length := by
  unfold shortS
  rw [List.length_mergeSort]
  exact asc.len
end K1

set_option Elab.async false
set_option linter.all false
set_option maxRecDepth 100000
set_option maxHeartbeats 4000000
/-! k01: the law's body -/
namespace K1
open PySem PySem.Spec PyProof.Rows L2 Dv
local macro_rules | `(tactic| walk_at "dv") => `(tactic| simp only [s_var, s_varb, s_test, s_tru, s_andv, s_orv, s_notv, s_chain, s_part, s_list, s_len, s_tuple, s_is, s_ixl, s_ixt, s_ixs, s_seqi, s_gcons, s_gnil, s_gtup, s_append, s_reverse, s_retof, s_reto,
  asBl_bl, asInt_int, asTup_tup, asSome_some, asLst_lst, atVal_0, atVal_s, atGet_0, atGet_o, atGet_s, atOb_o, atOb_s, s_start0, s_startU, s_startV, s_add, s_addS, s_addL, s_addT, s_i2, s_ordI, s_ordS, s_isN, s_mulI, s_mulS, s_mulL, s_strip, s_inS, s_neg, s_abs, s_intI, s_intB, s_slL, s_slT, s_slS, isStr_str, s_ifand, s_ifor, s_eqS, s_eqI, s_eqB, Dv.ite_tt, Dv.ite_ff,
  wC, wOp, wMt1, Dv.wNot, Dv.wAnd, Dv.wOr, wIfE, wNil, wCons, wTup, wLst, wOb, Ob.d, wCall, wNoPart, wSl, wNx, Dv.wSeq, wDrop, wSortedSet, wSortedLen, wSortedPair, s_all, s_lc, s_for, s_zip, s_zipS, s_rng1, s_rng2, asZip_lst, asZip_tup, asStr_str, wRet, wRetN, wRetF, wSet, wOwn, wSetOb, wIf, wBk, wCt, wFn, wFnB, wFnF, wFnK, wFnFK, dEnds, dEndsF, gNm, wYes,
  wipeE, List.map_cons, List.map_nil, List.set_cons_zero, List.set_cons_succ, D.tru, D.len, D.items, D.seq, D.flat, D.isNon, true_and, and_true, if_true, if_false, Bool.false_eq_true, Bool.not_true, Bool.not_false])

section
variable {P : Program} {w : World} {K : PySem.W.Frag} {mg : Str → Option Value} {base : Heap}
abbrev sp__law_same : DSp := sp_same 4
theorem rng_int {i k : Nat} {y : D} (h : (rngD 0 k)[i]? = some y) : i < k ∧ y = .int (i : Nat) := by
  obtain ⟨h1, h2⟩ := rngD_get h
  exact ⟨h1, by rw [h2, Int.zero_add]⟩
theorem mulW_ok {i j : Int} (h1 : i.natAbs < 2 ^ 60) (h2 : j.natAbs < 2 ^ 60) : CMulW i j := by
  have key : ∀ x : Nat, x < 2 ^ 60 → x.log2 < 61 := fun x hx => by
    by_cases h : x = 0
    · subst h; decide
    · exact (Nat.log2_lt h).2 (Nat.lt_of_lt_of_le hx (Nat.pow_le_pow_right (by decide) (by decide)))
  have a := key _ h1
  have b := key _ h2
  unfold CMulW
  omega
theorem s_neNil {Q : D → Prop} : Dv.rEqD true (.lst []) (.lst []) Q = Q (.bl false) := by
  have e : D.eqv (.lst []) (.lst []) = true := by
    unfold D.eqv
    rw [D.py, D.pys]
    simp [PyData.eqv, PyData.eqvAll]
  unfold Dv.rEqD
  rw [e]
  exact propext ⟨fun h => h.2, fun h => ⟨⟨rfl, rfl, by decide, by decide⟩, h⟩⟩
theorem short_same {xs ns ms : List Str} (asc : Ss.Ascending xs ns) (a2 : Ss.Ascending xs ms) : shortS ms = shortS ns :=
  Ma.short_eq a2 (Ma.short_pw asc) fun z => by rw [short_mem' asc]
abbrev s_law : Stmt := topS 21
theorem sc_law : FnScope ["_law_script", "_law_bag_here", "_law_turn", "_law_some", "_law_rows", "_law_v", "_law_due", "_law_given", "_law_told", "_law_kept", "_law_k", "_law_w"] ["_law_script"] (defScope s_law) := ⟨rfl, rfl, rfl, by decide +kernel, rfl, by decide +kernel, by decide +kernel⟩
theorem ok_law  {k : Nat} {f fb : Addr} {fd fdb : FuncData} (M : Mg mg) (F : Fun K "law" "law" s_law f fd) (B : FnOk P w K mg base CX0 k fb fdb ["_law_script"] (spBag K)) (mb : mg "_law_bag" = some (.ref fb)) (kb : PySem.W.keepIn K (.ref fb) = true) (bb : Binds K fdb ["_law_script"] []) (C__law_same : Cal P w K mg base CX0 k "_law_same" ["_law_found", "_law_due"] sp__law_same) (C__law_value : Cal P w K mg base CX0 k "_law_value" ["_law_bag_here"] sp__law_value) (C__law_so : Cal P w K mg base CX0 k "_law_so" ["_law_v"] sp__law_so) (K_is_name_value : CalK P w K mg base CX0 k "is_name" ["value"] ["value"] [0] sp_is_name) (K_is_color_value : CalK P w K mg base CX0 k "is_color" ["value"] ["value"] [0] sp_is_color) (K_is_word_value : CalK P w K mg base CX0 k "is_word" ["value"] ["value"] [0] sp_is_word) (C_is_name : Cal P w K mg base CX0 k "is_name" ["value"] sp_is_name) (C_is_color : Cal P w K mg base CX0 k "is_color" ["value"] sp_is_color) (C_is_word : Cal P w K mg base CX0 k "is_word" ["value"] sp_is_word) (C__law_of : Cal P w K mg base CX0 k "_law_of" ["_law_bag_here", "_law_some"] sp__law_of) (C_in_short_order : CalF P w K mg base CX0 k "in_short_order" ["words"] sp_in_short_order) (C__law_draw : Cal P w K mg base CX0 k "_law_draw" ["_law_bag_here", "_law_top"] sp__law_draw) (C__law_word : Cal P w K mg base CX0 k "_law_word" ["_law_bag_here", "_law_most_y"] sp__law_word) (C__law_ahead : Cal P w K mg base CX0 k "_law_ahead" ["_law_p", "_law_q"] sp__law_ahead) (K_in_short_order_words : CalFK P w K mg base CX0 k "in_short_order" ["words"] ["words"] [0] sp_in_short_order) : FnOk P w K mg base CX0 (k + 1) f fd ["_law_script"] (spLaw K) := by
  refine dok_law (i := 1) F sc_law B mb kb bb rfl rfl rfl (fun cdv A outer s H E hr => ps_set (i := 1) sc_law.nd rfl (by first | exact Or.inl rfl | exact Or.inr rfl) (pe_call B hr (by rfl) mb kb bb .nil pass0 (pa_cons (pv 0) pa_nil))) (fun cdv A outer s H E hr => ⟨_, (dss_cons (ds_if (dt_not (dt_tru (de_call C__law_same hr (da_cons (df_lst (da_cons (de_gstr M.c_LETTERS) (da_cons (de_gstr M.c_COLORS) da_nil))).toE (da_cons (df_lst (da_cons de_str (da_cons de_str da_nil))).toE da_nil))).b)) (dss_one (ds_ret de_bl)) dss_nil)
      (dss_cons (ds_for (vs := [2]) (di_rng1 M.b_range (da_cons de_int da_nil)) (dg_name (i := 2) sc_law.nd rfl (by first | exact Or.inl rfl | exact Or.inr rfl)) (dss_cons (ds_set (i := 5) sc_law.nd rfl (by first | exact Or.inl rfl | exact Or.inr rfl) (de_call C__law_value hr (da_cons (dv 1) da_nil)))
      (dss_cons (ds_set (i := 6) sc_law.nd rfl (by first | exact Or.inl rfl | exact Or.inr rfl) (de_call C__law_so hr (da_cons (dv 5) da_nil)))
      (dss_one (ds_if (dw_or (dt_not (dt_tru (de_call C__law_same hr (da_cons (df_lst (da_cons (de_call C_is_word hr (da_cons (dv 5) da_nil)) (da_cons (de_call C_is_color hr (da_cons (dv 5) da_nil)) (da_cons (de_call C_is_name hr (da_cons (dv 5) da_nil)) da_nil)))).toE (da_cons (dv 6) da_nil))).b)) (dw_or1 (dt_not (dt_tru (de_call C__law_same hr (da_cons (df_lst (da_cons (de_callK K_is_word_value hr (dk_cons (dv 5) dk_nil)) (da_cons (de_callK K_is_color_value hr (dk_cons (dv 5) dk_nil)) (da_cons (de_callK K_is_name_value hr (dk_cons (dv 5) dk_nil)) da_nil)))).toE (da_cons (dv 6) da_nil))).b)))).t (dss_one (ds_ret de_bl)) dss_nil)))))
      (dss_cons (ds_set (i := 3) sc_law.nd rfl (by first | exact Or.inl rfl | exact Or.inr rfl) (df_lc (own := [("_law_k", 10)]) sc_law.nd (di_rng1 M.b_range (da_cons de_int da_nil)) (blkOk_by (N := ["_law_script", "_law_bag_here", "_law_turn", "_law_some", "_law_rows", "_law_v", "_law_due", "_law_given", "_law_told", "_law_kept", "_law_k", "_law_w"]) (sc := defScope s_law) (by decide +kernel)) (fun _ _ _ _ _ => (dg_name (i := 10) sc_law.nd rfl (by first | exact Or.inl rfl | exact Or.inr rfl))) (fun _ _ _ _ _ => dts_nil) (fun _ _ _ _ _ => (de_op od_add (de_op od_mul (de_call C__law_of hr (da_cons (dv 1) (da_cons de_str da_nil))).b (de_op od_modN (de_tyc cd_int M.b_int (dab_cons (de_op od_add (de_op od_mul (dvb 10) (dvb 10)).b (de_op od_mul (DE.b de_int) (dvb 10)).b).b dab_nil)).b (DE.b de_int)).b).b (de_call C__law_of hr (da_cons (dv 1) (da_cons (df_lst (da_cons de_str (da_cons de_str (da_cons de_str da_nil)))).toE da_nil))).b))).toE)
      (dss_cons (ds_set (i := 4) sc_law.nd rfl (by first | exact Or.inl rfl | exact Or.inr rfl) (df_sortedPair M.b_sorted (hu64 hr) (dab_cons (df_lc (own := [("_law_w", 11)]) sc_law.nd (di_seq (dv 3)) (blkOk_by (N := ["_law_script", "_law_bag_here", "_law_turn", "_law_some", "_law_rows", "_law_v", "_law_due", "_law_given", "_law_told", "_law_kept", "_law_k", "_law_w"]) (sc := defScope s_law) (by decide +kernel)) (fun _ _ _ _ _ => (dg_name (i := 11) sc_law.nd rfl (by first | exact Or.inl rfl | exact Or.inr rfl))) (fun _ _ _ _ _ => dts_nil) (fun _ _ _ _ _ => (de_tup (da_cons (de_bi cd_len M.b_len (dab_cons (dvb 11) dab_nil)) (da_cons (dv 11) da_nil))))).toE.b dab_nil)).toE)
      (dss_cons (ds_if (dt_not (dt_tru (de_call C__law_same hr (da_cons (df_call C_in_short_order hr (da_cons (df_list M.b_list (dab_cons (dvb 3) dab_nil)).toE da_nil)).toE (da_cons (df_lc (own := [("_law_k", 10)]) sc_law.nd (di_rng1 M.b_range (da_cons de_int da_nil)) (blkOk_by (N := ["_law_script", "_law_bag_here", "_law_turn", "_law_some", "_law_rows", "_law_v", "_law_due", "_law_given", "_law_told", "_law_kept", "_law_k", "_law_w"]) (sc := defScope s_law) (by decide +kernel)) (fun _ _ _ _ _ => (dg_name (i := 10) sc_law.nd rfl (by first | exact Or.inl rfl | exact Or.inr rfl))) (fun _ _ _ _ _ => (dts_one (dw_or (dt_cmp (od_eq (hu64 hr)) (dvb 10) (DE.b de_int)) (dw_or1 (dt_cmp (od_ne (hu64 hr)) (de_ix (dvb 4) (de_op od_sub (dvb 10) (DE.b de_int)).b).b (de_ix (dvb 4) (dvb 10)).b))).t)) (fun _ _ _ _ _ => (de_ix (de_ix (dvb 4) (dvb 10)).b (DE.b de_int)))).toE da_nil))).b)) (dss_one (ds_ret de_bl)) dss_nil)
      (dss_cons (ds_for (vs := [2]) (di_rng1 M.b_range (da_cons de_int da_nil)) (dg_name (i := 2) sc_law.nd rfl (by first | exact Or.inl rfl | exact Or.inr rfl)) (dss_cons (ds_set (i := 3) sc_law.nd rfl (by first | exact Or.inl rfl | exact Or.inr rfl) (df_lc (own := [("_law_k", 10)]) sc_law.nd (di_rng1 M.b_range (da_cons (de_call C__law_draw hr (da_cons (dv 1) (da_cons de_int da_nil))) da_nil)) (blkOk_by (N := ["_law_script", "_law_bag_here", "_law_turn", "_law_some", "_law_rows", "_law_v", "_law_due", "_law_given", "_law_told", "_law_kept", "_law_k", "_law_w"]) (sc := defScope s_law) (by decide +kernel)) (fun _ _ _ _ _ => (dg_name (i := 10) sc_law.nd rfl (by first | exact Or.inl rfl | exact Or.inr rfl))) (fun _ _ _ _ _ => dts_nil) (fun _ _ _ _ _ => (de_call C__law_word hr (da_cons (dv 1) (da_cons (de_call C__law_of hr (da_cons (dv 1) (da_cons (df_lst (da_cons de_int (da_cons de_int (da_cons de_int (da_cons de_int da_nil))))).toE da_nil))) da_nil))))).toE)
      (dss_cons (ds_set (i := 3) sc_law.nd rfl (by first | exact Or.inl rfl | exact Or.inr rfl) (de_op od_add (dvb 3) (df_lc (own := [("_law_k", 10)]) sc_law.nd (di_rng1 M.b_range (da_cons (de_call C__law_draw hr (da_cons (dv 1) (da_cons de_int da_nil))) da_nil)) (blkOk_by (N := ["_law_script", "_law_bag_here", "_law_turn", "_law_some", "_law_rows", "_law_v", "_law_due", "_law_given", "_law_told", "_law_kept", "_law_k", "_law_w"]) (sc := defScope s_law) (by decide +kernel)) (fun _ _ _ _ _ => (dg_name (i := 10) sc_law.nd rfl (by first | exact Or.inl rfl | exact Or.inr rfl))) (fun _ _ _ _ _ => dts_nil) (fun _ _ _ _ _ => (de_call C__law_of hr (da_cons (dv 1) (da_cons (de_op od_add (dvb 3) (df_lst (da_cons de_str da_nil)).toE.b) da_nil))))).toE.b))
      (dss_cons (ds_set (i := 7) sc_law.nd rfl (by first | exact Or.inl rfl | exact Or.inr rfl) (de_if (dt_cmp (od_eq (hu64 hr)) (dvb 2) (DE.b de_int)) (de_tyc cd_tuple M.b_tuple (dab_cons (dvb 3) dab_nil)) (df_list M.b_list (dab_cons (dvb 3) dab_nil)).toE))
      (dss_cons (ds_own (i := 8) sc_law.nd rfl (by first | exact Or.inl rfl | exact Or.inr rfl) (df_call C_in_short_order hr (da_cons (dv 7) da_nil)))
      (dss_cons (ds_set (i := 9) sc_law.nd rfl (by first | exact Or.inl rfl | exact Or.inr rfl) (de_tyc cd_tuple M.b_tuple (dab_cons (dvb 8) dab_nil)))
      (dss_cons (ds_if (dw_or (dt_not (dt_tru (de_bi cd_is M.b_isinstance (dab_cons (dvb 8) (dab_cons (de_ty (T := "list") M.b_list).b dab_nil))).b)) (dw_or1 (dt_not (dt_tru (de_call C__law_same hr (da_cons (df_list M.b_list (dab_cons (dvb 7) dab_nil)).toE (da_cons (dv 3) da_nil))).b)))).t (dss_one (ds_ret de_bl)) dss_nil)
      (dss_cons (ds_for (vs := [10]) (di_rng1 M.b_range (da_cons (de_bi cd_len M.b_len (dab_cons (dvb 9) dab_nil)) da_nil)) (dg_name (i := 10) sc_law.nd rfl (by first | exact Or.inl rfl | exact Or.inr rfl)) (dss_one (ds_if (dw_or (dt_cmp (od_notIn (hu65 hr)) (de_ix (dvb 9) (dvb 10)).b (dvb 3)) (dw_or1 (dw_and (dt_cmp od_gt (dvb 10) (DE.b de_int)) (dw_and1 (dt_not (dt_tru (de_call C__law_ahead hr (da_cons (de_ix (dvb 9) (de_op od_sub (dvb 10) (DE.b de_int)).b) (da_cons (de_ix (dvb 9) (dvb 10)) da_nil))).b)))).t)).t (dss_one (ds_ret de_bl)) dss_nil)))
      (dss_cons (ds_if (dt_cmp (od_ne (hu64 hr)) (df_lc (own := [("_law_w", 11)]) sc_law.nd (di_seq (dv 3)) (blkOk_by (N := ["_law_script", "_law_bag_here", "_law_turn", "_law_some", "_law_rows", "_law_v", "_law_due", "_law_given", "_law_told", "_law_kept", "_law_k", "_law_w"]) (sc := defScope s_law) (by decide +kernel)) (fun _ _ _ _ _ => (dg_name (i := 11) sc_law.nd rfl (by first | exact Or.inl rfl | exact Or.inr rfl))) (fun _ _ _ _ _ => (dts_one (dt_cmp (od_notIn (hu65 hr)) (dvb 11) (dvb 9)))) (fun _ _ _ _ _ => (dv 11))).toE.b (df_lst da_nil).toE.b) (dss_one (ds_ret de_bl)) dss_nil)
      (dss_cons (ds_append 8 de_str)
      (dss_cons (ds_reverse 8)
      (dss_one (ds_if (dt_not (dt_tru (de_call C__law_same hr (da_cons (df_lst (da_cons (df_callK K_in_short_order_words hr (dk_cons (dv 7) dk_nil)).toE (da_cons (df_call C_in_short_order hr (da_cons (dv 9) da_nil)).toE da_nil))).toE (da_cons (df_lst (da_cons (df_list M.b_list (dab_cons (dvb 9) dab_nil)).toE (da_cons (df_list M.b_list (dab_cons (dvb 9) dab_nil)).toE da_nil))).toE da_nil))).b)) (dss_one (ds_ret de_bl)) dss_nil)))))))))))))
      (dss_one (ds_ret de_bl)))))))), ?_⟩)
  change wSeq _ _ endsLaw [SD.un, SD.val D.bag, SD.un, SD.un, SD.un, SD.un, SD.un, SD.un, SD.un, SD.un, SD.un, SD.un] 0
  walk_at "dv"
  refine ⟨by decide, by decide, _, rfl, by decide +kernel, by decide, ?_⟩
  walk_at "dv"
  refine ⟨⟨by decide, by decide⟩, ?_⟩
  refine ⟨fun i env n => ∃ a b c, env = [SD.un, .val .bag, a, .un, .un, b, c, .un, .un, .un, .un, .un] ∧ n ≤ i * 1000, ⟨_, _, _, rfl, by omega⟩, ?_, ?_⟩
  case refine_2 =>
    rintro i y env n hy ⟨a, b, c, rfl, hn⟩
    obtain ⟨hi, rfl⟩ := rng_int hy
    have hi' : i < 30 := hi
    walk_at "dv"
    refine ⟨rfl, by omega, fun d n' hd h1 h2 => ?_⟩
    walk_at "dv"
    refine ⟨d, rfl, hd, ?_⟩
    walk_at "dv"
    refine ⟨d, rfl, hd.1, d, rfl, hd.1, d, rfl, hd.1, by show 3 ≤ sizeLine; decide, _, rfl, rfl, by show 1 < 4; decide, ?_⟩
    walk_at "dv"
    refine ⟨d, rfl, hd.1, d, rfl, hd.1, d, rfl, hd.1, by show 3 ≤ sizeLine; decide, _, rfl, rfl, by show 1 < 4; decide, ?_⟩
    walk_at "dv"
    exact ⟨_, _, _, rfl, by omega⟩
  rintro env n ⟨a, b, c, rfl, hn⟩
  have hn' : n ≤ 30 * 1000 := hn
  walk_at "dv"
  refine ⟨rfl, ⟨by decide, by decide⟩, ?_⟩
  refine lc_draw (fun _ d => ∃ u, LetS u ∧ d = .str u) 2 (by show 600 ≤ sizeLine; decide) ?_ ?_
  case refine_2 =>
    intro i y hy n1 R h1 h2 hR
    obtain ⟨hi, rfl⟩ := rng_int hy
    have hi' : i < 600 := hi
    walk_at "dv"
    refine ⟨_, _, rfl, by omega, rfl, by decide +kernel, by decide +kernel, fun x hx => ?_⟩
    obtain ⟨c, hc, rfl⟩ := sub_sign hx
    have hc' : 97 ≤ c ∧ c ≤ 100 := by
      have : c ∈ [97, 98, 99, 100] := hc
      simp at this
      omega
    walk_at "dv"
    have hf : ((i : Int) * i + 3 * i).fmod 7 = ((i : Int) * i + 3 * i) % 7 := Int.fmod_eq_emod_of_nonneg _ (by decide)
    rw [hf]
    have hl : (Txt.mul (sgn c) (((i : Int) * i + 3 * i) % 7)).length ≤ 6 := by
      rw [mul_len]
      show _ * 1 ≤ 6
      omega
    have hm : ∀ z ∈ (Txt.mul (sgn c) (((i : Int) * i + 3 * i) % 7)).cps.toList, z = c := fun z hz => by
      rw [mul_codes, List.mem_flatten] at hz
      obtain ⟨l, h1, h2⟩ := hz
      rw [List.eq_of_mem_replicate h1] at h2
      simpa [sgn] using h2
    refine ⟨mulW_ok (by omega) (by omega), mulW_ok (by omega) (by omega), by decide, ⟨by show 1 ≤ 4096; decide, by omega, by omega⟩, by decide, _, _, rfl, by omega, rfl, by decide, by decide, fun y hy => ?_⟩
    obtain ⟨y, rfl, y0, y1⟩ : ∃ v, y = .str v ∧ v.length ≤ 2 ∧ LetS v := by
      simp only [List.mem_cons, List.not_mem_nil, or_false] at hy
      rcases hy with e | e | e <;> exact ⟨_, e, by decide +kernel, by unfold LetS; decide +kernel⟩
    walk_at "dv"
    have hs := sizeLine_eq
    refine ⟨by omega, hR _ _ ⟨_, fun z hz => ?_, rfl⟩ (by omega) (by omega)⟩
    rw [app_codes, List.mem_append] at hz
    rcases hz with hz | hz
    · rw [hm z hz]
      exact hc'
    · exact y1 z hz
  intro ds n' hl hv h1 h2
  obtain ⟨xs, rfl, hx⟩ := strs_all (P := fun _ => LetS) (k := 0) hv
  rw [strsD_len] at hl
  rw [rngD_len] at hl h2
  have hl' : xs.length = 600 := hl
  have h2' : n' ≤ n + 600 * 2 := h2
  clear hl h2 hv
  refine ⟨rfl, lc_map (fun d => match d with | .str u => Dv.pairD ((u.length : Int), u) | _ => d) (by rw [strsD_len, hl']; decide) ?_ ?_⟩
  case refine_2 =>
    intro i y hy R hR
    obtain ⟨u, hu, rfl⟩ := strsD_get hy
    walk_at "dv"
    exact ⟨by show 2 ≤ sizeLine; decide, hR⟩
  have e1 : (strsD xs).map (fun d => match d with | .str u => Dv.pairD ((u.length : Int), u) | _ => d) = (rowOf xs).map Dv.pairD := by
    unfold strsD rowOf
    rw [List.map_map, List.map_map]
    rfl
  refine ⟨rowOf xs, by rw [e1], _, xs, rfl, .inl rfl, by rw [hl']; decide, fun ns asc => ?_⟩
  rw [show (rowOf xs).mergeSort So.leP = rowsOf xs from rfl]
  walk_at "dv"
  have rl : (rowsOf xs).length = 600 := by rw [rowsOf_len, hl']
  have rat : ∀ k : Nat, (hk : k < 600) → atI ((rowsOf xs).map Dv.pairD) (k : Int) = some (Dv.pairD ((rowsOf xs).getD k (0, ""))) ∧ (rowsOf xs)[k]? = some ((rowsOf xs).getD k (0, "")) := fun k hk => by
    have e : (rowsOf xs)[k]? = some ((rowsOf xs).getD k (0, "")) := by
      rw [List.getD_eq_getElem?_getD, List.getElem?_eq_getElem (by omega)]
      rfl
    exact ⟨atI_nat (by rw [List.getElem?_map, e]; rfl), e⟩
  refine ⟨rfl, ⟨by decide, by decide⟩, lc_filter (fun d => match d with | .int k => Ma.newAt (rowsOf xs) k.toNat | _ => false) (fun d => match d with | .int k => .str ((rowsOf xs).getD k.toNat (0, "")).2 | _ => d) (by show 600 ≤ sizeLine; decide) ?_ ?_⟩
  case refine_2 =>
    intro i y hy R S h1 h2
    obtain ⟨hi, rfl⟩ := rng_int hy
    have hi' : i < 600 := hi
    obtain ⟨r1, r2⟩ := rat i hi'
    have elt : ∀ Q : D → Prop, Q (.str ((rowsOf xs).getD i (0, "")).2) → asSome (atI ((rowsOf xs).map Dv.pairD) (i : Int)) fun d => rIxD d (.int 1) Q := fun Q q => by
      rw [r1]
      exact ⟨_, rfl, q⟩
    walk_at "dv"
    by_cases hz : (i : Int) = 0
    · rw [if_pos (by rw [decide_eq_true hz])]
      have : i = 0 := by omega
      subst this
      exact elt _ (h1 rfl)
    · rw [if_neg (by rw [decide_eq_false hz]; exact Bool.false_ne_true)]
      obtain ⟨q1, q2⟩ := rat (i - 1) (by omega)
      have ec : ((i : Int) - 1) = ((i - 1 : Nat) : Int) := by omega
      rw [ec, q1, r1]
      walk_at "dv"
      rw [s_nePair]
      walk_at "dv"
      have en : Ma.newAt (rowsOf xs) i = !decide ((rowsOf xs).getD (i - 1) (0, "") = (rowsOf xs).getD i (0, "")) := by
        unfold Ma.newAt
        rw [decide_eq_false (show ¬ i = 0 by omega), q2, r2, Bool.false_or]
        by_cases hh : (rowsOf xs).getD (i - 1) (0, "") = (rowsOf xs).getD i (0, "")
        · rw [hh]; simp
        · rw [decide_eq_false hh, decide_eq_true]
          · rfl
          · exact fun z => hh (Option.some.inj z)
      rw [← en]
      cases hn : Ma.newAt (rowsOf xs) i with
      | true =>
        rw [if_pos rfl]
        exact ⟨_, rfl, h1 hn⟩
      | false =>
        rw [if_neg Bool.false_ne_true]
        exact h2 hn
  have e2 : ((rngD 0 600).filter (fun d => match d with | .int k => Ma.newAt (rowsOf xs) k.toNat | _ => false)).map (fun d => match d with | .int k => .str ((rowsOf xs).getD k.toNat (0, "")).2 | _ => d) = strsD (shortS ns) := by
    have hp : ∀ k : Nat, ((0 : Int) + (k : Nat)).toNat = k := fun k => by omega
    unfold rngD
    rw [List.filter_map, List.map_map, short_rows asc (0, "")]
    unfold Ma.uniq strsD
    rw [rl, List.map_map, List.map_map]
    have ef : (List.range 600).filter ((fun d => match d with | .int k => Ma.newAt (rowsOf xs) k.toNat | _ => false) ∘ fun k : Nat => D.int (0 + (k : Nat))) = (List.range 600).filter (Ma.newAt (rowsOf xs)) := List.filter_congr fun k _ => by
      show Ma.newAt (rowsOf xs) ((0 : Int) + (k : Nat)).toNat = _
      rw [hp]
    rw [ef]
    refine List.map_congr_left fun k _ => ?_
    show D.str ((rowsOf xs).getD ((0 : Int) + (k : Nat)).toNat (0, "")).2 = D.str ((rowsOf xs).getD k (0, "")).2
    rw [hp]
  refine ⟨.lst (strsD (shortS ns)), by rw [← e2]; rfl, fit_strs (by have := short_len asc; omega), by rw [dep_strs]; decide, ?_⟩
  walk_at "dv"
  refine ⟨⟨by decide, by decide⟩, fun i env n => ∃ a2 a3 a4 a5 a6 a7 a8 a9 a10, env = [SD.un, .val .bag, a2, a3, a4, a5, a6, a7, a8, a9, a10, .un] ∧ (a10 = .un ∨ ∃ d, a10 = .val d) ∧ n ≤ 32000 + i * 5000, ⟨_, _, _, _, _, _, _, _, _, rfl, .inl rfl, by omega⟩, ?_, ?_⟩
  · rintro env n ⟨a2, a3, a4, a5, a6, a7, a8, a9, a10, rfl, _, _⟩
    walk_at "dv"
    rfl
  clear rat rl e2 e1 asc hl' h1 h2' hx hn' hn
  rintro i y env n hy ⟨a2, a3, a4, a5, a6, a7, a8, a9, a10, rfl, h10, hn⟩
  obtain ⟨hi, rfl⟩ := rng_int hy
  have hi' : i < 4 := hi
  walk_at "dv"
  refine ⟨by rcases h10 with rfl | ⟨d, rfl⟩ <;> rfl, _, rfl, by omega, by decide, by decide +kernel, fun j j0 j1 => ?_⟩
  walk_at "dv"
  refine ⟨⟨by omega, by omega⟩, ?_⟩
  have hs := sizeLine_eq
  refine lc_draw (fun _ d => ∃ u, (LetS u ∧ u.length ≤ 40) ∧ d = .str u) 101 (by rw [rngD_len]; omega) ?_ ?_
  case refine_2 =>
    intro t y hy n1 R h1 h2 hR
    obtain ⟨ht, rfl⟩ := rng_int hy
    walk_at "dv"
    refine ⟨by decide, _, _, rfl, by omega, rfl, by decide, by decide, fun m hm => ?_⟩
    obtain ⟨m, rfl, m0, m1⟩ : ∃ v : Int, m = .int v ∧ 0 ≤ v ∧ v ≤ 40 := by
      simp only [List.mem_cons, List.not_mem_nil, or_false] at hm
      rcases hm with e | e | e | e <;> exact ⟨_, e, by decide, by decide⟩
    exact ⟨m, rfl, by omega, m0, m1, fun u n2 hu hl g1 g2 => hR _ _ ⟨u, ⟨hu, hl⟩, rfl⟩ (by omega) (by omega)⟩
  intro ds n1 hl hv h1 h2
  obtain ⟨xs, rfl, hx⟩ := strs_all (P := fun _ u => LetS u ∧ u.length ≤ 40) (k := 0) hv
  have hx : ∀ u ∈ xs, LetS u ∧ u.length ≤ 40 := fun u hu => (hx u hu).elim fun _ h => h
  rw [strsD_len, rngD_len] at hl
  rw [rngD_len] at h2
  refine ⟨by rcases h10 with rfl | ⟨d, rfl⟩ <;> rfl, _, rfl, by omega, by decide, by decide +kernel, fun j' j0' j1' => ?_⟩
  walk_at "dv"
  refine ⟨⟨by omega, by omega⟩, lc_draw (fun _ d => ∃ u, (LetS u ∧ u.length ≤ 40) ∧ d = .str u) 1 (by rw [rngD_len]; omega) ?_ ?_⟩
  case refine_2 =>
    intro t y hy n2 R g1 g2 hR
    obtain ⟨ht, rfl⟩ := rng_int hy
    walk_at "dv"
    have h0 : (LetS "" ∧ ("" : Str).length ≤ 40) := ⟨fun c hc => (by cases hc), by decide +kernel⟩
    refine ⟨by decide, by rw [strsD_len]; show xs.length + 1 ≤ _; omega, _, _, rfl, by omega, rfl, ?_, ?_, fun m hm => ?_⟩
    · rw [List.length_append]; show 0 < _ + 1; omega
    · rw [List.length_append, strsD_len]; show _ + 1 < _; omega
    · rw [List.mem_append] at hm
      rcases hm with hm | hm
      · obtain ⟨u, hu, rfl⟩ := List.mem_map.1 hm
        exact hR _ _ ⟨u, hx u hu, rfl⟩ (by omega) (by omega)
      · simp only [List.mem_cons, List.not_mem_nil, or_false] at hm
        exact hR _ _ ⟨_, h0, hm⟩ (by omega) (by omega)
  intro ds n2 hl2 hv2 g1 g2
  obtain ⟨ys, rfl, hy2⟩ := strs_all (P := fun _ u => LetS u ∧ u.length ≤ 40) (k := 0) hv2
  have hy2 : ∀ u ∈ ys, LetS u ∧ u.length ≤ 40 := fun u hu => (hy2 u hu).elim fun _ h => h
  rw [strsD_len, rngD_len] at hl2
  rw [rngD_len] at g2
  rw [strsD_app, strsD_len, strsD_len]
  have hz : ∀ u ∈ xs ++ ys, LetS u := fun u hu => by
    rw [List.mem_append] at hu
    rcases hu with hu | hu
    · exact (hx u hu).1
    · exact (hy2 u hu).1
  have hzl : (xs ++ ys).length ≤ 17 := by rw [List.length_append]; omega
  clear hx hy2 hv hv2
  generalize xs ++ ys = zs at hz hzl ⊢
  have h2' : n1 ≤ n + 1 + 13 * 101 := by
    have : j.toNat * 101 ≤ 13 * 101 := Nat.mul_le_mul (by omega) (Nat.le_refl _)
    omega
  refine ⟨by omega, ?_⟩
  split
  all_goals
    refine ⟨_, zs, rfl, by first | exact .inl rfl | exact .inr rfl, by show _ < 4096; omega, fun ns asc => ?_⟩
    walk_at "dv"
    have hkl := short_len asc
    rw [isT_list rfl]
    walk_at "dv"
    refine ⟨_, rfl, fit_strs (by omega), by rw [dep_strs]; decide, ?_⟩
    walk_at "dv"
    rw [strsD_len]
    refine ⟨⟨by omega, by omega⟩, fun t env m => ∃ x, env = [SD.un, .val .bag, .val (.int (i : Nat)), .val (.lst (strsD zs)), a4, a5, a6, .val _, .own (.lst (strsD (shortS ns))), .val (.tup (strsD (shortS ns))), x, .un] ∧ (x = .un ∨ ∃ d, x = .val d) ∧ m = n2, ⟨a10, rfl, h10, rfl⟩, ?_, ?_⟩
    · rintro env n ⟨x, rfl, hx10, rfl⟩
      walk_at "dv"
      refine ⟨rfl, lc_filter (fun _ => false) id (by rw [strsD_len]; omega) ?_ ?_⟩
      case refine_2 =>
        intro t y hy R S g1 g2
        obtain ⟨u, hu, rfl⟩ := strsD_get hy
        walk_at "dv"
        rw [s_inT]
        refine ⟨⟨rfl, flats_strs _⟩, ?_⟩
        rw [in_strs, decide_eq_true ((short_mem' asc u).2 (List.mem_of_getElem? hu))]
        walk_at "dv"
        exact g2 rfl
      rw [show ((strsD zs).filter fun _ => false).map id = [] by simp]
      refine ⟨by decide, ?_⟩
      rw [s_neNil]
      walk_at "dv"
      refine ⟨by rw [strsD_len]; omega, _, zs, rfl, by first | exact .inl rfl | exact .inr rfl, by show _ < 4096; omega, fun ms asc2 => ⟨_, shortS ns, rfl, .inr rfl, by show _ < 4096; omega, fun ls asc3 => ?_⟩⟩
      rw [short_again asc asc3, short_same asc asc2]
      refine ⟨by show 2 ≤ sizeLine; decide, by show 2 ≤ sizeLine; decide, .lst [.lst (strsD (shortS ns)), .lst (strsD (shortS ns))], rfl, ?_, ?_, ?_⟩
      · rw [fit, fits, fits, fits, fit_strs (by omega)]
        rfl
      · rw [D.dep, D.deps, D.deps, D.deps, dep_strs]
        decide
      walk_at "dv"
      exact ⟨_, _, _, _, _, _, _, _, _, rfl, hx10, by omega⟩
    · rintro t y env m hy ⟨x, rfl, _, rfl⟩
      obtain ⟨ht, rfl⟩ := rng_int hy
      have ht' : t < (shortS ns).length := by omega
      walk_at "dv"
      rw [strsD_at ht']
      walk_at "dv"
      rw [s_inL]
      refine ⟨⟨rfl, datas_strs _, Nat.zero_le _, by rw [deps_strs]; omega⟩, ?_⟩
      rw [in_strs, decide_eq_true ((short_mem' asc _).1 (List.getElem_mem ht'))]
      walk_at "dv"
      by_cases h0 : (0 : Int) < (t : Int)
      · rw [if_pos (by rw [decide_eq_true h0])]
        rw [show ((t : Int) - 1) = ((t - 1 : Nat) : Int) by omega, strsD_at (show t - 1 < (shortS ns).length by omega)]
        walk_at "dv"
        have pw := short_pw' asc
        refine ⟨_, _, rfl, hz _ ((short_mem' asc _).1 (List.getElem_mem _)), hz _ ((short_mem' asc _).1 (List.getElem_mem ht')), List.pairwise_iff_getElem.1 pw (t - 1) t (by omega) ht' (by omega), ?_⟩
        walk_at "dv"
        exact ⟨_, rfl, .inr ⟨_, rfl⟩⟩
      · rw [if_neg (by rw [decide_eq_false h0]; exact Bool.false_ne_true)]
        exact ⟨_, rfl, .inr ⟨_, rfl⟩⟩
end
end K1

set_option Elab.async false
set_option linter.all false
set_option maxRecDepth 100000
set_option maxHeartbeats 8000000
/-! the end (made by genend.py) -/
namespace K1
open PySem PySem.Spec PyProof.Rows L2 Dv
theorem all_mk {l : PySem.W.OpenLaw} {w : World} {K : PySem.W.Frag} {h : Heap} {mg : Str → Option Value} {fa : Addr} (X : K.In h) (G : h.Ns mainGlobals mg) (hfa : mg "law" = some (.ref fa))
    {f__law_bag f__law_same f__law_draw f__law_of f__law_any f__law_word f__law_value f__law_so f_is_name f_is_color f_is_letters f_is_word f_in_short_order f__law_ahead f_law : Addr} {t_LETTERS t_COLORS t__LOWERCASE t__LONGEST_WORD t__LONGEST_NAME : Tok}
    (d__law_bag : PySem.W.nsIn K mainGlobals "_law_bag" = some (some (.ref f__law_bag)))
    (d__law_same : PySem.W.nsIn K mainGlobals "_law_same" = some (some (.ref f__law_same)))
    (d__law_draw : PySem.W.nsIn K mainGlobals "_law_draw" = some (some (.ref f__law_draw)))
    (d__law_of : PySem.W.nsIn K mainGlobals "_law_of" = some (some (.ref f__law_of)))
    (d__law_any : PySem.W.nsIn K mainGlobals "_law_any" = some (some (.ref f__law_any)))
    (d__law_word : PySem.W.nsIn K mainGlobals "_law_word" = some (some (.ref f__law_word)))
    (d__law_value : PySem.W.nsIn K mainGlobals "_law_value" = some (some (.ref f__law_value)))
    (d__law_so : PySem.W.nsIn K mainGlobals "_law_so" = some (some (.ref f__law_so)))
    (d_is_name : PySem.W.nsIn K mainGlobals "is_name" = some (some (.ref f_is_name)))
    (d_is_color : PySem.W.nsIn K mainGlobals "is_color" = some (some (.ref f_is_color)))
    (d_is_letters : PySem.W.nsIn K mainGlobals "is_letters" = some (some (.ref f_is_letters)))
    (d_is_word : PySem.W.nsIn K mainGlobals "is_word" = some (some (.ref f_is_word)))
    (d_in_short_order : PySem.W.nsIn K mainGlobals "in_short_order" = some (some (.ref f_in_short_order)))
    (d__law_ahead : PySem.W.nsIn K mainGlobals "_law_ahead" = some (some (.ref f__law_ahead)))
    (d_law : PySem.W.nsIn K mainGlobals "law" = some (some (.ref f_law)))
    (e__law_bag : FunAt K "_law_bag" "_law_bag" sBag f__law_bag)
    (e__law_same : FunAt K "_law_same" "_law_same" s__law_same f__law_same)
    (e__law_draw : FunAt K "_law_draw" "_law_draw" sDraw f__law_draw)
    (e__law_of : FunAt K "_law_of" "_law_of" s__law_of f__law_of)
    (e__law_any : FunAt K "_law_any" "_law_any" s__law_any f__law_any)
    (e__law_word : FunAt K "_law_word" "_law_word" s__law_word f__law_word)
    (e__law_value : FunAt K "_law_value" "_law_value" s__law_value f__law_value)
    (e__law_so : FunAt K "_law_so" "_law_so" s__law_so f__law_so)
    (e_is_name : FunAt K "is_name" "is_name" s_is_name f_is_name)
    (e_is_color : FunAt K "is_color" "is_color" s_is_color f_is_color)
    (e_is_letters : FunAt K "is_letters" "is_letters" s_is_letters f_is_letters)
    (e_is_word : FunAt K "is_word" "is_word" s_is_word f_is_word)
    (e_in_short_order : FunAt K "in_short_order" "in_short_order" s_in_short_order f_in_short_order)
    (e__law_ahead : FunAt K "_law_ahead" "_law_ahead" s__law_ahead f__law_ahead)
    (e_law : FunAt K "law" "law" s_law f_law)
    (z_len : PySem.W.nsIn K mainGlobals "len" = some none)
    (z_isinstance : PySem.W.nsIn K mainGlobals "isinstance" = some none)
    (z_int : PySem.W.nsIn K mainGlobals "int" = some none)
    (z_str : PySem.W.nsIn K mainGlobals "str" = some none)
    (z_list : PySem.W.nsIn K mainGlobals "list" = some none)
    (z_tuple : PySem.W.nsIn K mainGlobals "tuple" = some none)
    (z_range : PySem.W.nsIn K mainGlobals "range" = some none)
    (z_zip : PySem.W.nsIn K mainGlobals "zip" = some none)
    (z_abs : PySem.W.nsIn K mainGlobals "abs" = some none)
    (z_all : PySem.W.nsIn K mainGlobals "all" = some none)
    (z_sorted : PySem.W.nsIn K mainGlobals "sorted" = some none)
    (z_set : PySem.W.nsIn K mainGlobals "set" = some none)
    (z_bool : PySem.W.nsIn K mainGlobals "bool" = some none)
    (c_LETTERS : PySem.W.nsIn K mainGlobals "LETTERS" = some (some (.str "abcd" t_LETTERS)))
    (c_COLORS : PySem.W.nsIn K mainGlobals "COLORS" = some (some (.str "xyz" t_COLORS)))
    (c__LOWERCASE : PySem.W.nsIn K mainGlobals "_LOWERCASE" = some (some (.str "abcdefghijklmnopqrstuvwxyz" t__LOWERCASE)))
    (c__LONGEST_WORD : PySem.W.nsIn K mainGlobals "_LONGEST_WORD" = some (some (.int 40 t__LONGEST_WORD)))
    (c__LONGEST_NAME : PySem.W.nsIn K mainGlobals "_LONGEST_NAME" = some (some (.int 6 t__LONGEST_NAME))) :
    ∃ fd : FuncData, (∀ (s : Shared) (v : Value), BindsTo s fd ⟨[v], []⟩ [("_law_script", v)]) ∧ ∀ base : Heap, K.In base → base.Ns mainGlobals mg → FnOk l.prog w K mg base CX0 6 fa fd ["_law_script"] (spLaw K) := by
  have e := hfa.symm.trans (PySem.W.mg_of X G d_law)
  cases e
  obtain ⟨g__law_bag, e__law_bag⟩ := e__law_bag
  obtain ⟨g__law_same, e__law_same⟩ := e__law_same
  obtain ⟨g__law_draw, e__law_draw⟩ := e__law_draw
  obtain ⟨g__law_of, e__law_of⟩ := e__law_of
  obtain ⟨g__law_any, e__law_any⟩ := e__law_any
  obtain ⟨g__law_word, e__law_word⟩ := e__law_word
  obtain ⟨g__law_value, e__law_value⟩ := e__law_value
  obtain ⟨g__law_so, e__law_so⟩ := e__law_so
  obtain ⟨g_is_name, e_is_name⟩ := e_is_name
  obtain ⟨g_is_color, e_is_color⟩ := e_is_color
  obtain ⟨g_is_letters, e_is_letters⟩ := e_is_letters
  obtain ⟨g_is_word, e_is_word⟩ := e_is_word
  obtain ⟨g_in_short_order, e_in_short_order⟩ := e_in_short_order
  obtain ⟨g__law_ahead, e__law_ahead⟩ := e__law_ahead
  obtain ⟨g_law, e_law⟩ := e_law
  have gX := e_law.ex
  refine ⟨g_law, fun s v => ?_, fun base _ _ => ?_⟩
  · obtain ⟨oc, od, kV, doc, pm, an, cdv, ct, osl, rfl, _, _⟩ := gX
    exact .of_eq rfl
  · have M : Mg mg := { b_len := PySem.W.mg_none_of X G z_len, b_isinstance := PySem.W.mg_none_of X G z_isinstance, b_int := PySem.W.mg_none_of X G z_int, b_str := PySem.W.mg_none_of X G z_str, b_list := PySem.W.mg_none_of X G z_list, b_tuple := PySem.W.mg_none_of X G z_tuple, b_range := PySem.W.mg_none_of X G z_range, b_zip := PySem.W.mg_none_of X G z_zip, b_abs := PySem.W.mg_none_of X G z_abs, b_all := PySem.W.mg_none_of X G z_all, b_sorted := PySem.W.mg_none_of X G z_sorted, b_set := PySem.W.mg_none_of X G z_set, b_bool := PySem.W.mg_none_of X G z_bool, c_LETTERS := ⟨_, PySem.W.mg_of X G c_LETTERS⟩, c_COLORS := ⟨_, PySem.W.mg_of X G c_COLORS⟩, c__LOWERCASE := ⟨_, PySem.W.mg_of X G c__LOWERCASE⟩, c__LONGEST_WORD := ⟨_, PySem.W.mg_of X G c__LONGEST_WORD⟩, c__LONGEST_NAME := ⟨_, PySem.W.mg_of X G c__LONGEST_NAME⟩ }
    have b__law_bag : Binds K g__law_bag ["_law_script"] [] := e__law_bag.binds fun _ _ _ _ _ _ us hl => match us, hl with | [_], _ => rfl
    have m__law_bag := PySem.W.mg_of X G d__law_bag
    have b__law_same : Binds K g__law_same ["_law_found", "_law_due"] [] := e__law_same.binds fun _ _ _ _ _ _ us hl => match us, hl with | [_, _], _ => rfl
    have m__law_same := PySem.W.mg_of X G d__law_same
    have b__law_draw : Binds K g__law_draw ["_law_bag_here", "_law_top"] [] := e__law_draw.binds fun _ _ _ _ _ _ us hl => match us, hl with | [_, _], _ => rfl
    have m__law_draw := PySem.W.mg_of X G d__law_draw
    have b__law_of : Binds K g__law_of ["_law_bag_here", "_law_some"] [] := e__law_of.binds fun _ _ _ _ _ _ us hl => match us, hl with | [_, _], _ => rfl
    have m__law_of := PySem.W.mg_of X G d__law_of
    have b__law_any : Binds K g__law_any ["_law_bag_here", "_law_more"] [] := e__law_any.binds fun _ _ _ _ _ _ us hl => match us, hl with | [_, _], _ => rfl
    have m__law_any := PySem.W.mg_of X G d__law_any
    have b__law_word : Binds K g__law_word ["_law_bag_here", "_law_most_y"] [] := e__law_word.binds fun _ _ _ _ _ _ us hl => match us, hl with | [_, _], _ => rfl
    have m__law_word := PySem.W.mg_of X G d__law_word
    have b__law_value : Binds K g__law_value ["_law_bag_here"] [] := e__law_value.binds fun _ _ _ _ _ _ us hl => match us, hl with | [_], _ => rfl
    have m__law_value := PySem.W.mg_of X G d__law_value
    have b__law_so : Binds K g__law_so ["_law_v"] [] := e__law_so.binds fun _ _ _ _ _ _ us hl => match us, hl with | [_], _ => rfl
    have m__law_so := PySem.W.mg_of X G d__law_so
    have b_is_name : Binds K g_is_name ["value"] [] := e_is_name.binds fun _ _ _ _ _ _ us hl => match us, hl with | [_], _ => rfl
    have m_is_name := PySem.W.mg_of X G d_is_name
    have k_is_name_value : KBinds K g_is_name ["value"] ["value"] (pickL ["value"].length [0]) (pickL ["value"].length [0]) := kbinds e_is_name (fun z => nomatch z) fun _ _ _ _ _ _ us hl => match us, hl with | [_], _ => rfl
    have b_is_color : Binds K g_is_color ["value"] [] := e_is_color.binds fun _ _ _ _ _ _ us hl => match us, hl with | [_], _ => rfl
    have m_is_color := PySem.W.mg_of X G d_is_color
    have k_is_color_value : KBinds K g_is_color ["value"] ["value"] (pickL ["value"].length [0]) (pickL ["value"].length [0]) := kbinds e_is_color (fun z => nomatch z) fun _ _ _ _ _ _ us hl => match us, hl with | [_], _ => rfl
    have b_is_letters : Binds K g_is_letters ["value"] [] := e_is_letters.binds fun _ _ _ _ _ _ us hl => match us, hl with | [_], _ => rfl
    have m_is_letters := PySem.W.mg_of X G d_is_letters
    have b_is_word : Binds K g_is_word ["value"] [] := e_is_word.binds fun _ _ _ _ _ _ us hl => match us, hl with | [_], _ => rfl
    have m_is_word := PySem.W.mg_of X G d_is_word
    have k_is_word_value : KBinds K g_is_word ["value"] ["value"] (pickL ["value"].length [0]) (pickL ["value"].length [0]) := kbinds e_is_word (fun z => nomatch z) fun _ _ _ _ _ _ us hl => match us, hl with | [_], _ => rfl
    have b_in_short_order : Binds K g_in_short_order ["words"] [] := e_in_short_order.binds fun _ _ _ _ _ _ us hl => match us, hl with | [_], _ => rfl
    have m_in_short_order := PySem.W.mg_of X G d_in_short_order
    have k_in_short_order_words : KBinds K g_in_short_order ["words"] ["words"] (pickL ["words"].length [0]) (pickL ["words"].length [0]) := kbinds e_in_short_order (fun z => nomatch z) fun _ _ _ _ _ _ us hl => match us, hl with | [_], _ => rfl
    have b__law_ahead : Binds K g__law_ahead ["_law_p", "_law_q"] [] := e__law_ahead.binds fun _ _ _ _ _ _ us hl => match us, hl with | [_, _], _ => rfl
    have m__law_ahead := PySem.W.mg_of X G d__law_ahead
    have o__law_bag : FnOk l.prog w K mg base CX0 1 f__law_bag g__law_bag ["_law_script"] (spBag K) := ok_bag e__law_bag M.b_int M.b_list
    have o__law_same : FnOk l.prog w K mg base CX0 5 f__law_same g__law_same ["_law_found", "_law_due"] (lSp K (sp_same 4)) := same_all M e__law_same m__law_same b__law_same 4
    have o__law_draw : FnOk l.prog w K mg base CX0 1 f__law_draw g__law_draw ["_law_bag_here", "_law_top"] (lSp K sp_draw) := draw_dv (ok_draw e__law_draw M.b_len M.b_int M.b_abs)
    have o__law_of : FnOk l.prog w K mg base CX0 2 f__law_of g__law_of ["_law_bag_here", "_law_some"] (lSp K sp__law_of) := ok__law_of M e__law_of ⟨⟨_, _, o__law_draw.mono (by decide), m__law_draw, e__law_draw.kp, b__law_draw⟩⟩
    have o__law_any : FnOk l.prog w K mg base CX0 3 f__law_any g__law_any ["_law_bag_here", "_law_more"] (lSp K sp__law_any) := ok__law_any M e__law_any ⟨⟨_, _, o__law_of.mono (by decide), m__law_of, e__law_of.kp, b__law_of⟩⟩
    have o__law_word : FnOk l.prog w K mg base CX0 3 f__law_word g__law_word ["_law_bag_here", "_law_most_y"] (lSp K sp__law_word) := ok__law_word M e__law_word ⟨⟨_, _, o__law_of.mono (by decide), m__law_of, e__law_of.kp, b__law_of⟩⟩ ⟨⟨_, _, o__law_draw.mono (by decide), m__law_draw, e__law_draw.kp, b__law_draw⟩⟩
    have o__law_value : FnOk l.prog w K mg base CX0 4 f__law_value g__law_value ["_law_bag_here"] (lSp K sp__law_value) := ok__law_value M e__law_value ⟨⟨_, _, o__law_draw.mono (by decide), m__law_draw, e__law_draw.kp, b__law_draw⟩⟩ ⟨⟨_, _, o__law_any.mono (by decide), m__law_any, e__law_any.kp, b__law_any⟩⟩ ⟨⟨_, _, o__law_of.mono (by decide), m__law_of, e__law_of.kp, b__law_of⟩⟩ ⟨⟨_, _, o__law_word.mono (by decide), m__law_word, e__law_word.kp, b__law_word⟩⟩
    have o__law_so : FnOk l.prog w K mg base CX0 1 f__law_so g__law_so ["_law_v"] (lSp K sp__law_so) := ok__law_so M e__law_so 
    have o_is_name : FnOk l.prog w K mg base CX0 1 f_is_name g_is_name ["value"] (lSp K sp_is_name) := ok_is_name M e_is_name 
    have o_is_color : FnOk l.prog w K mg base CX0 1 f_is_color g_is_color ["value"] (lSp K sp_is_color) := ok_is_color M e_is_color 
    have o_is_letters : FnOk l.prog w K mg base CX0 1 f_is_letters g_is_letters ["value"] (lSp K sp_is_letters) := ok_is_letters M e_is_letters 
    have o_is_word : FnOk l.prog w K mg base CX0 2 f_is_word g_is_word ["value"] (lSp K sp_is_word) := ok_is_word M e_is_word ⟨⟨_, _, o_is_letters.mono (by decide), m_is_letters, e_is_letters.kp, b_is_letters⟩⟩
    have o_in_short_order : FnOk l.prog w K mg base CX0 1 f_in_short_order g_in_short_order ["words"] (lSpF K sp_in_short_order) := ok_in_short_order M e_in_short_order 
    have o__law_ahead : FnOk l.prog w K mg base CX0 1 f__law_ahead g__law_ahead ["_law_p", "_law_q"] (lSp K sp__law_ahead) := ok__law_ahead M e__law_ahead 
    exact ok_law M e_law (o__law_bag.mono (by decide)) m__law_bag e__law_bag.kp b__law_bag ⟨⟨_, _, o__law_same.mono (by decide), m__law_same, e__law_same.kp, b__law_same⟩⟩ ⟨⟨_, _, o__law_value.mono (by decide), m__law_value, e__law_value.kp, b__law_value⟩⟩ ⟨⟨_, _, o__law_so.mono (by decide), m__law_so, e__law_so.kp, b__law_so⟩⟩ ⟨⟨_, _, o_is_name.mono (by decide), m_is_name, e_is_name.kp, k_is_name_value⟩⟩ ⟨⟨_, _, o_is_color.mono (by decide), m_is_color, e_is_color.kp, k_is_color_value⟩⟩ ⟨⟨_, _, o_is_word.mono (by decide), m_is_word, e_is_word.kp, k_is_word_value⟩⟩ ⟨⟨_, _, o_is_name.mono (by decide), m_is_name, e_is_name.kp, b_is_name⟩⟩ ⟨⟨_, _, o_is_color.mono (by decide), m_is_color, e_is_color.kp, b_is_color⟩⟩ ⟨⟨_, _, o_is_word.mono (by decide), m_is_word, e_is_word.kp, b_is_word⟩⟩ ⟨⟨_, _, o__law_of.mono (by decide), m__law_of, e__law_of.kp, b__law_of⟩⟩ ⟨⟨_, _, o_in_short_order.mono (by decide), m_in_short_order, e_in_short_order.kp, b_in_short_order⟩⟩ ⟨⟨_, _, o__law_draw.mono (by decide), m__law_draw, e__law_draw.kp, b__law_draw⟩⟩ ⟨⟨_, _, o__law_word.mono (by decide), m__law_word, e__law_word.kp, b__law_word⟩⟩ ⟨⟨_, _, o__law_ahead.mono (by decide), m__law_ahead, e__law_ahead.kp, b__law_ahead⟩⟩ ⟨⟨_, _, o_in_short_order.mono (by decide), m_in_short_order, e_in_short_order.kp, k_in_short_order_words⟩⟩
end K1

set_option Elab.async false
set_option linter.all false
set_option maxRecDepth 100000
open PySem PySem.W PyProof.Rows
set_option maxHeartbeats 0 in
theorem PySem.Challenge.cw_lexiconlines_k01_words_judged_holds : PySem.Challenge.rw_lexiconlines_k01_words_judged.Holds := by
  w_on; o_law; k_headL; (case hw => w_witness2)
  k_fill
  refine L2.walk_of (l := PySem.Challenge.rw_lexiconlines_k01_words_judged) (n := 63) (k := 6) (x := "_law_script") (CX := fun _ => L2.CX0) (sp := fun w => Dv.spLaw _) rfl (by decide) rfl ⟨rfl, by decide, by decide⟩ (fun w h Y => PySem.W.kIn_of Y) ?F (fun _ _ a ns hl _ hS => ⟨a, ns, rfl, hS, hl, fun _ => rfl⟩) (fun _ _ _ _ _ h => h)
  case F =>
    intro w mg fa h KX G hmg
    refine' K1.all_mk KX G hmg ?d__law_bag ?d__law_same ?d__law_draw ?d__law_of ?d__law_any ?d__law_word ?d__law_value ?d__law_so ?d_is_name ?d_is_color ?d_is_letters ?d_is_word ?d_in_short_order ?d__law_ahead ?d_law ?e__law_bag ?e__law_same ?e__law_draw ?e__law_of ?e__law_any ?e__law_word ?e__law_value ?e__law_so ?e_is_name ?e_is_color ?e_is_letters ?e_is_word ?e_in_short_order ?e__law_ahead ?e_law ?z_len ?z_isinstance ?z_int ?z_str ?z_list ?z_tuple ?z_range ?z_zip ?z_abs ?z_all ?z_sorted ?z_set ?z_bool ?c_LETTERS ?c_COLORS ?c__LOWERCASE ?c__LONGEST_WORD ?c__LONGEST_NAME
    (case d__law_bag => k_is)
    (case d__law_same => k_is)
    (case d__law_draw => k_is)
    (case d__law_of => k_is)
    (case d__law_any => k_is)
    (case d__law_word => k_is)
    (case d__law_value => k_is)
    (case d__law_so => k_is)
    (case d_is_name => k_is)
    (case d_is_color => k_is)
    (case d_is_letters => k_is)
    (case d_is_word => k_is)
    (case d_in_short_order => k_is)
    (case d__law_ahead => k_is)
    (case d_law => k_is)
    (case e__law_bag => (refine' Dv.funAt_mk ?ml ?mc ?mk; (case ml => k_is); (case mc => k_is); (case mk => k_is)))
    (case e__law_same => (refine' Dv.funAt_mk ?ml ?mc ?mk; (case ml => k_is); (case mc => k_is); (case mk => k_is)))
    (case e__law_draw => (refine' Dv.funAt_mk ?ml ?mc ?mk; (case ml => k_is); (case mc => k_is); (case mk => k_is)))
    (case e__law_of => (refine' Dv.funAt_mk ?ml ?mc ?mk; (case ml => k_is); (case mc => k_is); (case mk => k_is)))
    (case e__law_any => (refine' Dv.funAt_mk ?ml ?mc ?mk; (case ml => k_is); (case mc => k_is); (case mk => k_is)))
    (case e__law_word => (refine' Dv.funAt_mk ?ml ?mc ?mk; (case ml => k_is); (case mc => k_is); (case mk => k_is)))
    (case e__law_value => (refine' Dv.funAt_mk ?ml ?mc ?mk; (case ml => k_is); (case mc => k_is); (case mk => k_is)))
    (case e__law_so => (refine' Dv.funAt_mk ?ml ?mc ?mk; (case ml => k_is); (case mc => k_is); (case mk => k_is)))
    (case e_is_name => (refine' Dv.funAt_mk ?ml ?mc ?mk; (case ml => k_is); (case mc => k_is); (case mk => k_is)))
    (case e_is_color => (refine' Dv.funAt_mk ?ml ?mc ?mk; (case ml => k_is); (case mc => k_is); (case mk => k_is)))
    (case e_is_letters => (refine' Dv.funAt_mk ?ml ?mc ?mk; (case ml => k_is); (case mc => k_is); (case mk => k_is)))
    (case e_is_word => (refine' Dv.funAt_mk ?ml ?mc ?mk; (case ml => k_is); (case mc => k_is); (case mk => k_is)))
    (case e_in_short_order => (refine' Dv.funAt_mk ?ml ?mc ?mk; (case ml => k_is); (case mc => k_is); (case mk => k_is)))
    (case e__law_ahead => (refine' Dv.funAt_mk ?ml ?mc ?mk; (case ml => k_is); (case mc => k_is); (case mk => k_is)))
    (case e_law => (refine' Dv.funAt_mk ?ml ?mc ?mk; (case ml => k_is); (case mc => k_is); (case mk => k_is)))
    (case z_len => k_is)
    (case z_isinstance => k_is)
    (case z_int => k_is)
    (case z_str => k_is)
    (case z_list => k_is)
    (case z_tuple => k_is)
    (case z_range => k_is)
    (case z_zip => k_is)
    (case z_abs => k_is)
    (case z_all => k_is)
    (case z_sorted => k_is)
    (case z_set => k_is)
    (case z_bool => k_is)
    (case c_LETTERS => k_is)
    (case c_COLORS => k_is)
    (case c__LOWERCASE => k_is)
    (case c__LONGEST_WORD => k_is)
    (case c__LONGEST_NAME => k_is)
