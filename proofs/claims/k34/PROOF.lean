import PyProof.Rows.All
import Wide.All
import OpenK.AllK
import Wide.FinOn
import HandS.ForMost
import HandS.Wide
import HandS.WideBits
import HandS.IsInst
import HandS.Gcd
import HandS.TupAny
import HandS.Zip
import HandS.RaiseMore
import PyProof.ReprRoads
import Flt.RightSqrt
import KE.KMathG
import PyProof.ReprText
import HandS.Style
import HandS.EndBits
import PySem.Challenge.RW_truecourse_k34_whole_roots_and_quotients
set_option Elab.async false
set_option linter.all false
set_option maxRecDepth 100000
set_option autoImplicit false
/-! A layer over HandS: values as plain data D, slots as lists of data, readings without a heap. -/
namespace DL
open PySem PySem.Spec L2

inductive D where
  | non | bl (b : Bool) | int (i : Int) | str (x : Str) | ty (n : String) | tup (l : List D) | lst (l : List D) | pot

mutual
inductive Is (K : PySem.W.Frag) (p : Addr) (H : Hp) : V → D → Prop
  | non : Is K p H .non .non
  | bl (b : Bool) : Is K p H (.bl b) (.bl b)
  | int (i : Int) : Is K p H (.int i) (.int i)
  | str (x : Str) : Is K p H (.str x) (.str x)
  | ty (n : String) : Is K p H (.ty n) (.ty n)
  | tup {a : Addr} {vs : List V} {l : List D} : SqT K H a vs → a ≠ p → IsL K p H vs l → Is K p H (.ref a) (.tup l)
  | lst {a : Addr} {vs : List V} {l : List D} : SqL K H a vs → a ≠ p → IsL K p H vs l → Is K p H (.ref a) (.lst l)
  | pot : Is K p H (.ref p) .pot
inductive IsL (K : PySem.W.Frag) (p : Addr) (H : Hp) : List V → List D → Prop
  | nil : IsL K p H [] []
  | cons {v : V} {d : D} {vs : List V} {l : List D} : Is K p H v d → IsL K p H vs l → IsL K p H (v :: vs) (d :: l)
end

/-- the pot stands at p: two counts, the second one small -/
def Pk (p : Addr) (H : Hp) : Prop := ∃ a b : Int, 0 ≤ a ∧ 0 ≤ b ∧ b < 4294967296 ∧ H p = some (.lst [.int a, .int b])
/-- all but the pot is as it was -/
def Ex (p : Addr) (H H' : Hp) : Prop := (∀ b o, b ≠ p → H b = some o → H' b = some o) ∧ Pk p H'

section
variable {K : PySem.W.Frag} {p : Addr} {H H1 H2 : Hp}
theorem SqT.keep {a : Addr} {vs : List V} (h : SqT K H a vs) (n : a ≠ p) (e : ∀ b o, b ≠ p → H b = some o → H1 b = some o) : SqT K H1 a vs := by
  rcases h with (h | ⟨o, h⟩) | h
  · exact .inl (.inl (e _ _ n h))
  · exact .inl (.inr ⟨o, e _ _ n h⟩)
  · exact .inr h
theorem SqL.keep {a : Addr} {vs : List V} (h : SqL K H a vs) (n : a ≠ p) (e : ∀ b o, b ≠ p → H b = some o → H1 b = some o) : SqL K H1 a vs := by
  rcases h with (h | ⟨o, h⟩) | h
  · exact .inl (.inl (e _ _ n h))
  · exact .inl (.inr ⟨o, e _ _ n h⟩)
  · exact .inr h
theorem Is.mono {v : V} {d : D} (h : Is K p H v d) (e : ∀ b o, b ≠ p → H b = some o → H1 b = some o) : Is K p H1 v d :=
  Is.rec (motive_1 := fun v d _ => Is K p H1 v d) (motive_2 := fun vs l _ => IsL K p H1 vs l) .non .bl .int .str .ty
    (fun h n _ ih => .tup (SqT.keep h n e) n ih) (fun h n _ ih => .lst (SqL.keep h n e) n ih) .pot .nil (fun _ _ i1 i2 => .cons i1 i2) h
theorem IsL.mono {vs : List V} {l : List D} (h : IsL K p H vs l) (e : ∀ b o, b ≠ p → H b = some o → H1 b = some o) : IsL K p H1 vs l :=
  IsL.rec (motive_1 := fun v d _ => Is K p H1 v d) (motive_2 := fun vs l _ => IsL K p H1 vs l) .non .bl .int .str .ty
    (fun h n _ ih => .tup (SqT.keep h n e) n ih) (fun h n _ ih => .lst (SqL.keep h n e) n ih) .pot .nil (fun _ _ i1 i2 => .cons i1 i2) h
theorem IsL.len : ∀ {vs : List V} {l : List D}, IsL K p H vs l → vs.length = l.length
  | [], _, h => by cases h; rfl
  | v :: vs, _, h => by
    cases h with
    | cons h1 h2 => simp [IsL.len h2]
theorem IsL.get : ∀ {vs : List V} {l : List D} {i : Nat} {v : V}, IsL K p H vs l → vs[i]? = some v → ∃ d, l[i]? = some d ∧ Is K p H v d
  | [], _, _, _, h, e => by simp at e
  | w :: vs, _, 0, v, h, e => by
    cases h with
    | cons h1 h2 =>
      have q : w = v := by simpa using e
      subst q
      exact ⟨_, rfl, h1⟩
  | w :: vs, _, i + 1, v, h, e => by
    cases h with
    | cons h1 h2 =>
      obtain ⟨d, e1, e2⟩ := IsL.get (i := i) (v := v) h2 (by simpa using e)
      exact ⟨d, by simpa using e1, e2⟩
theorem IsL.getD : ∀ {vs : List V} {l : List D} {i : Nat} {d : D}, IsL K p H vs l → l[i]? = some d → ∃ v, vs[i]? = some v ∧ Is K p H v d
  | _, [], _, _, h, e => by simp at e
  | _, w :: l, 0, d, h, e => by
    cases h with
    | cons h1 h2 =>
      have q : w = d := by simpa using e
      subst q
      exact ⟨_, rfl, h1⟩
  | _, w :: l, i + 1, d, h, e => by
    cases h with
    | cons h1 h2 =>
      obtain ⟨v, e1, e2⟩ := IsL.getD (i := i) (d := d) h2 (by simpa using e)
      exact ⟨v, by simpa using e1, e2⟩
theorem IsL.app : ∀ {vs ws : List V} {l m : List D}, IsL K p H vs l → IsL K p H ws m → IsL K p H (vs ++ ws) (l ++ m)
  | [], _, _, _, h, h' => by cases h; exact h'
  | v :: vs, _, _, _, h, h' => by
    cases h with
    | cons h1 h2 => exact .cons h1 (IsL.app h2 h')
theorem IsL.drop : ∀ {vs : List V} {l : List D} (n : Nat), IsL K p H vs l → IsL K p H (vs.drop n) (l.drop n)
  | _, _, 0, h => h
  | [], _, n + 1, h => by cases h; exact .nil
  | v :: vs, _, n + 1, h => by
    cases h with
    | cons h1 h2 => exact IsL.drop n h2
theorem IsL.take : ∀ {vs : List V} {l : List D} (n : Nat), IsL K p H vs l → IsL K p H (vs.take n) (l.take n)
  | _, _, 0, h => .nil
  | [], _, n + 1, h => by cases h; exact .nil
  | v :: vs, _, n + 1, h => by
    cases h with
    | cons h1 h2 => exact .cons h1 (IsL.take n h2)
theorem IsL.ints : ∀ {vs : List V} {ns : List Int}, IsL K p H vs (ns.map D.int) → vs = ns.map V.int
  | vs, [], h => by cases h; rfl
  | vs, n :: ns, h => by
    cases h with
    | cons h1 h2 =>
      cases h1
      rw [IsL.ints h2]
      rfl
theorem IsL.bools : ∀ {vs : List V} {ns : List Bool}, IsL K p H vs (ns.map D.bl) → vs = ns.map V.bl
  | vs, [], h => by cases h; rfl
  | vs, n :: ns, h => by
    cases h with
    | cons h1 h2 =>
      cases h1
      rw [IsL.bools h2]
      rfl
theorem Ex.refl (h : Pk p H) : Ex p H H := ⟨fun _ _ _ e => e, h⟩
theorem Ex.trans (a : Ex p H H1) (b : Ex p H1 H2) : Ex p H H2 := ⟨fun c o n e => b.1 c o n (a.1 c o n e), b.2⟩
theorem Pk.ne {a : Addr} (h : Pk p H) (n : H a = none) : a ≠ p := by
  rintro rfl
  obtain ⟨_, _, _, _, _, e⟩ := h
  rw [n] at e
  cases e
theorem Ex.new {a : Addr} {o : HO} (h : Pk p H) (n : H a = none) : Ex p H (upd H a o) := by
  refine ⟨fun b u _ e => ?_, ?_⟩
  · rw [upd_ne (ne_of_none e n)]
    exact e
  · obtain ⟨x, y, h1, h2, h3, e⟩ := h
    exact ⟨x, y, h1, h2, h3, by rw [upd_ne (ne_of_none e n)]; exact e⟩
end

/-! ### slots -/
abbrev Sl := List (Option D)
structure Rel (K : PySem.W.Frag) (p : Addr) (σ : St) (H : Hp) (τ : Sl) : Prop where
  pk : Pk p H
  sl : ∀ (i : Nat) (d : D), τ[i]? = some (some d) → ∃ v, σ[i]? = some (some v) ∧ Is K p H v d
  len : τ.length = σ.length
section
variable {K : PySem.W.Frag} {p : Addr} {H H1 : Hp} {σ : St} {τ : Sl}
theorem Rel.ex (r : Rel K p σ H τ) (e : Ex p H H1) : Rel K p σ H1 τ :=
  ⟨e.2, fun i d h => let ⟨v, h1, h2⟩ := r.sl i d h; ⟨v, h1, h2.mono e.1⟩, r.len⟩
theorem Rel.set (r : Rel K p σ H τ) {i : Nat} {v : V} {d : D} (h : Is K p H v d) : Rel K p (σ.set i (some v)) H (τ.set i (some d)) := by
  refine ⟨r.pk, fun j e q => ?_, by simp [r.len]⟩
  by_cases hj : i = j
  · subst hj
    by_cases hl : i < τ.length
    · rw [List.getElem?_set_self hl] at q
      cases q
      exact ⟨v, by rw [List.getElem?_set_self (by rw [← r.len]; exact hl)], h⟩
    · rw [List.getElem?_eq_none (by simpa using hl)] at q
      cases q
  · rw [List.getElem?_set_ne hj] at q
    obtain ⟨u, h1, h2⟩ := r.sl j e q
    exact ⟨u, by rw [List.getElem?_set_ne hj]; exact h1, h2⟩
/-- a slot forgotten on both sides -/
theorem Rel.out (r : Rel K p σ H τ) {i : Nat} : Rel K p (σ.set i none) H (τ.set i none) := by
  refine ⟨r.pk, fun j e q => ?_, by simp [r.len]⟩
  by_cases hj : i = j
  · subst hj
    by_cases hl : i < τ.length
    · rw [List.getElem?_set_self hl] at q
      cases q
    · rw [List.getElem?_eq_none (by simpa using hl)] at q
      cases q
  · rw [List.getElem?_set_ne hj] at q
    obtain ⟨u, h1, h2⟩ := r.sl j e q
    exact ⟨u, by rw [List.getElem?_set_ne hj]; exact h1, h2⟩
def wipeD (τ : Sl) : List Nat → Sl
  | [] => τ
  | v :: vs => (wipeD τ vs).set v none
theorem Rel.wipe (r : Rel K p σ H τ) : ∀ vs : List Nat, Rel K p (wipe σ vs) H (wipeD τ vs)
  | [] => r
  | v :: vs => (Rel.wipe r vs).out
end

/-! ### expressions -/
abbrev DE := Sl → (D → Prop) → Prop
abbrev DT := Sl → (Bool → Prop) → Prop
abbrev DA := Sl → (List D → Prop) → Prop
structure PD (X : Cx) (p : Addr) (e : Expr) (d : DE) : Prop where
  run : ∃ t, PE X e t ∧ ∀ (σ : St) (H : Hp) (τ : Sl) (Q : VK) (R : D → Prop), Rel X.K p σ H τ → d τ R → (∀ x v H', Ex p H H' → Is X.K p H' v x → R x → Q v H') → t σ H Q
structure PDT (X : Cx) (p : Addr) (e : Expr) (d : DT) : Prop where
  run : ∃ t, PT X e t ∧ ∀ (σ : St) (H : Hp) (τ : Sl) (Q : Bool → Hp → Prop) (R : Bool → Prop), Rel X.K p σ H τ → d τ R → (∀ b H', Ex p H H' → R b → Q b H') → t σ H Q
structure PDW (X : Cx) (p : Addr) (e : Expr) (d : DT) : Prop where
  run : ∃ t, PW X e t ∧ ∀ (σ : St) (H : Hp) (τ : Sl) (Q : Bool → Hp → Prop) (R : Bool → Prop), Rel X.K p σ H τ → d τ R → (∀ b H', Ex p H H' → R b → Q b H') → t σ H Q
structure PDA (X : Cx) (p : Addr) (es : List Expr) (d : DA) : Prop where
  run : ∃ t, PA X es t ∧ ∀ (σ : St) (H : Hp) (τ : Sl) (Q : List V → Hp → Prop) (R : List D → Prop), Rel X.K p σ H τ → d τ R → (∀ xs vs H', Ex p H H' → IsL X.K p H' vs xs → vs.length = es.length → R xs → Q vs H') → t σ H Q

def OpD (X : Cx) (p : Addr) (f : Value → Value → Sem Value) (g : D → D → (D → Prop) → Prop) : Prop :=
  ∃ r, OpR X f r ∧ ∀ (H : Hp) (x y : D) (v u : V) (Q : VK) (R : D → Prop), Pk p H → Is X.K p H v x → Is X.K p H u y → g x y R → (∀ z v' H', Ex p H H' → Is X.K p H' v' z → R z → Q v' H') → r v u H Q
def UnD (X : Cx) (p : Addr) (f : Value → Sem Value) (g : D → (D → Prop) → Prop) : Prop :=
  ∃ r, UnR X f r ∧ ∀ (H : Hp) (x : D) (v : V) (Q : VK) (R : D → Prop), Pk p H → Is X.K p H v x → g x R → (∀ z v' H', Ex p H H' → Is X.K p H' v' z → R z → Q v' H') → r v H Q
def CallD (X : Cx) (p : Addr) (f : Value) (g : List D → (D → Prop) → Prop) : Prop :=
  ∃ r, CallR X f r ∧ ∀ (H : Hp) (xs : List D) (vs : List V) (Q : VK) (R : D → Prop), Pk p H → IsL X.K p H vs xs → g xs R → (∀ z v' H', Ex p H H' → Is X.K p H' v' z → R z → Q v' H') → r vs H Q
theorem OpR.or {X : Cx} {f : Value → Value → Sem Value} {r r' : R2} (h : OpR X f r) (h' : OpR X f r') : OpR X f (fun x y H Q => r x y H Q ∨ r' x y H Q) :=
  fun pins s σ H x y v u Q I rx ry q => q.elim (h pins s σ H x y v u Q I rx ry) (h' pins s σ H x y v u Q I rx ry)
theorem CallR.or {X : Cx} {f : Value} {r r' : List V → Hp → VK → Prop} (h : CallR X f r) (h' : CallR X f r') : CallR X f (fun x H Q => r x H Q ∨ r' x H Q) :=
  fun pins s σ H xs us Q I rx q => q.elim (h pins s σ H xs us Q I rx) (h' pins s σ H xs us Q I rx)

def dVar (i : Nat) : DE := fun τ R => match τ[i]? with
  | some (some d) => R d
  | _ => False
def dC (d : D) : DE := fun _ R => R d
def dOp (g : D → D → (D → Prop) → Prop) (da db : DE) : DE := fun τ R => da τ fun x => db τ fun y => g x y R
def dUn (g : D → (D → Prop) → Prop) (da : DE) : DE := fun τ R => da τ fun x => g x R
def dTst (d : DE) : DT := fun τ R => d τ fun x => match x with
  | .bl b => R b
  | _ => False
def dChain (g g' : D → D → (D → Prop) → Prop) (da db dc : DE) : DE := fun τ R => da τ fun x => db τ fun y => g x y fun z => match z with
  | .bl k => if k = true then dc τ fun w => g' y w R else R (.bl false)
  | _ => False
def dAnd (t u : DT) : DT := fun τ R => t τ fun c => if c = true then u τ R else R false
def dOr (t u : DT) : DT := fun τ R => t τ fun c => if c = true then R true else u τ R
def dNot (t : DT) : DT := fun τ R => t τ fun c => R (!c)
def dAndV (da db : DE) : DE := fun τ R => da τ fun x => match x with
  | .bl c => if c = true then db τ R else R (.bl false)
  | _ => False
def dOrV (da db : DE) : DE := fun τ R => da τ fun x => match x with
  | .bl c => if c = true then R (.bl true) else db τ R
  | _ => False
def dNotV (da : DE) : DE := fun τ R => da τ fun x => match x with
  | .bl c => R (.bl (!c))
  | _ => False
def dIf (t : DT) (da db : DE) : DE := fun τ R => t τ fun c => if c = true then da τ R else db τ R
def dNil : DA := fun _ R => R []
def dCons (da : DE) (dr : DA) : DA := fun τ R => da τ fun x => dr τ fun xs => R (x :: xs)
def dTup (t : DA) : DE := fun τ R => t τ fun xs => R (.tup xs)
def dLst (t : DA) : DE := fun τ R => t τ fun xs => R (.lst xs)
def dB (g : List D → (D → Prop) → Prop) (t : DA) : DE := fun τ R => t τ fun xs => g xs R

section
variable {X : Cx} {p : Addr} {a b c : Expr} {da db dc : DE} {pos : Pos}
theorem pd_var (i : Nat) {x : Str} {pos : Pos} (hN : X.N[i]? = some x := by rfl) (hv : Vis X.env.scope x := by first | exact Or.inl rfl | exact Or.inr (Or.inl rfl) | exact Or.inr (Or.inr rfl)) (hd : (x == ("__debug__" : Str)) = false := by decide)
    (hcd : (x == ("__classdict__" : Str)) = false := by decide) : PD X p (.Name x pos) (dVar i) := by
  refine ⟨tVar i, pe_var hN hv hd hcd, fun σ H τ Q R rel h q => ?_⟩
  unfold dVar at h
  split at h
  · rename_i d e
    obtain ⟨v, h1, h2⟩ := rel.sl i d e
    exact ⟨v, h1, q d v H (.refl rel.pk) h2 h⟩
  · exact h.elim
theorem pd_int {i j pos} : PD X p (.Constant (.int i) j pos) (dC (.int i)) := ⟨_, pe_int, fun σ H τ Q R rel h q => q _ _ H (.refl rel.pk) (.int i) h⟩
theorem pd_bl {b j pos} : PD X p (.Constant (.bool b) j pos) (dC (.bl b)) := ⟨_, pe_bl, fun σ H τ Q R rel h q => q _ _ H (.refl rel.pk) (.bl b) h⟩
theorem pd_non {j pos} : PD X p (.Constant .none j pos) (dC .non) := ⟨_, pe_non, fun σ H τ Q R rel h q => q _ _ H (.refl rel.pk) .non h⟩
theorem pd_str {x j pos} : PD X p (.Constant (.str x) j pos) (dC (.str x)) := ⟨_, pe_str, fun σ H τ Q R rel h q => q _ _ H (.refl rel.pk) (.str x) h⟩
/-- a constant of the module's top: an int -/
theorem pd_gint {x : Str} {i : Int} {t : Tok} {pos : Pos} (hg : Gl X x) (hm : X.mg x = some (.int i t)) (hd : (x == ("__debug__" : Str)) = false := by decide) : PD X p (.Name x pos) (dC (.int i)) :=
  ⟨_, pe_glob (v := .int i) hg hm ⟨t, rfl⟩ hd, fun σ H τ Q R rel h q => q _ _ H (.refl rel.pk) (.int i) h⟩
/-- a tuple of the module's top, by its data -/
def KTup (K : PySem.W.Frag) (a : Addr) (d : D) : Prop := ∀ (p : Addr) (H : Hp), a ≠ p → Is K p H (.ref a) d
theorem pd_gtup {x : Str} {a : Addr} {d : D} {pos : Pos} (hg : Gl X x) (hm : X.mg x = some (.ref a)) (hk : KTup X.K a d) (ne : a ≠ p) (hd : (x == ("__debug__" : Str)) = false := by decide) : PD X p (.Name x pos) (dC d) :=
  ⟨_, pe_glob (v := .ref a) hg hm rfl hd, fun σ H τ Q R rel h q => q _ _ H (.refl rel.pk) (hk p H ne) h⟩
/-- a built-in type as a value -/
theorem pd_ty {x : Str} {n : String} {pos : Pos} (hg : Gl X x) (hm : X.mg x = none) (hv : bootBuiltins x = some (.type n)) (hn : x ≠ "__name__" := by decide) (hd : (x == ("__debug__" : Str)) = false := by decide) : PD X p (.Name x pos) (dC (.ty n)) :=
  ⟨_, pe_bltn (v := .ty n) hg hm hv rfl hn hd, fun σ H τ Q R rel h q => q _ _ H (.refl rel.pk) (.ty n) h⟩

/-- the run of two expressions and an operation -/
theorem op_run {r : R2} {ta tb : TE} {g : D → D → (D → Prop) → Prop}
    (hr : ∀ (H : Hp) (x y : D) (v u : V) (Q : VK) (R : D → Prop), Pk p H → Is X.K p H v x → Is X.K p H u y → g x y R → (∀ z v' H', Ex p H H' → Is X.K p H' v' z → R z → Q v' H') → r v u H Q)
    (ka : ∀ (σ : St) (H : Hp) (τ : Sl) (Q : VK) (R : D → Prop), Rel X.K p σ H τ → da τ R → (∀ x v H', Ex p H H' → Is X.K p H' v x → R x → Q v H') → ta σ H Q)
    (kb : ∀ (σ : St) (H : Hp) (τ : Sl) (Q : VK) (R : D → Prop), Rel X.K p σ H τ → db τ R → (∀ x v H', Ex p H H' → Is X.K p H' v x → R x → Q v H') → tb σ H Q)
    (σ : St) (H : Hp) (τ : Sl) (Q : VK) (R : D → Prop) (rel : Rel X.K p σ H τ) (h : dOp g da db τ R) (q : ∀ x v H', Ex p H H' → Is X.K p H' v x → R x → Q v H') : tOp r ta tb σ H Q := by
  refine ka σ H τ _ _ rel h fun x v H1 e1 i1 h1 => ?_
  refine kb σ H1 τ _ _ (rel.ex e1) h1 fun y u H2 e2 i2 h2 => ?_
  exact hr H2 x y v u Q R e2.2 (i1.mono e2.1) i2 h2 fun z v' H' e3 i3 r3 => q z v' H' ((e1.trans e2).trans e3) i3 r3
theorem pd_bin {op : Operator} {g} (ho : OpD X p (binaryOp op) g) (ha : PD X p a da) (hb : PD X p b db) : PD X p (.BinOp a op b pos) (dOp g da db) := by
  obtain ⟨r, h1, h2⟩ := ho
  obtain ⟨ta, a1, a2⟩ := ha.run
  obtain ⟨tb, b1, b2⟩ := hb.run
  exact ⟨_, pe_op h1 a1 b1, op_run h2 a2 b2⟩
theorem pd_cmp {op : CmpOp} {g} (ho : OpD X p (compareOp op) g) (ha : PD X p a da) (hb : PD X p b db) (hm : behindInMarks op b = false := by first | exact nomark _ | rfl) : PD X p (.Compare a [op] [b] pos) (dOp g da db) := by
  obtain ⟨r, h1, h2⟩ := ho
  obtain ⟨ta, a1, a2⟩ := ha.run
  obtain ⟨tb, b1, b2⟩ := hb.run
  exact ⟨_, pe_cmpR h1 a1 b1 hm, op_run h2 a2 b2⟩
theorem tst_run {ta : TE} (ka : ∀ (σ : St) (H : Hp) (τ : Sl) (Q : VK) (R : D → Prop), Rel X.K p σ H τ → da τ R → (∀ x v H', Ex p H H' → Is X.K p H' v x → R x → Q v H') → ta σ H Q)
    (σ : St) (H : Hp) (τ : Sl) (Q : Bool → Hp → Prop) (R : Bool → Prop) (rel : Rel X.K p σ H τ) (h : dTst da τ R) (q : ∀ b H', Ex p H H' → R b → Q b H') : ta σ H fun x H' => ∃ k, x = .bl k ∧ Q k H' := by
  refine ka σ H τ _ _ rel h fun x v H1 e1 i1 h1 => ?_
  cases i1 with
  | bl b => exact ⟨b, rfl, q b H1 e1 h1⟩
  | _ => exact h1.elim
theorem pdt_cmp {op : CmpOp} {g} (ho : OpD X p (compareOp op) g) (ha : PD X p a da) (hb : PD X p b db) (hm : behindInMarks op b = false := by first | exact nomark _ | rfl) : PDT X p (.Compare a [op] [b] pos) (dTst (dOp g da db)) := by
  obtain ⟨r, h1, h2⟩ := ho
  obtain ⟨ta, a1, a2⟩ := ha.run
  obtain ⟨tb, b1, b2⟩ := hb.run
  exact ⟨_, pt_cmpR h1 a1 b1 hm, tst_run (op_run h2 a2 b2)⟩
theorem chain_run {r r' : R2} {ta tb tc : TE} {g g' : D → D → (D → Prop) → Prop}
    (hr : ∀ (H : Hp) (x y : D) (v u : V) (Q : VK) (R : D → Prop), Pk p H → Is X.K p H v x → Is X.K p H u y → g x y R → (∀ z v' H', Ex p H H' → Is X.K p H' v' z → R z → Q v' H') → r v u H Q)
    (hr' : ∀ (H : Hp) (x y : D) (v u : V) (Q : VK) (R : D → Prop), Pk p H → Is X.K p H v x → Is X.K p H u y → g' x y R → (∀ z v' H', Ex p H H' → Is X.K p H' v' z → R z → Q v' H') → r' v u H Q)
    (ka : ∀ (σ : St) (H : Hp) (τ : Sl) (Q : VK) (R : D → Prop), Rel X.K p σ H τ → da τ R → (∀ x v H', Ex p H H' → Is X.K p H' v x → R x → Q v H') → ta σ H Q)
    (kb : ∀ (σ : St) (H : Hp) (τ : Sl) (Q : VK) (R : D → Prop), Rel X.K p σ H τ → db τ R → (∀ x v H', Ex p H H' → Is X.K p H' v x → R x → Q v H') → tb σ H Q)
    (kc : ∀ (σ : St) (H : Hp) (τ : Sl) (Q : VK) (R : D → Prop), Rel X.K p σ H τ → dc τ R → (∀ x v H', Ex p H H' → Is X.K p H' v x → R x → Q v H') → tc σ H Q)
    (σ : St) (H : Hp) (τ : Sl) (Q : VK) (R : D → Prop) (rel : Rel X.K p σ H τ) (h : dChain g g' da db dc τ R) (q : ∀ x v H', Ex p H H' → Is X.K p H' v x → R x → Q v H') : tChain r r' ta tb tc σ H Q := by
  refine ka σ H τ _ _ rel h fun x v H1 e1 i1 h1 => ?_
  refine kb σ H1 τ _ _ (rel.ex e1) h1 fun y u H2 e2 i2 h2 => ?_
  refine hr H2 x y v u _ _ e2.2 (i1.mono e2.1) i2 h2 fun z v' H3 e3 i3 h3 => ?_
  cases i3 with
  | bl k =>
    refine ⟨k, rfl, ?_⟩
    cases k with
    | true =>
      rw [if_pos rfl]
      refine kc σ H3 τ _ _ (rel.ex ((e1.trans e2).trans e3)) h3 fun w u' H4 e4 i4 h4 => ?_
      exact hr' H4 y w u u' Q R e4.2 (i2.mono (e3.trans e4).1) i4 h4 fun z v' H' e5 i5 r5 => q z v' H' ((((e1.trans e2).trans e3).trans e4).trans e5) i5 r5
    | false =>
      rw [if_neg Bool.false_ne_true]
      exact q _ _ H3 ((e1.trans e2).trans e3) (.bl false) h3
  | _ => exact h3.elim
theorem pd_chain {op op' : CmpOp} {g g'} (ho : OpD X p (compareOp op) g) (ho' : OpD X p (compareOp op') g') (ha : PD X p a da) (hb : PD X p b db) (hc : PD X p c dc) (hm : lastMarks [op, op'] [b, c] = false := by with_unfolding_all rfl) : PD X p (.Compare a [op, op'] [b, c] pos) (dChain g g' da db dc) := by
  obtain ⟨r, h1, h2⟩ := ho
  obtain ⟨r', h1', h2'⟩ := ho'
  obtain ⟨ta, a1, a2⟩ := ha.run
  obtain ⟨tb, b1, b2⟩ := hb.run
  obtain ⟨tc, c1, c2⟩ := hc.run
  exact ⟨_, pe_chain h1 h1' a1 b1 c1 hm, chain_run h2 h2' a2 b2 c2⟩
theorem pdt_chain {op op' : CmpOp} {g g'} (ho : OpD X p (compareOp op) g) (ho' : OpD X p (compareOp op') g') (ha : PD X p a da) (hb : PD X p b db) (hc : PD X p c dc) (hm : lastMarks [op, op'] [b, c] = false := by with_unfolding_all rfl) : PDT X p (.Compare a [op, op'] [b, c] pos) (dTst (dChain g g' da db dc)) := by
  obtain ⟨r, h1, h2⟩ := ho
  obtain ⟨r', h1', h2'⟩ := ho'
  obtain ⟨ta, a1, a2⟩ := ha.run
  obtain ⟨tb, b1, b2⟩ := hb.run
  obtain ⟨tc, c1, c2⟩ := hc.run
  exact ⟨_, pt_chain h1 h1' a1 b1 c1 hm, tst_run (chain_run h2 h2' a2 b2 c2)⟩
/-- a value that is a bool, as a test -/
theorem pdt_val (ha : PD X p a da) (he : ∀ whole, isTrue a X.env whole = (do let v ← whole; standAt a.pos; holding [v] (truthy v)) := by intro _; rfl) : PDT X p a (dTst da) := by
  obtain ⟨ta, a1, a2⟩ := ha.run
  exact ⟨_, pt_val a1 he, tst_run a2⟩
variable {ta tb : DT} {rest : List Expr}
theorem pdw_t (h : PDW X p a ta) : PDT X p a ta := by
  obtain ⟨t, h1, h2⟩ := h.run
  exact ⟨t, h1.pt, h2⟩
theorem pdw_and1 (ha : PDT X p a ta) : PDW X p (.BoolOp .And [a] pos) ta := by
  obtain ⟨t, h1, h2⟩ := ha.run
  exact ⟨t, pw_and1 h1, h2⟩
theorem pdw_or1 (ha : PDT X p a ta) : PDW X p (.BoolOp .Or [a] pos) ta := by
  obtain ⟨t, h1, h2⟩ := ha.run
  exact ⟨t, pw_or1 h1, h2⟩
theorem pdw_and (ha : PDT X p a ta) (hb : PDW X p (.BoolOp .And (b :: rest) pos) tb) : PDW X p (.BoolOp .And (a :: b :: rest) pos) (dAnd ta tb) := by
  obtain ⟨t, h1, h2⟩ := ha.run
  obtain ⟨u, k1, k2⟩ := hb.run
  refine ⟨_, pw_and h1 k1, fun σ H τ Q R rel h q => ?_⟩
  refine h2 σ H τ _ _ rel h fun b H1 e1 h1 => ?_
  cases b with
  | true => exact k2 σ H1 τ Q R (rel.ex e1) h1 fun b H' e r => q b H' (e1.trans e) r
  | false => exact q false H1 e1 h1
theorem pdw_or (ha : PDT X p a ta) (hb : PDW X p (.BoolOp .Or (b :: rest) pos) tb) : PDW X p (.BoolOp .Or (a :: b :: rest) pos) (dOr ta tb) := by
  obtain ⟨t, h1, h2⟩ := ha.run
  obtain ⟨u, k1, k2⟩ := hb.run
  refine ⟨_, pw_or h1 k1, fun σ H τ Q R rel h q => ?_⟩
  refine h2 σ H τ _ _ rel h fun b H1 e1 h1 => ?_
  cases b with
  | false => exact k2 σ H1 τ Q R (rel.ex e1) h1 fun b H' e r => q b H' (e1.trans e) r
  | true => exact q true H1 e1 h1
theorem pdt_not (ha : PDT X p a ta) : PDT X p (.UnaryOp .Not a pos) (dNot ta) := by
  obtain ⟨t, h1, h2⟩ := ha.run
  exact ⟨_, pt_not h1, fun σ H τ Q R rel h q => h2 σ H τ _ _ rel h fun b H1 e1 h1 => q _ H1 e1 h1⟩
theorem pd_one {op} (h : PD X p a da) : PD X p (.BoolOp op [a] pos) da := by
  obtain ⟨t, h1, h2⟩ := h.run
  exact ⟨t, pe_one h1, h2⟩
theorem pd_and (ha : PD X p a da) (hb : PD X p (.BoolOp .And (b :: rest) pos) db) : PD X p (.BoolOp .And (a :: b :: rest) pos) (dAndV da db) := by
  obtain ⟨t, h1, h2⟩ := ha.run
  obtain ⟨u, k1, k2⟩ := hb.run
  refine ⟨_, pe_and h1 k1, fun σ H τ Q R rel h q => ?_⟩
  refine h2 σ H τ _ _ rel h fun x v H1 e1 i1 h1 => ?_
  cases i1 with
  | bl c =>
    refine ⟨c, rfl, ?_⟩
    cases c with
    | true => exact k2 σ H1 τ Q R (rel.ex e1) h1 fun x v H' e i r => q x v H' (e1.trans e) i r
    | false => exact q _ _ H1 e1 (.bl false) h1
  | _ => exact h1.elim
theorem pd_or (ha : PD X p a da) (hb : PD X p (.BoolOp .Or (b :: rest) pos) db) : PD X p (.BoolOp .Or (a :: b :: rest) pos) (dOrV da db) := by
  obtain ⟨t, h1, h2⟩ := ha.run
  obtain ⟨u, k1, k2⟩ := hb.run
  refine ⟨_, pe_or h1 k1, fun σ H τ Q R rel h q => ?_⟩
  refine h2 σ H τ _ _ rel h fun x v H1 e1 i1 h1 => ?_
  cases i1 with
  | bl c =>
    refine ⟨c, rfl, ?_⟩
    cases c with
    | false => exact k2 σ H1 τ Q R (rel.ex e1) h1 fun x v H' e i r => q x v H' (e1.trans e) i r
    | true => exact q _ _ H1 e1 (.bl true) h1
  | _ => exact h1.elim
theorem pd_not (ha : PD X p a da) : PD X p (.UnaryOp .Not a pos) (dNotV da) := by
  obtain ⟨t, h1, h2⟩ := ha.run
  refine ⟨_, pe_not h1, fun σ H τ Q R rel h q => ?_⟩
  refine h2 σ H τ _ _ rel h fun x v H1 e1 i1 h1 => ?_
  cases i1 with
  | bl c => exact ⟨c, rfl, q _ _ H1 e1 (.bl _) h1⟩
  | _ => exact h1.elim
theorem pd_ifx (hc : PDT X p c ta) (ha : PD X p a da) (hb : PD X p b db) : PD X p (.IfExp c a b pos) (dIf ta da db) := by
  obtain ⟨t, h1, h2⟩ := hc.run
  obtain ⟨u, k1, k2⟩ := ha.run
  obtain ⟨w, l1, l2⟩ := hb.run
  refine ⟨_, pe_ifExp h1 k1 l1, fun σ H τ Q R rel h q => ?_⟩
  refine h2 σ H τ _ _ rel h fun b H1 e1 h1 => ?_
  cases b with
  | true => exact k2 σ H1 τ Q R (rel.ex e1) h1 fun x v H' e i r => q x v H' (e1.trans e) i r
  | false => exact l2 σ H1 τ Q R (rel.ex e1) h1 fun x v H' e i r => q x v H' (e1.trans e) i r
theorem pd_un {op : UnaryOp} {g} (ho : UnD X p (unaryOp op) g) (ha : PD X p a da) : PD X p (.UnaryOp op a pos) (dUn g da) := by
  obtain ⟨r, h1, h2⟩ := ho
  obtain ⟨t, a1, a2⟩ := ha.run
  refine ⟨_, pe_un h1 a1, fun σ H τ Q R rel h q => ?_⟩
  refine a2 σ H τ _ _ rel h fun x v H1 e1 i1 h1 => ?_
  exact h2 H1 x v Q R e1.2 i1 h1 fun z v' H' e i r => q z v' H' (e1.trans e) i r
variable {es : List Expr} {ds : DA}
theorem pda_nil : PDA X p [] dNil := ⟨_, pa_nil, fun σ H τ Q R rel h q => q [] [] H (.refl rel.pk) .nil rfl h⟩
theorem pda_cons (ha : PD X p a da) (hr : PDA X p es ds) (hs : starEach (a :: es) X.env = (false, eval a X.env) :: starEach es X.env := by rfl) : PDA X p (a :: es) (dCons da ds) := by
  obtain ⟨t, h1, h2⟩ := ha.run
  obtain ⟨u, k1, k2⟩ := hr.run
  refine ⟨_, pa_cons h1 k1 hs, fun σ H τ Q R rel h q => ?_⟩
  refine h2 σ H τ _ _ rel h fun x v H1 e1 i1 h1 => ?_
  refine k2 σ H1 τ _ _ (rel.ex e1) h1 fun xs vs H2 e2 i2 l2 h2 => ?_
  exact q _ _ H2 (e1.trans e2) (.cons (i1.mono e2.1) i2) (by simp [l2]) h2
theorem pd_tup {k : Nat} (h : PDA X p es ds) (hl : es.length ≤ 1000 := by decide) : PD X p (.Tuple es k pos) (dTup ds) := by
  obtain ⟨t, h1, h2⟩ := h.run
  refine ⟨_, pe_tup h1, fun σ H τ Q R rel h q => ?_⟩
  refine h2 σ H τ _ _ rel h fun xs vs H1 e1 i1 l1 h1 => ⟨by rw [l1]; exact Nat.le_of_lt (small1000 hl), fun a ha => ?_⟩
  have e2 : Ex p H1 (upd H1 a (.tup vs)) := .new e1.2 ha
  exact q _ _ _ (e1.trans e2) (.tup (SqT.of upd_same) (e1.2.ne ha) (i1.mono e2.1)) h1
theorem pd_lst (h : PDA X p es ds) (hl : es.length ≤ 1000 := by decide) : PD X p (.List es pos) (dLst ds) := by
  obtain ⟨t, h1, h2⟩ := h.run
  refine ⟨_, pe_lst h1, fun σ H τ Q R rel h q => ?_⟩
  refine h2 σ H τ _ _ rel h fun xs vs H1 e1 i1 l1 h1 => ⟨by rw [l1]; exact Nat.le_of_lt (small1000 hl), fun a ha => ?_⟩
  have e2 : Ex p H1 (upd H1 a (.lst vs)) := .new e1.2 ha
  exact q _ _ _ (e1.trans e2) (.lst (SqL.of upd_same) (e1.2.ne ha) (i1.mono e2.1)) h1
/-- a built-in by its name -/
theorem pd_callB {x : Str} {p' : Pos} {e : Expr} {id : String} {g} (hc : CallD X p (.builtin id) g) (hg : Gl X x) (hm : X.mg x = none) (hv : bootBuiltins x = some (.builtin id)) (ha : PDA X p (e :: es) ds) (hn : x ≠ "__name__" := by decide) (hdb : (x == ("__debug__" : Str)) = false := by decide)
    (he : starEach (e :: es) X.env = (false, eval e X.env) :: starEach es X.env := by rfl) (hpl : (backTo pos (starEach es X.env)).any (·.1) = false := by rfl) : PD X p (.Call (.Name x p') (e :: es) [] pos) (dB g ds) := by
  obtain ⟨r, c1, c2⟩ := hc
  obtain ⟨t, h1, h2⟩ := ha.run
  refine ⟨_, pe_callB c1 hg hm hv h1 hn hdb he hpl, fun σ H τ Q R rel h q => ?_⟩
  refine h2 σ H τ _ _ rel h fun xs vs H1 e1 i1 l1 h1 => ?_
  exact c2 H1 xs vs Q R e1.2 i1 h1 fun z v' H' e i r => q z v' H' (e1.trans e) i r
theorem pd_callTy {x : Str} {p' : Pos} {e : Expr} {T : String} {g} (hc : CallD X p (.type T) g) (hg : Gl X x) (hm : X.mg x = none) (hv : bootBuiltins x = some (.type T)) (ha : PDA X p (e :: es) ds) (hn : x ≠ "__name__" := by decide) (hdb : (x == ("__debug__" : Str)) = false := by decide)
    (he : starEach (e :: es) X.env = (false, eval e X.env) :: starEach es X.env := by rfl) (hpl : (backTo pos (starEach es X.env)).any (·.1) = false := by rfl) : PD X p (.Call (.Name x p') (e :: es) [] pos) (dB g ds) := by
  obtain ⟨r, c1, c2⟩ := hc
  obtain ⟨t, h1, h2⟩ := ha.run
  refine ⟨_, pe_callTy c1 hg hm hv h1 hn hdb he hpl, fun σ H τ Q R rel h q => ?_⟩
  refine h2 σ H τ _ _ rel h fun xs vs H1 e1 i1 l1 h1 => ?_
  exact c2 H1 xs vs Q R e1.2 i1 h1 fun z v' H' e i r => q z v' H' (e1.trans e) i r
/-- a built-in of a module, imported by its name -/
theorem pd_callFun {x : Str} {p' : Pos} {e : Expr} {id : String} {g} (hc : CallD X p (.builtin id) g) (hg : Gl X x) (hm : X.mg x = some (.builtin id)) (ha : PDA X p (e :: es) ds) (hdb : (x == ("__debug__" : Str)) = false := by decide)
    (he : starEach (e :: es) X.env = (false, eval e X.env) :: starEach es X.env := by rfl) (hpl : (backTo pos (starEach es X.env)).any (·.1) = false := by rfl) : PD X p (.Call (.Name x p') (e :: es) [] pos) (dB g ds) := by
  obtain ⟨r, c1, c2⟩ := hc
  obtain ⟨t, h1, h2⟩ := ha.run
  refine ⟨_, pe_callBfun c1 hg hm h1 hdb he hpl, fun σ H τ Q R rel h q => ?_⟩
  refine h2 σ H τ _ _ rel h fun xs vs H1 e1 i1 l1 h1 => ?_
  exact c2 H1 xs vs Q R e1.2 i1 h1 fun z v' H' e i r => q z v' H' (e1.trans e) i r
end

/-! ### what a def promises -/
abbrev SpD := List D → (D → Prop) → Prop
def toSp (K : PySem.W.Frag) (n : Nat) (sp : SpD) : Sp := fun vs H Q _ => vs.length = n ∧ ∃ (p : Addr) (ds : List D) (R : D → Prop), Pk p H ∧ IsL K p H vs ds ∧ sp ds R ∧ ∀ x v H', Ex p H H' → Is K p H' v x → R x → Q v H'
section
variable {X : Cx} {p : Addr} {pos : Pos} {es : List Expr} {ds : DA} {k n : Nat} {f : Addr} {fd : FuncData} {ps : List Str} {sp : SpD}
theorem pd_call {x : Str} {p' : Pos} {e : Expr} (F : FnOk X.prog X.w X.K X.mg X.base CX0 k f fd ps (toSp X.K n sp)) (hr : Room k X.A) (hg : Gl X x) (hm : X.mg x = some (.ref f)) (hk : PySem.W.keepIn X.K (.ref f) = true) (hb : Binds X.K fd ps [])
    (ha : PDA X p (e :: es) ds) (hn : (e :: es).length = n := by rfl) (hdb : (x == ("__debug__" : Str)) = false := by decide) (he : starEach (e :: es) X.env = (false, eval e X.env) :: starEach es X.env := by rfl) (hpl : (backTo pos (starEach es X.env)).any (·.1) = false := by rfl) :
    PD X p (.Call (.Name x p') (e :: es) [] pos) (dB sp ds) := by
  obtain ⟨t, h1, h2⟩ := ha.run
  refine ⟨_, pe_call F hr hg hm hk hb .nil pass0 h1 hdb he hpl, fun σ H τ Q R rel h q => ?_⟩
  refine h2 σ H τ _ _ rel h fun xs vs H1 e1 i1 l1 h1 => ?_
  rw [List.append_nil]
  exact ⟨by rw [l1]; exact hn, p, xs, R, e1.2, i1, h1, fun z v' H' e i r => q z v' H' (e1.trans e) i r⟩
theorem pd_call0 {x : Str} {p' : Pos} (F : FnOk X.prog X.w X.K X.mg X.base CX0 k f fd ps (toSp X.K 0 sp)) (hr : Room k X.A) (hg : Gl X x) (hm : X.mg x = some (.ref f)) (hk : PySem.W.keepIn X.K (.ref f) = true) (hb : Binds X.K fd ps [])
    (hdb : (x == ("__debug__" : Str)) = false := by decide) : PD X p (.Call (.Name x p') [] [] pos) (dB sp dNil) := by
  refine ⟨_, pe_call0 F hr hg hm hk hb .nil pass0 hdb, fun σ H τ Q R rel h q => ?_⟩
  exact ⟨rfl, p, [], R, rel.pk, .nil, h, q⟩
end

/-! ### statements -/
structure DEn where
  nx : Sl → Prop
  rt : D → Prop
  bk : Sl → Prop := fun _ => False
  ct : Sl → Prop := fun _ => False
abbrev DS := DEn → Sl → Prop
structure Agree (K : PySem.W.Frag) (p : Addr) (H0 : Hp) (E' : DEn) (E : Ends) : Prop where
  nx : ∀ σ H τ, Ex p H0 H → Rel K p σ H τ → E'.nx τ → E.nx σ H
  rt : ∀ v H x, Ex p H0 H → Is K p H v x → E'.rt x → E.rt v H
  bk : ∀ σ H τ, Ex p H0 H → Rel K p σ H τ → E'.bk τ → E.bk σ H
  ct : ∀ σ H τ, Ex p H0 H → Rel K p σ H τ → E'.ct τ → E.ct σ H
structure PDS (X : Cx) (p : Addr) (st : Stmt) (d : DS) : Prop where
  run : ∃ t, PS X st t ∧ ∀ (H0 : Hp) (σ : St) (H : Hp) (τ : Sl) (E : Ends) (E' : DEn), Ex p H0 H → Rel X.K p σ H τ → d E' τ → Agree X.K p H0 E' E → t E σ H
structure PDSs (X : Cx) (p : Addr) (st : List Stmt) (d : DS) : Prop where
  run : ∃ t, PSs X st t ∧ ∀ (H0 : Hp) (σ : St) (H : Hp) (τ : Sl) (E : Ends) (E' : DEn), Ex p H0 H → Rel X.K p σ H τ → d E' τ → Agree X.K p H0 E' E → t E σ H
def dNext : DS := fun E τ => E.nx τ
def dSeq (t u : DS) : DS := fun E τ => t { E with nx := u E } τ
def dRet (d : DE) : DS := fun E τ => d τ E.rt
def dRetN : DS := fun E _ => E.rt .non
def dIfS (c : DT) (t u : DS) : DS := fun E τ => c τ fun b => if b = true then t E τ else u E τ
def dDrop (d : DE) : DS := fun E τ => d τ fun _ => E.nx τ
def dNever : DS := fun _ _ => False
abbrev DG := D → Sl → (Sl → Prop) → Prop
def dAsg (d : DE) (g : DG) : DS := fun E τ => d τ fun x => g x τ E.nx
structure PDG (X : Cx) (p : Addr) (tg : Expr) (g : DG) : Prop where
  run : ∃ t : TG, PG X tg t ∧ ∀ (v : V) (x : D) (σ : St) (H : Hp) (τ : Sl) (Q : St → Hp → Prop) (R : Sl → Prop), Rel X.K p σ H τ → Is X.K p H v x → g x τ R → (∀ σ' H' τ', Ex p H H' → Rel X.K p σ' H' τ' → R τ' → Q σ' H') → t v σ H Q
abbrev DGs := List D → Sl → (Sl → Prop) → Prop
structure PDGs (X : Cx) (p : Addr) (tgs : List Expr) (g : DGs) : Prop where
  run : ∃ t : TGs, PGs X tgs t ∧ ∀ (vs : List V) (xs : List D) (σ : St) (H : Hp) (τ : Sl) (Q : St → Hp → Prop) (R : Sl → Prop), Rel X.K p σ H τ → IsL X.K p H vs xs → g xs τ R → (∀ σ' H' τ', Ex p H H' → Rel X.K p σ' H' τ' → R τ' → Q σ' H') → t vs σ H Q
def gN (i : Nat) : DG := fun x τ R => R (τ.set i (some x))
def gNl : DGs := fun xs τ R => match xs with
  | [] => R τ
  | _ => False
def gCn (g : DG) (gs : DGs) : DGs := fun xs τ R => match xs with
  | x :: r => g x τ fun τ' => gs r τ' R
  | _ => False
def gTu (n : Nat) (gs : DGs) : DG := fun x τ R => match x with
  | .tup xs => xs.length = n ∧ gs xs τ R
  | _ => False
/-- pot[0] = .., pot[1] = .. -/
def gP0 (i : Nat) : DG := fun x τ R => match τ[i]?, x with
  | some (some .pot), .int a => 0 ≤ a ∧ R τ
  | _, _ => False
def gP1 (i : Nat) : DG := fun x τ R => match τ[i]?, x with
  | some (some .pot), .int a => (0 ≤ a ∧ a < 4294967296) ∧ R τ
  | _, _ => False
section
variable {X : Cx} {p : Addr} {pos : Pos} {st : Stmt} {rest : List Stmt} {t u : DS} {e : Expr} {d : DE}
theorem Agree.seq {K : PySem.W.Frag} {H0 : Hp} {E' : DEn} {E : Ends} (a : Agree K p H0 E' E) {n' : Sl → Prop} {n : St → Hp → Prop} (h : ∀ σ H τ, Ex p H0 H → Rel K p σ H τ → n' τ → n σ H) : Agree K p H0 { E' with nx := n' } { E with nx := n } := ⟨h, a.rt, a.bk, a.ct⟩
theorem pdss_nil : PDSs X p [] dNext := ⟨_, pss_nil, fun H0 σ H τ E E' ex rel h a => a.nx σ H τ ex rel h⟩
theorem pdss_cons (h1 : PDS X p st t) (h2 : PDSs X p rest u) : PDSs X p (st :: rest) (dSeq t u) := by
  obtain ⟨a, a1, a2⟩ := h1.run
  obtain ⟨b, b1, b2⟩ := h2.run
  refine ⟨_, pss_cons a1 b1, fun H0 σ H τ E E' ex rel h ag => ?_⟩
  exact a2 H0 σ H τ _ _ ex rel h (ag.seq fun σ' H' τ' ex' rel' h' => b2 H0 σ' H' τ' E E' ex' rel' h' ag)
theorem pdss_one (h1 : PDS X p st t) : PDSs X p [st] t := by
  obtain ⟨a, a1, a2⟩ := h1.run
  exact ⟨_, pss_one a1, a2⟩
theorem pds_never : PDS X p st dNever := ⟨_, ps_never, fun _ _ _ _ _ _ _ _ h _ => h.elim⟩
theorem pdss_never {sts : List Stmt} : PDSs X p sts dNever := ⟨_, pss_never, fun _ _ _ _ _ _ _ _ h _ => h.elim⟩
theorem pds_ret (he : PD X p e d) : PDS X p (.Return (some e) pos) (dRet d) := by
  obtain ⟨a, a1, a2⟩ := he.run
  exact ⟨_, ps_ret a1, fun H0 σ H τ E E' ex rel h ag => a2 σ H τ _ _ rel h fun x v H' e1 i1 r1 => ag.rt v H' x (ex.trans e1) i1 r1⟩
theorem pds_retN : PDS X p (.Return none pos) dRetN := ⟨_, ps_retN, fun H0 σ H τ E E' ex rel h ag => ag.rt .non H .non ex .non h⟩
theorem pds_expr (he : PD X p e d) (hs : swapsWith e none pos.line X.env = pure false := by rfl) : PDS X p (.Expr e pos) (dDrop d) := by
  obtain ⟨a, a1, a2⟩ := he.run
  exact ⟨_, ps_expr a1 hs, fun H0 σ H τ E E' ex rel h ag => a2 σ H τ _ _ rel h fun x v H' e1 i1 r1 => ag.nx σ H' τ (ex.trans e1) (rel.ex e1) r1⟩
theorem pds_doc {x j pos pos'} : PDS X p (.Expr (.Constant (.str x) j pos) pos') dNext := ⟨_, ps_doc, fun H0 σ H τ E E' ex rel h ag => ag.nx σ H τ ex rel h⟩
theorem pds_if {c : Expr} {a b : List Stmt} {tc : DT} (hc : PDT X p c tc) (ha : PDSs X p a t) (hb : PDSs X p b u) : PDS X p (.If c a b pos) (dIfS tc t u) := by
  obtain ⟨c0, c1, c2⟩ := hc.run
  obtain ⟨a0, a1, a2⟩ := ha.run
  obtain ⟨b0, b1, b2⟩ := hb.run
  refine ⟨_, ps_if c1 a1 b1, fun H0 σ H τ E E' ex rel h ag => ?_⟩
  refine c2 σ H τ _ _ rel h fun b H1 e1 h1 => ?_
  cases b with
  | true => exact a2 H0 σ H1 τ E E' (ex.trans e1) (rel.ex e1) h1 ag
  | false => exact b2 H0 σ H1 τ E E' (ex.trans e1) (rel.ex e1) h1 ag
theorem pds_set {i : Nat} {x : Str} {pos' : Pos} (hN : X.N.Nodup) (hi : X.N[i]? = some x) (hx : Loc X.env.scope x) (he : PD X p e d) (hs : swapsWith e (some (.Name x pos')) pos.line X.env = pure false := by rfl) (hf : X.fn x = true ∨ X.env.scope.names.lookup x = some .local := by first | exact .inl rfl | exact .inr rfl | assumption) :
    PDS X p (.Assign [.Name x pos'] e pos) (dAsg d (gN i)) := by
  obtain ⟨a, a1, a2⟩ := he.run
  refine ⟨_, ps_set hN hi hx a1 hs hf, fun H0 σ H τ E E' ex rel h ag => ?_⟩
  exact a2 σ H τ _ _ rel h fun x v H' e1 i1 r1 => ag.nx _ H' _ (ex.trans e1) ((rel.ex e1).set i1) r1
theorem pdg_name {i : Nat} {x : Str} (hN : X.N.Nodup) (hi : X.N[i]? = some x) (hx : Loc X.env.scope x) (hf : X.fn x = true ∨ X.env.scope.names.lookup x = some .local := by first | exact .inl rfl | exact .inr rfl | assumption) : PDG X p (.Name x pos) (gN i) :=
  ⟨_, pg_name hN hi hx hf, fun v x σ H τ Q R rel i1 h q => q _ H _ (.refl rel.pk) (rel.set i1) h⟩
theorem pdgs_nil : PDGs X p [] gNl := by
  refine ⟨_, pgs_nil, fun vs xs σ H τ Q R rel i1 h q => ?_⟩
  cases i1 with
  | nil => exact ⟨rfl, q σ H τ (.refl rel.pk) rel h⟩
  | cons _ _ => exact h.elim
theorem pdgs_cons {es : List Expr} {g : DG} {gs : DGs} (h1 : PDG X p e g) (h2 : PDGs X p es gs) (hs : (assignEach (e :: es) X.env).map (·.2) = assign e X.env :: (assignEach es X.env).map (·.2) := by rfl) : PDGs X p (e :: es) (gCn g gs) := by
  obtain ⟨a, a1, a2⟩ := h1.run
  obtain ⟨b, b1, b2⟩ := h2.run
  refine ⟨_, pgs_cons a1 b1 hs, fun vs xs σ H τ Q R rel i1 h q => ?_⟩
  cases i1 with
  | nil => exact h.elim
  | cons i1 i2 =>
    refine ⟨_, _, rfl, a2 _ _ σ H τ _ _ rel i1 h fun σ' H' τ' e1 rel1 h1 => ?_⟩
    exact b2 _ _ σ' H' τ' _ _ rel1 (i2.mono e1.1) h1 fun σ2 H2 τ2 e2 rel2 r2 => q σ2 H2 τ2 (e1.trans e2) rel2 r2
theorem pdg_tup {es : List Expr} {k n : Nat} {gs : DGs} (hc : X.calm = true) (h : PDGs X p es gs) (hn : (assignEach es X.env).length = n := by rfl) (hst : (assignEach es X.env).findIdx? (·.1) = none := by rfl) : PDG X p (.Tuple es k pos) (gTu n gs) := by
  obtain ⟨a, a1, a2⟩ := h.run
  refine ⟨_, pg_tup hc a1 hn hst, fun v x σ H τ Q R rel i1 h q => ?_⟩
  cases i1 with
  | tup s ne il =>
    obtain ⟨hl, h⟩ := h
    exact ⟨_, _, rfl, s, by rw [il.len]; exact hl, a2 _ _ σ H τ _ _ rel il h q⟩
  | _ => exact h.elim
theorem Ex.pot {H : Hp} {a b : Int} (h0 : 0 ≤ a) (h1 : 0 ≤ b) (h2 : b < 4294967296) : Ex p H (upd H p (.lst [.int a, .int b])) :=
  ⟨fun c o n e => by rw [upd_ne n]; exact e, a, b, h0, h1, h2, upd_same⟩
theorem pdg_p0 {i : Nat} {o ix : Expr} (hi : X.N[i]? = X.N[i]?) (ho : PD X p o (dVar i)) (hx : PD X p ix (dC (.int 0)))
    (ha : ∀ v, assign (.Subscript o ix pos) X.env v = (do
      let ov ← holding [v] (eval o X.env)
      let iv ← holding [v, ov] (eval ix X.env)
      standAt pos
      holding [v, ov, iv] (setItem ov iv v)
      release [v, ov, iv] []) := by intro _; rfl) : PDG X p (.Subscript o ix pos) (gP0 i) := by
  obtain ⟨a, a1, a2⟩ := ho.run
  obtain ⟨b, b1, b2⟩ := hx.run
  refine ⟨_, pg_sub a1 b1 set_list ha, fun v x σ H τ Q R rel i1 h q => ?_⟩
  unfold gP0 at h
  split at h
  · rename_i z hz
    obtain ⟨h0, hR⟩ := h
    refine a2 σ H τ _ (fun d => d = .pot) rel (by unfold dVar; rw [hz]) fun d ov H1 e1 j1 hd => ?_
    subst hd
    refine b2 σ H1 τ _ (fun d => d = .int 0) (rel.ex e1) rfl fun d iv H2 e2 j2 hd => ?_
    subst hd
    cases j1
    cases j2
    cases i1
    obtain ⟨x, y, p0, p1, p2, hp⟩ := e2.2
    refine ⟨p, _, 0, 0, rfl, rfl, hp, rfl, ?_⟩
    have e3 : Ex p H2 (upd H2 p (.lst ([V.int x, V.int y].set 0 (V.int z)))) := .pot h0 p1 p2
    exact q σ _ τ ((e1.trans e2).trans e3) (rel.ex ((e1.trans e2).trans e3)) hR
  · exact h.elim
theorem pdg_p1 {i : Nat} {o ix : Expr} (hi : X.N[i]? = X.N[i]?) (ho : PD X p o (dVar i)) (hx : PD X p ix (dC (.int 1)))
    (ha : ∀ v, assign (.Subscript o ix pos) X.env v = (do
      let ov ← holding [v] (eval o X.env)
      let iv ← holding [v, ov] (eval ix X.env)
      standAt pos
      holding [v, ov, iv] (setItem ov iv v)
      release [v, ov, iv] []) := by intro _; rfl) : PDG X p (.Subscript o ix pos) (gP1 i) := by
  obtain ⟨a, a1, a2⟩ := ho.run
  obtain ⟨b, b1, b2⟩ := hx.run
  refine ⟨_, pg_sub a1 b1 set_list ha, fun v x σ H τ Q R rel i1 h q => ?_⟩
  unfold gP1 at h
  split at h
  · rename_i z hz
    obtain ⟨⟨h0, h1⟩, hR⟩ := h
    refine a2 σ H τ _ (fun d => d = .pot) rel (by unfold dVar; rw [hz]) fun d ov H1 e1 j1 hd => ?_
    subst hd
    refine b2 σ H1 τ _ (fun d => d = .int 1) (rel.ex e1) rfl fun d iv H2 e2 j2 hd => ?_
    subst hd
    cases j1
    cases j2
    cases i1
    obtain ⟨x, y, p0, p1, p2, hp⟩ := e2.2
    refine ⟨p, _, 1, 1, rfl, rfl, hp, rfl, ?_⟩
    have e3 : Ex p H2 (upd H2 p (.lst ([V.int x, V.int y].set 1 (V.int z)))) := .pot p0 h0 h1
    exact q σ _ τ ((e1.trans e2).trans e3) (rel.ex ((e1.trans e2).trans e3)) hR
  · exact h.elim
theorem pds_asg {tg : Expr} {g : DG} (he : PD X p e d) (hg : PDG X p tg g) (hs : swapsWithSole [tg] e pos.line X.env = pure false := by rfl) (hw : swappedStores [tg] e X.env = pure none := by rfl)
    (h1 : (assignEach [tg] X.env).map (·.2) = [assign tg X.env] := by rfl) : PDS X p (.Assign [tg] e pos) (dAsg d g) := by
  obtain ⟨a, a1, a2⟩ := he.run
  obtain ⟨b, b1, b2⟩ := hg.run
  refine ⟨_, ps_asg a1 b1 hs hw h1, fun H0 σ H τ E E' ex rel h ag => ?_⟩
  refine a2 σ H τ _ _ rel h fun x v H1 e1 i1 r1 => ?_
  exact b2 v x σ H1 τ _ _ (rel.ex e1) i1 r1 fun σ' H' τ' e2 rel2 r2 => ag.nx σ' H' τ' ((ex.trans e1).trans e2) rel2 r2
def dPar (i j : Nat) (t : DA) : DS := fun E τ => t τ fun xs => match xs with
  | [x, y] => E.nx ((τ.set i (some x)).set j (some y))
  | _ => False
theorem pds_par {i j : Nat} {x y : Str} {a b : Expr} {ta : DA} {px py pt : Pos} {kt k2 pt2} (hc : X.calm = true) (hN : X.N.Nodup) (hi : X.N[i]? = some x) (hj : X.N[j]? = some y) (hij : i ≠ j)
    (hx : X.env.scope.names.lookup x = some .local) (hy : X.env.scope.names.lookup y = some .local) (ha : PDA X p [a, b] ta)
    (hw : swappedStores [.Tuple [.Name x px, .Name y py] kt pt] (.Tuple [a, b] k2 pt2) X.env = pure (some [x, y]))
    (hs : swapsWithSole [.Tuple [.Name x px, .Name y py] kt pt] (.Tuple [a, b] k2 pt2) pos.line X.env = pure false := by rfl) :
    PDS X p (.Assign [.Tuple [.Name x px, .Name y py] kt pt] (.Tuple [a, b] k2 pt2) pos) (dPar i j ta) := by
  obtain ⟨a, a1, a2⟩ := ha.run
  refine ⟨_, ps_par hc hN hi hj hij hx hy a1 hw hs, fun H0 σ H τ E E' ex rel h ag => ?_⟩
  refine a2 σ H τ _ _ rel h fun xs vs H1 e1 i1 l1 r1 => ?_
  cases i1 with
  | nil => exact r1.elim
  | cons i1 i2 =>
    cases i2 with
    | nil => exact r1.elim
    | cons i2 i3 =>
      cases i3 with
      | nil => exact ⟨_, _, rfl, ag.nx _ H1 _ (ex.trans e1) (((rel.ex e1).set i1).set i2) r1⟩
      | cons _ _ => exact r1.elim
end
end DL
/-! Operators, built-ins, walks over the data layer. -/
namespace DL
open PySem PySem.Spec L2

/-! ### operators -/
def gII (g : Int → Int → D) : D → D → (D → Prop) → Prop := fun x y R => match x, y with
  | .int i, .int j => R (g i j)
  | _, _ => False
def gIIc (C : Int → Int → Prop) (g : Int → Int → D) : D → D → (D → Prop) → Prop := fun x y R => match x, y with
  | .int i, .int j => C i j ∧ R (g i j)
  | _, _ => False
section
variable {X : Cx} {p : Addr}
/-- a rule of HandS on two ints -/
theorem opd_I0 {f : Value → Value → Sem Value} {gv : Int → Int → V} {g : Int → Int → D} (h : OpR X f (rI0 gv)) (hg : ∀ i j H, Is X.K p H (gv i j) (g i j)) : OpD X p f (gII g) := by
  refine ⟨_, h, fun H x y v u Q R pk ix iy hh q => ?_⟩
  cases ix with
  | int i =>
    cases iy with
    | int j => exact ⟨i, j, rfl, rfl, q _ _ H (.refl pk) (hg i j H) hh⟩
    | _ => exact hh.elim
  | _ => exact hh.elim
theorem opd_I {f : Value → Value → Sem Value} {C C' : Int → Int → Prop} {gv : Int → Int → V} {g : Int → Int → D} (h : OpR X f (rI C gv)) (hc : ∀ i j, C' i j → C i j) (hg : ∀ i j H, C' i j → Is X.K p H (gv i j) (g i j)) : OpD X p f (gIIc C' g) := by
  refine ⟨_, h, fun H x y v u Q R pk ix iy hh q => ?_⟩
  cases ix with
  | int i =>
    cases iy with
    | int j => exact ⟨i, j, rfl, rfl, hc i j hh.1, q _ _ H (.refl pk) (hg i j H hh.1) hh.2⟩
    | _ => exact hh.elim
  | _ => exact hh.elim
/-- a + b: ints, tuples -/
def gAdd : D → D → (D → Prop) → Prop := fun x y R => match x, y with
  | .int i, .int j => R (.int (i + j))
  | .tup l, .tup m => l.length + m.length ≤ 1000000 ∧ R (.tup (l ++ m))
  | _, _ => False
theorem opd_add : OpD X p (binaryOp .Add) gAdd := by
  refine ⟨_, op_add.or op_catA, fun H x y v u Q R pk ix iy hh q => ?_⟩
  cases ix with
  | int i =>
    cases iy with
    | int j => exact .inl ⟨i, j, rfl, rfl, q _ _ H (.refl pk) (.int _) hh⟩
    | _ => exact hh.elim
  | @tup a vs l hs hn hl =>
    cases iy with
    | @tup b ws m hs' hn' hl' =>
      have h1 := hl.len
      have h2 := hl'.len
      refine .inr ⟨a, b, vs, ws, rfl, rfl, hs, hs', ?_, fun e => ?_, fun _ e => ?_, fun _ _ c hc => ?_⟩
      · have : sizeLine = 16777216 := sizeLine_eq
        have := hh.1
        omega
      · subst e
        cases hl
        exact q _ _ H (.refl pk) (.tup hs' hn' hl') hh.2
      · subst e
        cases hl'
        exact q _ _ H (.refl pk) (.tup hs hn hl) (by simpa using hh.2)
      · have e := Ex.new (o := .tup (vs ++ ws)) pk hc
        exact q _ _ _ e (.tup (SqT.of upd_same) (pk.ne hc) ((hl.mono e.1).app (hl'.mono e.1))) hh.2
    | _ => exact hh.elim
  | _ => exact hh.elim
abbrev gSub := gII fun i j => .int (i - j)
theorem opd_sub : OpD X p (binaryOp .Sub) gSub := opd_I0 op_sub fun _ _ _ => .int _
/-- a product: one side within 2 ^ 64, or both within 2 ^ 8192 -/
def MulC (i j : Int) : Prop := IntMulOk i j
theorem MulC.left {i j : Int} (h0 : -18446744073709551616 < i) (h1 : i < 18446744073709551616) : MulC i j := CMul.ok (.inl ⟨h0, h1⟩)
theorem MulC.right {i j : Int} (h0 : -18446744073709551616 < j) (h1 : j < 18446744073709551616) : MulC i j := CMul.ok (.inr ⟨h0, h1⟩)
theorem MulC.wide {i j : Int} (h0 : -1606938044258990275541962092341162602522202993782792835301376 < i) (h1 : i < 1606938044258990275541962092341162602522202993782792835301376) (h2 : -1606938044258990275541962092341162602522202993782792835301376 < j) (h3 : j < 1606938044258990275541962092341162602522202993782792835301376) : MulC i j := by
  have e : (2 : Nat) ^ 200 = 1606938044258990275541962092341162602522202993782792835301376 := by decide +kernel
  exact CMulW.ok (wide_mul (a := 200) (b := 200) (by rw [e]; omega) (by rw [e]; omega) (by decide) (by decide) (by decide))
abbrev gMul := gIIc MulC fun i j => .int (i * j)
theorem opd_mul : OpD X p (binaryOp .Mult) gMul :=
  opd_I (C := MulC) (X := X) (gv := fun i j => .int (i * j)) (opI fun _ _ _ _ _ _ _ hc q => PyProof.Rows.mul_int q hc) (fun _ _ h => h) fun _ _ _ _ => .int _
/-- a divisor within bounds -/
def BD (j : Int) : Prop := 0 < j ∧ j < 2 ^ 512
theorem BD.of {j : Int} (h0 : 0 < j) (h1 : j < 1606938044258990275541962092341162602522202993782792835301376) : BD j := by
  have e : (1606938044258990275541962092341162602522202993782792835301376 : Int) ≤ 2 ^ 512 := by decide +kernel
  exact ⟨h0, Int.lt_of_lt_of_le h1 e⟩
abbrev gDiv := gIIc (fun _ j => BD j) fun i j => .int (i / j)
theorem opd_div : OpD X p (binaryOp .FloorDiv) gDiv :=
  opd_I op_fdivW (fun i j h => wide_div (b := 512) h.1 (by have h1 := h.1; have h2 := h.2; omega) (by decide) (by decide)) fun _ _ _ _ => .int _
abbrev gMod := gIIc (fun _ j => 0 < j) fun i j => .int (i % j)
theorem opd_mod : OpD X p (binaryOp .Mod) gMod := opd_I op_mod (fun _ _ h => h) fun _ _ _ _ => .int _
abbrev gPow := gIIc (fun i j => 0 ≤ j ∧ j ≤ 1000000 ∧ -(2 ^ 64) < i ∧ i < 2 ^ 64) fun i j => .int (i ^ j.toNat)
theorem opd_pow : OpD X p (binaryOp .Pow) gPow := opd_I op_pow (fun i j h => ⟨h.1, h.2.1, by have h1 := h.2.2.1; have h2 := h.2.2.2; omega⟩) fun _ _ _ _ => .int _
theorem opd_lt : OpD X p (compareOp .Lt) (gII fun i j => .bl (decide (i < j))) := opd_I0 op_lt fun _ _ _ => .bl _
theorem opd_le : OpD X p (compareOp .LtE) (gII fun i j => .bl (decide (i ≤ j))) := opd_I0 op_le fun _ _ _ => .bl _
theorem opd_gt : OpD X p (compareOp .Gt) (gII fun i j => .bl (decide (j < i))) := opd_I0 op_gt fun _ _ _ => .bl _
theorem opd_ge : OpD X p (compareOp .GtE) (gII fun i j => .bl (decide (j ≤ i))) := opd_I0 op_ge fun _ _ _ => .bl _

/-! ### data as PyData -/
mutual
def toP : D → PyData
  | .non => .none
  | .bl b => .bool b
  | .int i => .int i
  | .str x => .str x
  | .ty _ => .none
  | .pot => .none
  | .tup l => .tuple (toPs l)
  | .lst l => .list (toPs l)
def toPs : List D → List PyData
  | [] => []
  | d :: l => toP d :: toPs l
end
mutual
def pure? : D → Bool
  | .ty _ => false
  | .pot => false
  | .tup l => pures? l
  | .lst l => pures? l
  | _ => true
def pures? : List D → Bool
  | [] => true
  | d :: l => pure? d && pures? l
end
theorem Is.dp {K : PySem.W.Frag} {H : Hp} {v : V} {d : D} (h : Is K p H v d) : pure? d = true → Dp K H v (toP d) :=
  Is.rec (motive_1 := fun v d _ => pure? d = true → Dp K H v (toP d)) (motive_2 := fun vs l _ => pures? l = true → DpAll K H vs (toPs l))
    (fun _ => .non) (fun b _ => .bl b) (fun i _ => .int i) (fun x _ => .str x) (fun _ z => nomatch z)
    (fun h _ _ ih z => .tup h (ih z)) (fun h _ _ ih z => .lst h (ih z)) (fun z => nomatch z) (fun _ => .nil)
    (fun _ _ i1 i2 z => by
      have z' := Bool.and_eq_true_iff.mp z
      exact .cons (i1 z'.1) (i2 z'.2)) h
-- no text, type or pot in it; at most so deep
mutual
def shp : Nat → D → Bool
  | _, .non => true
  | _, .bl _ => true
  | _, .int _ => true
  | n + 1, .tup l => shps n l
  | n + 1, .lst l => shps n l
  | _, _ => false
def shps : Nat → List D → Bool
  | _, [] => true
  | n, d :: l => shp n d && shps n l
end
theorem shp_all : ∀ (n : Nat), (∀ d : D, shp n d = true → pure? d = true ∧ (toP d).canLay0 = true ∧ (toP d).depth ≤ n ∧ (toP d).hasDict = false) ∧
    ∀ l : List D, shps n l = true → pures? l = true ∧ PyData.canLayAll0 (toPs l) = true ∧ PyData.depthAll (toPs l) ≤ n ∧ PyData.hasDictAll (toPs l) = false := by
  have lists : ∀ n, (∀ d : D, shp n d = true → pure? d = true ∧ (toP d).canLay0 = true ∧ (toP d).depth ≤ n ∧ (toP d).hasDict = false) →
      ∀ l : List D, shps n l = true → pures? l = true ∧ PyData.canLayAll0 (toPs l) = true ∧ PyData.depthAll (toPs l) ≤ n ∧ PyData.hasDictAll (toPs l) = false := by
    intro n h l
    induction l with
    | nil => intro _; exact ⟨by simp [pures?], by simp [toPs, PyData.canLayAll0], by simp [toPs, PyData.depthAll], by simp [toPs, PyData.hasDictAll]⟩
    | cons d l ih =>
      intro hl
      rw [shps, Bool.and_eq_true] at hl
      obtain ⟨a1, a2, a3, a4⟩ := h d hl.1
      obtain ⟨b1, b2, b3, b4⟩ := ih hl.2
      refine ⟨by simp [pures?, a1, b1], by simp [toPs, PyData.canLayAll0, a2, b2], ?_, by simp [toPs, PyData.hasDictAll, a4, b4]⟩
      simp only [toPs, PyData.depthAll]
      omega
  intro n
  induction n with
  | zero =>
    have one : ∀ d : D, shp 0 d = true → pure? d = true ∧ (toP d).canLay0 = true ∧ (toP d).depth ≤ 0 ∧ (toP d).hasDict = false := by
      intro d hd
      cases d <;> simp [shp] at hd <;> simp [pure?, toP, PyData.canLay0, PyData.depth, PyData.hasDict]
    exact ⟨one, lists 0 one⟩
  | succ n ih =>
    have one : ∀ d : D, shp (n + 1) d = true → pure? d = true ∧ (toP d).canLay0 = true ∧ (toP d).depth ≤ n + 1 ∧ (toP d).hasDict = false := by
      intro d hd
      cases d with
      | tup l =>
        obtain ⟨b1, b2, b3, b4⟩ := ih.2 l (by simpa [shp] using hd)
        exact ⟨by simp [pure?, b1], by simp [toP, PyData.canLay0, b2], by simp only [toP, PyData.depth]; omega, by simp [toP, PyData.hasDict, b4]⟩
      | lst l =>
        obtain ⟨b1, b2, b3, b4⟩ := ih.2 l (by simpa [shp] using hd)
        exact ⟨by simp [pure?, b1], by simp [toP, PyData.canLay0, b2], by simp only [toP, PyData.depth]; omega, by simp [toP, PyData.hasDict, b4]⟩
      | _ => simp [shp] at hd <;> simp [pure?, toP, PyData.canLay0, PyData.depth, PyData.hasDict]
    exact ⟨one, lists (n + 1) one⟩
theorem shp_shaped {d : D} (h : shp 60 d = true) : pure? d = true ∧ SeqAt.shaped (toP d) = true := by
  obtain ⟨h1, h2, h3, _⟩ := (shp_all 60).1 d h
  exact ⟨h1, by unfold SeqAt.shaped; rw [h2, decide_eq_true (Nat.le_trans h3 (by decide))]; rfl⟩
/-- x == y: scalars exactly; data by eqv -/
def gEq : D → D → (D → Prop) → Prop := fun x y R => match x, y with
  | .int i, .int j => R (.bl (decide (i = j)))
  | .str i, .str j => R (.bl (decide (i = j)))
  | .bl i, .bl j => R (.bl (decide (i = j)))
  | x, y => (shp 60 x = true ∧ shp 60 y = true) ∧ R (.bl (PyData.eqv (toP x) (toP y)))
def gNe : D → D → (D → Prop) → Prop := fun x y R => match x, y with
  | .int i, .int j => R (.bl (!decide (i = j)))
  | .str i, .str j => R (.bl (!decide (i = j)))
  | .bl i, .bl j => R (.bl (!decide (i = j)))
  | x, y => (shp 60 x = true ∧ shp 60 y = true) ∧ R (.bl (!PyData.eqv (toP x) (toP y)))
theorem opd_eq (hu : X.A.units + 64 < cLine) : OpD X p (compareOp .Eq) gEq := by
  refine ⟨_, op_eq.or (op_eqD hu), fun H x y v u Q R pk ix iy hh q => ?_⟩
  unfold gEq at hh
  split at hh
  · cases ix
    cases iy
    exact .inl ⟨rfl, by simpa using q _ _ H (.refl pk) (.bl _) hh⟩
  · cases ix
    cases iy
    exact .inl ⟨rfl, by simpa using q _ _ H (.refl pk) (.bl _) hh⟩
  · cases ix
    cases iy
    exact .inl ⟨rfl, by simpa using q _ _ H (.refl pk) (.bl _) hh⟩
  · obtain ⟨⟨h1, h2⟩, h5⟩ := hh
    exact .inr ⟨_, _, ix.dp (shp_shaped h1).1, iy.dp (shp_shaped h2).1, (shp_shaped h1).2, (shp_shaped h2).2, q _ _ H (.refl pk) (.bl _) h5⟩
theorem opd_ne (hu : X.A.units + 64 < cLine) : OpD X p (compareOp .NotEq) gNe := by
  refine ⟨_, op_ne.or (op_neD hu), fun H x y v u Q R pk ix iy hh q => ?_⟩
  unfold gNe at hh
  split at hh
  · cases ix
    cases iy
    exact .inl ⟨rfl, by simpa using q _ _ H (.refl pk) (.bl _) hh⟩
  · cases ix
    cases iy
    exact .inl ⟨rfl, by simpa using q _ _ H (.refl pk) (.bl _) hh⟩
  · cases ix
    cases iy
    exact .inl ⟨rfl, by simpa using q _ _ H (.refl pk) (.bl _) hh⟩
  · obtain ⟨⟨h1, h2⟩, h5⟩ := hh
    exact .inr ⟨_, _, ix.dp (shp_shaped h1).1, iy.dp (shp_shaped h2).1, (shp_shaped h1).2, (shp_shaped h2).2, q _ _ H (.refl pk) (.bl _) h5⟩
def isNon : D → Bool
  | .non => true
  | _ => false
theorem opd_isN : OpD X p (compareOp .Is) (fun x y R => match y with | .non => R (.bl (isNon x)) | _ => False) := by
  refine ⟨_, op_isN, fun H x y v u Q R pk ix iy hh q => ?_⟩
  cases iy with
  | non =>
    refine ⟨rfl, ?_⟩
    have e : decide (v = V.non) = isNon x := by cases ix <;> rfl
    rw [e]
    exact q _ _ H (.refl pk) (.bl _) hh
  | _ => exact hh.elim
theorem opd_notN : OpD X p (compareOp .IsNot) (fun x y R => match y with | .non => R (.bl (!isNon x)) | _ => False) := by
  refine ⟨_, op_notN, fun H x y v u Q R pk ix iy hh q => ?_⟩
  cases iy with
  | non =>
    refine ⟨rfl, ?_⟩
    have e : decide (v = V.non) = isNon x := by cases ix <;> rfl
    rw [e]
    exact q _ _ H (.refl pk) (.bl _) hh
  | _ => exact hh.elim
def gNeg : D → (D → Prop) → Prop := fun x R => match x with
  | .int i => R (.int (-i))
  | _ => False
theorem und_neg : UnD X p (unaryOp .USub) gNeg := by
  refine ⟨_, un_neg, fun H x v Q R pk ix hh q => ?_⟩
  cases ix with
  | int i => exact ⟨i, rfl, q _ _ H (.refl pk) (.int _) hh⟩
  | _ => exact hh.elim

/-! ### subscripts -/
/-- the item at a place -/
def atD (l : List D) (i : Int) : Option D := if 0 ≤ i then l[i.toNat]? else if -(l.length : Int) ≤ i then l[(i + (l.length : Int)).toNat]? else none
theorem atD_at {l : List D} {i : Int} {d : D} (h : atD l i = some d) : L2.atI l i = some d := by
  unfold atD at h
  unfold L2.atI ixN
  by_cases h0 : 0 ≤ i
  · rw [if_pos h0] at h ⊢
    have hl : i.toNat < l.length := (List.getElem?_eq_some_iff.mp h).1
    rw [if_pos (show i < (l.length : Int) by omega)]
    exact h
  · rw [if_neg h0] at h ⊢
    by_cases h1 : -(l.length : Int) ≤ i
    · rw [if_pos h1] at h ⊢
      exact h
    · rw [if_neg h1] at h
      cases h
/-- x[i]: a tuple, a list, the pot -/
def gIx : D → D → (D → Prop) → Prop := fun x y R => match x, y with
  | .tup l, .int i => match atD l i with
    | some d => R d
    | none => False
  | .lst l, .int i => match atD l i with
    | some d => R d
    | none => False
  | .pot, .int i => if i = 0 then ∀ a, 0 ≤ a → R (.int a) else i = 1 ∧ ∀ a, 0 ≤ a → a < 4294967296 → R (.int a)
  | _, _ => False
theorem IsL.atI {K : PySem.W.Frag} {H : Hp} {vs : List V} {l : List D} {i : Int} {d : D} (h : IsL K p H vs l) (e : L2.atI l i = some d) : ∃ v, L2.atI vs i = some v ∧ Is K p H v d := by
  unfold L2.atI at e ⊢
  rw [h.len]
  cases q : ixN l.length i with
  | none => rw [q] at e; cases e
  | some j =>
    rw [q] at e
    exact h.getD e
theorem pd_ix {a b : Expr} {da db : DE} {pos : Pos} (ha : PD X p a da) (hb : PD X p b db) (hs : PlainIx b := by exact fun _ _ => rfl) : PD X p (.Subscript a b pos) (dOp gIx da db) := by
  obtain ⟨ta, a1, a2⟩ := ha.run
  obtain ⟨tb, b1, b2⟩ := hb.run
  refine ⟨_, pe_ix ix_seq a1 b1 hs, op_run (fun H x y v u Q R pk ix iy hh q => ?_) a2 b2⟩
  unfold gIx at hh
  split at hh
  · cases iy
    cases ix with
    | tup hs hn hl =>
      split at hh
      · rename_i d e
        obtain ⟨w, e1, e2⟩ := hl.atI (atD_at e)
        exact .inr (.inl ⟨_, _, _, w, rfl, rfl, hs, e1, q _ _ H (.refl pk) e2 hh⟩)
      · exact hh.elim
  · cases iy
    cases ix with
    | lst hs hn hl =>
      split at hh
      · rename_i d e
        obtain ⟨w, e1, e2⟩ := hl.atI (atD_at e)
        exact .inl ⟨_, _, _, w, rfl, rfl, hs, e1, q _ _ H (.refl pk) e2 hh⟩
      · exact hh.elim
  · cases iy
    cases ix
    obtain ⟨m, n, p0, p1, p2, hp⟩ := id pk
    split at hh
    · rename_i e0
      subst e0
      exact .inl ⟨p, _, 0, .int m, rfl, rfl, SqL.of hp, rfl, q _ _ H (.refl pk) (.int m) (hh m p0)⟩
    · obtain ⟨rfl, hh⟩ := hh
      exact .inl ⟨p, _, 1, .int n, rfl, rfl, SqL.of hp, rfl, q _ _ H (.refl pk) (.int n) (hh n p1 p2)⟩
  · exact hh.elim

/-! ### built-ins -/
def cLen : List D → (D → Prop) → Prop := fun xs R => match xs with
  | [.tup l] => R (.int l.length)
  | [.lst l] => R (.int l.length)
  | _ => False
theorem cd_len : CallD X p (.builtin "len") cLen := by
  refine ⟨_, call_len_seq, fun H xs vs Q R pk ix hh q => ?_⟩
  unfold cLen at hh
  split at hh
  · cases ix with
    | cons i1 i2 =>
      cases i2
      cases i1 with
      | tup hs hn hl => exact ⟨_, _, rfl, .inr hs, by rw [hl.len]; exact q _ _ H (.refl pk) (.int _) hh⟩
  · cases ix with
    | cons i1 i2 =>
      cases i2
      cases i1 with
      | lst hs hn hl => exact ⟨_, _, rfl, .inl hs, by rw [hl.len]; exact q _ _ H (.refl pk) (.int _) hh⟩
  · exact hh.elim
def cI1 (g : Int → D) : List D → (D → Prop) → Prop := fun xs R => match xs with
  | [.int i] => R (g i)
  | _ => False
def cI2 (C : Int → Int → Prop) (g : Int → Int → D) : List D → (D → Prop) → Prop := fun xs R => match xs with
  | [.int i, .int j] => C i j ∧ R (g i j)
  | _ => False
theorem cI1_of {f : Value} {r : List V → Hp → VK → Prop} {g : Int → D} (hr : CallR X f r) (h : ∀ i H Q, Pk p H → (∀ v' H', Ex p H H' → Is X.K p H' v' (g i) → Q v' H') → r [.int i] H Q) : CallD X p f (cI1 g) := by
  refine ⟨_, hr, fun H xs vs Q R pk ix hh q => ?_⟩
  unfold cI1 at hh
  split at hh
  · cases ix with
    | cons i1 i2 =>
      cases i2
      cases i1
      exact h _ H Q pk fun v' H' e i => q _ v' H' e i hh
  · exact hh.elim
theorem cI2_of {f : Value} {r : List V → Hp → VK → Prop} {C : Int → Int → Prop} {g : Int → Int → D} (hr : CallR X f r) (h : ∀ i j H Q, C i j → Pk p H → (∀ v' H', Ex p H H' → Is X.K p H' v' (g i j) → Q v' H') → r [.int i, .int j] H Q) : CallD X p f (cI2 C g) := by
  refine ⟨_, hr, fun H xs vs Q R pk ix hh q => ?_⟩
  unfold cI2 at hh
  split at hh
  · cases ix with
    | cons i1 i2 =>
      cases i2 with
      | cons i2 i3 =>
        cases i3
        cases i1
        cases i2
        exact h _ _ H Q hh.1 pk fun v' H' e i => q _ v' H' e i hh.2
  · exact hh.elim
theorem cd_abs : CallD X p (.builtin "abs") (cI1 fun i => .int (i.natAbs : Int)) := cI1_of call_abs fun i H Q pk q => ⟨i, rfl, by
  have e : (if i < 0 then -i else i) = (i.natAbs : Int) := by split <;> omega
  rw [e]
  exact q _ H (.refl pk) (.int _)⟩
theorem cd_int : CallD X p (.type "int") (cI1 fun i => .int i) := cI1_of call_int1 fun i H Q pk q => .inl ⟨i, rfl, q _ H (.refl pk) (.int _)⟩
theorem cd_divmod : CallD X p (.builtin "divmod") (cI2 (fun _ j => BD j) fun i j => .tup [.int (i / j), .int (i % j)]) := cI2_of call_divmodW fun i j H Q hc pk q => by
  refine ⟨i, j, rfl, ⟨hc.1, ?_⟩, fun a ha => ?_⟩
  · have hj : j.natAbs.log2 < 512 := PySem.Flt.log2_lt_of (by decide) (by have h1 := hc.1; have h2 := hc.2; omega)
    show (decide ((if j == 0 then 0 else j.natAbs.log2 / 30 + 1) > 300) && _) = false
    rw [decide_eq_false (by split <;> omega), Bool.false_and]
  · have e := Ex.new (o := .tup [.int (i / j), .int (i % j)]) pk ha
    exact q _ _ e (.tup (SqT.of upd_same) (pk.ne ha) (.cons (.int _) (.cons (.int _) .nil)))
/-- max, min: two ints, a list of ints -/
def intsOf : List D → Option (List Int)
  | [] => some []
  | .int i :: l => (intsOf l).map (i :: ·)
  | _ => none
theorem intsOf_eq : ∀ {l : List D} {ns : List Int}, intsOf l = some ns → l = ns.map D.int
  | [], ns, h => by cases h; rfl
  | .int i :: l, ns, h => by
    unfold intsOf at h
    cases q : intsOf l with
    | none => rw [q] at h; cases h
    | some ms =>
      rw [q] at h
      cases h
      rw [intsOf_eq q]
      rfl
def boolsOf : List D → Option (List Bool)
  | [] => some []
  | .bl i :: l => (boolsOf l).map (i :: ·)
  | _ => none
theorem boolsOf_eq : ∀ {l : List D} {ns : List Bool}, boolsOf l = some ns → l = ns.map D.bl
  | [], ns, h => by cases h; rfl
  | .bl i :: l, ns, h => by
    unfold boolsOf at h
    cases q : boolsOf l with
    | none => rw [q] at h; cases h
    | some ms =>
      rw [q] at h
      cases h
      rw [boolsOf_eq q]
      rfl
def maxL : Int → List Int → Int
  | a, [] => a
  | a, b :: l => maxL (max a b) l
def minL : Int → List Int → Int
  | a, [] => a
  | a, b :: l => minL (min a b) l
theorem maxL_ge : ∀ (l : List Int) (a : Int), a ≤ maxL a l ∧ ∀ y ∈ l, y ≤ maxL a l
  | [], a => ⟨Int.le_refl _, fun y h => by cases h⟩
  | b :: l, a => by
    obtain ⟨h1, h2⟩ := maxL_ge l (max a b)
    refine ⟨by show a ≤ maxL (max a b) l; omega, fun y hy => ?_⟩
    rcases List.mem_cons.mp hy with e | e
    · subst e
      show y ≤ maxL (max a y) l
      omega
    · exact h2 y e
theorem maxL_mem : ∀ (l : List Int) (a : Int), maxL a l = a ∨ maxL a l ∈ l
  | [], a => .inl rfl
  | b :: l, a => by
    show maxL (max a b) l = a ∨ maxL (max a b) l ∈ b :: l
    rcases maxL_mem l (max a b) with e | e
    · rw [e]
      by_cases h : a ≤ b
      · exact .inr (by rw [Int.max_eq_right h]; exact List.mem_cons_self)
      · exact .inl (Int.max_eq_left (by omega))
    · exact .inr (List.mem_cons_of_mem _ e)
theorem minL_le : ∀ (l : List Int) (a : Int), minL a l ≤ a ∧ ∀ y ∈ l, minL a l ≤ y
  | [], a => ⟨Int.le_refl _, fun y h => by cases h⟩
  | b :: l, a => by
    obtain ⟨h1, h2⟩ := minL_le l (min a b)
    refine ⟨by show minL (min a b) l ≤ a; omega, fun y hy => ?_⟩
    rcases List.mem_cons.mp hy with e | e
    · subst e
      show minL (min a y) l ≤ y
      omega
    · exact h2 y e
theorem minL_mem : ∀ (l : List Int) (a : Int), minL a l = a ∨ minL a l ∈ l
  | [], a => .inl rfl
  | b :: l, a => by
    show minL (min a b) l = a ∨ minL (min a b) l ∈ b :: l
    rcases minL_mem l (min a b) with e | e
    · rw [e]
      by_cases h : a ≤ b
      · exact .inl (Int.min_eq_left h)
      · exact .inr (by rw [Int.min_eq_right (by omega)]; exact List.mem_cons_self)
    · exact .inr (List.mem_cons_of_mem _ e)
def cMax : List D → (D → Prop) → Prop := fun xs R => match xs with
  | [.int i, .int j] => R (.int (max i j))
  | [.lst l] => match intsOf l with
    | some (n :: ns) => R (.int (maxL n ns))
    | _ => False
  | _ => False
def cMin : List D → (D → Prop) → Prop := fun xs R => match xs with
  | [.int i, .int j] => R (.int (min i j))
  | [.lst l] => match intsOf l with
    | some (n :: ns) => R (.int (minL n ns))
    | _ => False
  | _ => False
theorem cd_max (hc : X.calm = true) : CallD X p (.builtin "max") cMax := by
  refine ⟨_, (call_max2 hc).or (cr_max hc), fun H xs vs Q R pk ix hh q => ?_⟩
  unfold cMax at hh
  split at hh
  · rename_i i j
    cases ix with
    | cons i1 i2 =>
      cases i2 with
      | cons i2 i3 =>
        cases i3
        cases i1
        cases i2
        have e : (if j > i then j else i) = max i j := by split <;> omega
        exact .inl ⟨i, j, rfl, by rw [e]; exact q _ _ H (.refl pk) (.int _) hh⟩
  · split at hh
    · rename_i l n ns e
      cases ix with
      | cons i1 i2 =>
        cases i2
        cases i1 with
        | lst hs hn hl =>
          rw [intsOf_eq e] at hl
          rw [hl.ints] at hs
          refine .inr ⟨_, n :: ns, rfl, hs, by simp, fun m hm hall => ?_⟩
          have em : m = maxL n ns := by
            have h1 : m ≤ maxL n ns := by
              rcases List.mem_cons.mp hm with e | e
              · rw [e]; exact (maxL_ge ns n).1
              · exact (maxL_ge ns n).2 m e
            have h2 : maxL n ns ≤ m := hall _ (by
              rcases maxL_mem ns n with e | e
              · rw [e]; exact List.mem_cons_self
              · exact List.mem_cons_of_mem _ e)
            omega
          subst em
          exact q _ _ H (.refl pk) (.int _) hh
    · exact hh.elim
  · exact hh.elim
theorem cd_min (hc : X.calm = true) : CallD X p (.builtin "min") cMin := by
  refine ⟨_, (call_min2 hc).or (cr_min hc), fun H xs vs Q R pk ix hh q => ?_⟩
  unfold cMin at hh
  split at hh
  · rename_i i j
    cases ix with
    | cons i1 i2 =>
      cases i2 with
      | cons i2 i3 =>
        cases i3
        cases i1
        cases i2
        have e : (if j < i then j else i) = min i j := by split <;> omega
        exact .inl ⟨i, j, rfl, by rw [e]; exact q _ _ H (.refl pk) (.int _) hh⟩
  · split at hh
    · rename_i l n ns e
      cases ix with
      | cons i1 i2 =>
        cases i2
        cases i1 with
        | lst hs hn hl =>
          rw [intsOf_eq e] at hl
          rw [hl.ints] at hs
          refine .inr ⟨_, n :: ns, rfl, hs, by simp, fun m hm hall => ?_⟩
          have em : m = minL n ns := by
            have h1 : minL n ns ≤ m := by
              rcases List.mem_cons.mp hm with e | e
              · rw [e]; exact (minL_le ns n).1
              · exact (minL_le ns n).2 m e
            have h2 : m ≤ minL n ns := hall _ (by
              rcases minL_mem ns n with e | e
              · rw [e]; exact List.mem_cons_self
              · exact List.mem_cons_of_mem _ e)
            omega
          subst em
          exact q _ _ H (.refl pk) (.int _) hh
    · exact hh.elim
  · exact hh.elim
def cAll : List D → (D → Prop) → Prop := fun xs R => match xs with
  | [.lst l] => match boolsOf l with
    | some bs => R (.bl (bs.all id))
    | _ => False
  | _ => False
def cAny : List D → (D → Prop) → Prop := fun xs R => match xs with
  | [.lst l] => match boolsOf l with
    | some bs => R (.bl (bs.any id))
    | _ => False
  | _ => False
theorem cd_all (hc : X.calm = true) : CallD X p (.builtin "all") cAll := by
  refine ⟨_, cr_all hc, fun H xs vs Q R pk ix hh q => ?_⟩
  unfold cAll at hh
  split at hh
  · split at hh
    · rename_i l bs e
      cases ix with
      | cons i1 i2 =>
        cases i2
        cases i1 with
        | lst hs hn hl =>
          rw [boolsOf_eq e] at hl
          rw [hl.bools] at hs
          exact ⟨_, bs, rfl, hs, q _ _ H (.refl pk) (.bl _) hh⟩
    · exact hh.elim
  · exact hh.elim
theorem cd_any (hc : X.calm = true) : CallD X p (.builtin "any") cAny := by
  refine ⟨_, cr_any hc, fun H xs vs Q R pk ix hh q => ?_⟩
  unfold cAny at hh
  split at hh
  · split at hh
    · rename_i l bs e
      cases ix with
      | cons i1 i2 =>
        cases i2
        cases i1 with
        | lst hs hn hl =>
          rw [boolsOf_eq e] at hl
          rw [hl.bools] at hs
          exact ⟨_, bs, rfl, hs, q _ _ H (.refl pk) (.bl _) hh⟩
    · exact hh.elim
  · exact hh.elim
end
end DL
/-! Defs where no repr is under way; their calls; the end of a law. -/
namespace DL
open PySem PySem.Spec L2
open PyProof.Rows hiding St

/-- a def's promise where no container is being shown -/
structure FnG (P : Program) (w : World) (K : PySem.W.Frag) (mg : Str → Option Value) (base : Heap) (CX : CXT) (k : Nat) (f : Addr) (fd : FuncData) (ps : List Str) (sp : Sp) : Prop where
  len : ∀ vs H Q E, sp vs H Q E → vs.length = ps.length
  go : ∀ (A : Around) (outer : List Env) (s : Shared) (H : Hp) (args : Args) (us : List Value) (vs : List V) (Q : VK) (E : XK), A.guards = some [] → Room k A → Env0 P w K mg base A outer s H →
    BindsTo s fd args (ps.zip us) → Vals vs us → sp vs H Q E → codeAny (model P w) A (.call (.ref f) args) (CR CX outer P w H s Q E) s
section
variable {P : Program} {w : World} {K : PySem.W.Frag} {mg : Str → Option Value} {base : Heap} {CX : CXT} {k : Nat} {f : Addr} {fd : FuncData} {ps : List Str} {sp : Sp}
theorem FnG.weak {j : Nat} (F : FnG P w K mg base CX k f fd ps sp) (h : k ≤ j) : FnG P w K mg base CX j f fd ps sp :=
  ⟨F.len, fun A outer s H args us vs Q E g r => F.go A outer s H args us vs Q E g (r.mono h)⟩
/-- from the body -/
theorem funG {x qual : Str} {st : Stmt} {N : List Str} (F : Fun K x qual st f fd) (S : FnScope N ps (defScope st)) (hlen : ∀ vs H Q E, sp vs H Q E → vs.length = ps.length)
    (body : ∀ (cdv : Value) (A : Around) (outer : List Env) (s : Shared) (H : Hp) (vs : List V) (Q : VK) (E : XK), A.guards = some [] → (∀ a o, K.lookup a = some o → H a = none) → Room k (A.deeper (envOfC qual (defScope st) s.heap.objs.size f cdv)) → sp vs H Q E →
      ∃ t, PSs (cxOf CX P w K mg base N qual (defScope st) f cdv A outer s H E) (defBody st) t ∧ t { nx := fun _ H' => Q .non H', rt := Q } (L2.start N vs) H) : FnG P w K mg base CX (k + 1) f fd ps sp := by
  obtain ⟨oc, od, kV, doc, pm, an, cdv, ct, osl, rfl, lk, hcd⟩ := F.ex
  refine ⟨hlen, fun A outer s H args us vs Q E hg room ev bnd rel prom => ?_⟩
  have inK : K.In s.heap := ev.mod.kin.keeps fun b o q => And.left (ev.bs b o q)
  have lims : s.heap.NoLimit := ev.mod.nolimit.keeps fun b o q => And.left (ev.bs b o q)
  have kinds : ∀ y ∈ ps.zip us, (defScope st).names.lookup y.1 = some .local ∨ ((defScope st).names.lookup y.1 = some .cell ∧ ((cellsFrom (s.heap.objs.size + 1) (defScope st).names []).lookup y.1).isSome = true) := by
    rintro ⟨n, v⟩ hy
    exact (S.par n (And.left (List.of_mem_zip hy))).elim .inl fun q => .inr ⟨q, PySem.W.cellsFrom_some _ _ _ (Or.inl q)⟩
  refine codeAny_call_function room.depth (inK f _ lk) rfl S.co S.gen rfl (PySem.W.codeRec_of inK hcd) (bnd _ _ _ _ (wpAny_newFunctionEnv_cells S.kind kinds ?_))
  intro env0 hE s1 ent
  subst hE
  refine ⟨lims.keeps ent.toInCall.keep, codeAny_func ?_⟩
  obtain ⟨t, ht, q⟩ := body cdv A outer s H vs Q E hg (fun a o lo => (ev.bs a o (ev.mod.kin a o lo)).2) (room.deeper _) prom
  have J := inv_start (CX := CX) (N := N) (E := E) S room.hd ev (hlen _ _ _ _ prom) rel ent
  refine wpAny_mono (ht.run [] s1 (L2.start N vs) H _ J q) ?_ fun _ _ z => z
  rintro (_ | u | _ | _) s' ho
  · obtain ⟨σ', H', J', q'⟩ := ho
    exact ⟨V.non, H', J'.os, J'.bare, J'.base, J'.hok, rfl, q'⟩
  · first
      | (obtain ⟨_, _, _, z⟩ := ho; exact (show False from z).elim)
      | (obtain ⟨v, σ', H', J', rv, q'⟩ := ho; exact ⟨v, H', J'.os, J'.bare, J'.base, J'.hok, rv, q'⟩)
  · first
      | (obtain ⟨_, _, _, z⟩ := ho; exact (show False from z).elim)
      | (obtain ⟨v, σ', H', J', rv, q'⟩ := ho; exact ⟨v, H', J'.os, J'.bare, J'.base, J'.hok, rv, q'⟩)
  · first
      | (obtain ⟨_, _, _, z⟩ := ho; exact (show False from z).elim)
      | (obtain ⟨v, σ', H', J', rv, q'⟩ := ho; exact ⟨v, H', J'.os, J'.bare, J'.base, J'.hok, rv, q'⟩)
end

/-- how written arguments (us, and ws by the names ks) come to the parameters -/
def BindK (K : PySem.W.Frag) (fd : FuncData) (ps ks : List Str) (n : Nat) (perm : List Nat) : Prop :=
  ∀ (s : Shared) (us ws : List Value), K.In s.heap → us.length = n → ws.length = ks.length → ∃ zs : List Value, BindsTo s fd ⟨us, ks.zip ws⟩ (ps.zip zs) ∧ zs.length = ps.length ∧ perm.length = ps.length ∧ ∀ (i j : Nat), perm[i]? = some j → zs[i]? = (us ++ ws)[j]? ∧ j < (us ++ ws).length
section
variable {X : Cx} {CX : CXT} {k n : Nat} {f : Addr} {fd : FuncData} {ps ks : List Str} {sp : Sp} {E : XK} {x : Str} {q pos : Pos} {e : Expr} {es : List Expr} {kws : List Keyword} {t tk : TA}
/-- the callee runs -/
theorem goG {pins : List (Addr × Obj)} {σ : L2.St} {H : Hp} {s : Shared} {Q : VK} {args : Args} {us : List Value} {vs : List V} (F : FnG X.prog X.w X.K X.mg X.base CX k f fd ps sp) (hg : X.A.guards = some []) (hr : Room k X.A) (hx : Passes CX X E)
    (I : Inv X pins σ H s) (hb : BindsTo s fd args (ps.zip us)) (r : Vals vs us) (h : sp vs H Q E) : wpAny (model X.prog X.w) X.A (call (.ref f) args.pos args.kw) (EP X pins σ Q) X.xe s := by
  refine wpAny_call (codeAny_mono (F.go X.A X.stack s H args us vs Q E hg hr I.env0 hb r h) ?_)
  intro res s' out
  match res, out with
  | .error v, o => exact hx pins σ H s v s' I o
  | .ok (.ret u), o => exact I.after o
  | .ok .next, o => exact False.elim o
  | .ok .brk, o => exact False.elim o
  | .ok .cont, o => exact False.elim o
theorem pe_callG (F : FnG X.prog X.w X.K X.mg X.base CX k f fd ps sp) (hgu : X.A.guards = some []) (hr : Room k X.A) (hx : Passes CX X E) (hg : Gl X x) (hm : X.mg x = some (.ref f)) (hk : PySem.W.keepIn X.K (.ref f) = true) (hb : Binds X.K fd ps [])
    (ha : PA X (e :: es) t) (hdb : (x == ("__debug__" : Str)) = false := by decide) (he : starEach (e :: es) X.env = (false, eval e X.env) :: starEach es X.env := by rfl) (hpl : (backTo pos (starEach es X.env)).any (·.1) = false := by rfl) :
    PE X (.Call (.Name x q) (e :: es) [] pos) (fun σ H Q => t σ H fun vs H1 => sp vs H1 Q E) := by
  refine ⟨fun pins s σ H Q I h => wpAny_Call_Name_kw (ld_glob I hg hm ?_ hdb)⟩
  refine PySem.W.callWith_K (h₀ := X.base) I.ok.mod.kin hk (thn (ha.run pos pins s σ H _ I h) ?_) he hpl
  rintro us s1 ⟨vs, H1, I1, r, z⟩
  have hl : (us ++ []).length = ps.length := by rw [List.append_nil, ← r.length]; exact F.len _ _ _ _ z
  have b := hb s1 us I1.kIn hl
  rw [List.append_nil] at b
  exact ⟨I1.kIn, goG (args := ⟨us, []⟩) F hgu hr hx I1 b r z⟩
theorem pe_callG0 (F : FnG X.prog X.w X.K X.mg X.base CX k f fd ps sp) (hgu : X.A.guards = some []) (hr : Room k X.A) (hx : Passes CX X E) (hg : Gl X x) (hm : X.mg x = some (.ref f)) (hk : PySem.W.keepIn X.K (.ref f) = true) (hb : Binds X.K fd ps [])
    (hdb : (x == ("__debug__" : Str)) = false := by decide) : PE X (.Call (.Name x q) [] [] pos) (fun _ H Q => sp [] H Q E) := by
  refine ⟨fun pins s σ H Q I z => wpAny_Call_Name_kw (ld_glob I hg hm ?_ hdb)⟩
  have hl : (([] : List Value) ++ []).length = ps.length := F.len _ _ _ _ z
  exact PySem.W.callWith_K0 I.kIn hk (goG (args := ⟨[], []⟩) F hgu hr hx I (hb s [] I.kIn hl) .nil z)
/-- the arguments put in the parameters' order -/
def ordV (perm : List Nat) (vs : List V) : List V := perm.map fun j => vs.getD j .non
theorem ordV_rel {perm : List Nat} {vs : List V} {us zs : List Value} (r : Vals vs us) (hl : perm.length = zs.length) (h : ∀ (i j : Nat), perm[i]? = some j → zs[i]? = us[j]? ∧ j < us.length) : Vals (ordV perm vs) zs := by
  unfold ordV
  induction perm generalizing zs with
  | nil =>
    cases zs with
    | nil => exact .nil
    | cons _ _ => simp at hl
  | cons j perm ih =>
    cases zs with
    | nil => simp at hl
    | cons z zs =>
      refine .cons ?_ (ih (by simpa using hl) fun i j' e => by simpa using h (i + 1) j' (by simpa using e))
      obtain ⟨h1, h2⟩ := h 0 j rfl
      obtain ⟨u, hu⟩ : ∃ u, us[j]? = some u := ⟨us[j], by simp [h2]⟩
      have e1 : z = u := by
        rw [hu] at h1
        simpa using h1
      have h3 : j < vs.length := by rw [r.length]; exact h2
      obtain ⟨u', g1, g2⟩ := r.get (i := j) (x := vs[j]) (by simp [h3])
      rw [hu] at g1
      cases g1
      rw [e1]
      show RelV (vs.getD j .non) u
      rw [List.getD_eq_getElem?_getD, List.getElem?_eq_getElem h3]
      exact g2
theorem pe_callGK (F : FnG X.prog X.w X.K X.mg X.base CX k f fd ps sp) (hgu : X.A.guards = some []) (hr : Room k X.A) (hx : Passes CX X E) (hg : Gl X x) (hm : X.mg x = some (.ref f)) (hk : PySem.W.keepIn X.K (.ref f) = true) {perm : List Nat} (hb : BindK X.K fd ps ks (es.length + 1) perm)
    (ha : PA X (e :: es) t) (hkw : PK X kws tk) (hall : (backToKw pos (keywordEach kws X.env)).all (·.1.isSome) = true := by rfl) (hks : (backToKw pos (keywordEach kws X.env)).filterMap (·.1) = ks := by rfl)
    (hdb : (x == ("__debug__" : Str)) = false := by decide) (he : starEach (e :: es) X.env = (false, eval e X.env) :: starEach es X.env := by rfl)
    (hpl : ((backTo pos (starEach (e :: es) X.env)).any (·.1) || (backToKw pos (keywordEach kws X.env)).any (·.1.isNone)) = false := by rfl) :
    PE X (.Call (.Name x q) (e :: es) kws pos) (fun σ H Q => t σ H fun vs H1 => tk σ H1 fun ws H2 => vs.length = es.length + 1 ∧ ws.length = ks.length ∧ sp (ordV perm (vs ++ ws)) H2 Q E) := by
  refine ⟨fun pins s σ H Q I h => wpAny_Call_Name_kw (ld_glob I hg hm ?_ hdb)⟩
  refine PySem.W.callWith_KW (h₀ := X.base) I.ok.mod.kin hk hall (thn (ha.run pos pins s σ H _ I h) ?_) hpl he
  rintro us s1 ⟨vs, H1, I1, r, h⟩
  refine thn (hkw.run pos pins s1 σ H1 _ I1 h) ?_
  rintro ws s2 ⟨zs, H2, I2, r2, l1, l2, z⟩
  rw [hks]
  obtain ⟨os, b1, b2, b3, b4⟩ := hb s2 us ws I2.kIn (by rw [← r.length]; exact l1) (by rw [← r2.length]; exact l2)
  exact ⟨I2.kIn, goG (args := ⟨us, ks.zip ws⟩) F hgu hr hx I2 b1 (ordV_rel (r.append r2) (by rw [b3, b2]) b4) z⟩
theorem pe_callGK0 (F : FnG X.prog X.w X.K X.mg X.base CX k f fd ps sp) (hgu : X.A.guards = some []) (hr : Room k X.A) (hx : Passes CX X E) (hg : Gl X x) (hm : X.mg x = some (.ref f)) (hk : PySem.W.keepIn X.K (.ref f) = true) {perm : List Nat} (hb : BindK X.K fd ps ks 0 perm)
    (hkw : PK X kws tk) (hall : (backToKw pos (keywordEach kws X.env)).all (·.1.isSome) = true := by rfl) (hks : (backToKw pos (keywordEach kws X.env)).filterMap (·.1) = ks := by rfl)
    (hdb : (x == ("__debug__" : Str)) = false := by decide)
    (hpl : ((backTo pos (starEach [] X.env)).any (·.1) || (backToKw pos (keywordEach kws X.env)).any (·.1.isNone)) = false := by rfl) :
    PE X (.Call (.Name x q) [] kws pos) (fun σ H Q => tk σ H fun ws H2 => ws.length = ks.length ∧ sp (ordV perm ws) H2 Q E) := by
  refine ⟨fun pins s σ H Q I h => wpAny_Call_Name_kw (ld_glob I hg hm ?_ hdb)⟩
  refine PySem.W.callWith_KW0 (h₀ := X.base) I.ok.mod.kin hk hall (thn (hkw.run pos pins s σ H _ I h) ?_) hpl
  rintro ws s2 ⟨zs, H2, I2, r2, l2, z⟩
  rw [hks]
  obtain ⟨os, b1, b2, b3, b4⟩ := hb s2 [] ws I2.kIn rfl (by rw [← r2.length]; exact l2)
  exact ⟨I2.kIn, goG (args := ⟨[], ks.zip ws⟩) F hgu hr hx I2 b1 (ordV_rel r2 (by rw [b3, b2]) b4) z⟩
end

/-! ### the same on data -/
section
variable {X : Cx} {p : Addr} {pos q : Pos} {e : Expr} {es : List Expr} {kws : List Keyword} {ds dk : DA} {k n : Nat} {f : Addr} {fd : FuncData} {ps ks : List Str} {sp : SpD} {x : Str}
theorem pdc (F : FnG X.prog X.w X.K X.mg X.base CX0 k f fd ps (toSp X.K n sp)) (hgu : X.A.guards = some []) (hr : Room k X.A) (hm : X.mg x = some (.ref f)) (hk : PySem.W.keepIn X.K (.ref f) = true) (hb : Binds X.K fd ps [])
    (ha : PDA X p (e :: es) ds) (hg : Gl X x := by rfl) (hn : (e :: es).length = n := by rfl) (hdb : (x == ("__debug__" : Str)) = false := by decide) (he : starEach (e :: es) X.env = (false, eval e X.env) :: starEach es X.env := by rfl) (hpl : (backTo pos (starEach es X.env)).any (·.1) = false := by rfl) :
    PD X p (.Call (.Name x q) (e :: es) [] pos) (dB sp ds) := by
  obtain ⟨t, h1, h2⟩ := ha.run
  refine ⟨_, pe_callG F hgu hr pass0 hg hm hk hb h1 hdb he hpl, fun σ H τ Q R rel h q => ?_⟩
  refine h2 σ H τ _ _ rel h fun xs vs H1 e1 i1 l1 h1 => ?_
  exact ⟨by rw [l1]; exact hn, p, xs, R, e1.2, i1, h1, fun z v' H' e i r => q z v' H' (e1.trans e) i r⟩
theorem pdc0 (F : FnG X.prog X.w X.K X.mg X.base CX0 k f fd ps (toSp X.K 0 sp)) (hgu : X.A.guards = some []) (hr : Room k X.A) (hm : X.mg x = some (.ref f)) (hk : PySem.W.keepIn X.K (.ref f) = true) (hb : Binds X.K fd ps [])
    (hg : Gl X x := by rfl) (hdb : (x == ("__debug__" : Str)) = false := by decide) : PD X p (.Call (.Name x q) [] [] pos) (dB sp dNil) := by
  refine ⟨_, pe_callG0 F hgu hr pass0 hg hm hk hb hdb, fun σ H τ Q R rel h q => ?_⟩
  exact ⟨rfl, p, [], R, rel.pk, .nil, h, q⟩
structure PDK (X : Cx) (p : Addr) (kws : List Keyword) (d : DA) : Prop where
  run : ∃ t, PK X kws t ∧ ∀ (σ : L2.St) (H : Hp) (τ : Sl) (Q : List V → Hp → Prop) (R : List D → Prop), Rel X.K p σ H τ → d τ R → (∀ xs vs H', Ex p H H' → IsL X.K p H' vs xs → vs.length = kws.length → R xs → Q vs H') → t σ H Q
theorem pdk_nil : PDK X p [] dNil := ⟨_, pk_nil, fun σ H τ Q R rel h q => q [] [] H (.refl rel.pk) .nil rfl h⟩
theorem pdk_cons {nm : Option Str} {da : DE} {kpos : Pos} (ha : PD X p e da) (hr : PDK X p kws dk) : PDK X p (⟨nm, e, kpos⟩ :: kws) (dCons da dk) := by
  obtain ⟨t, h1, h2⟩ := ha.run
  obtain ⟨u, k1, k2⟩ := hr.run
  refine ⟨_, pk_cons h1 k1, fun σ H τ Q R rel h q => ?_⟩
  refine h2 σ H τ _ _ rel h fun xs vs H1 e1 i1 h1 => ?_
  exact k2 σ H1 τ _ _ (rel.ex e1) h1 fun xs vs H2 e2 i2 l2 h2 => q _ _ H2 (e1.trans e2) (.cons (i1.mono e2.1) i2) (by simp [l2]) h2
def ordD (perm : List Nat) (xs : List D) : List D := perm.map fun j => xs.getD j .non
theorem ord_is {K : PySem.W.Frag} {H : Hp} {vs : List V} {xs : List D} (h : IsL K p H vs xs) : ∀ {perm : List Nat}, (∀ j ∈ perm, j < vs.length) → IsL K p H (ordV perm vs) (ordD perm xs)
  | [], _ => .nil
  | j :: perm, a => by
    refine .cons ?_ (ord_is (perm := perm) h fun i hi => a i (List.mem_cons_of_mem _ hi))
    have hj := a j List.mem_cons_self
    have hj2 : j < xs.length := by rw [← h.len]; exact hj
    obtain ⟨d, e1, e2⟩ := h.get (i := j) (v := vs[j]) (by simp [hj])
    show Is K p H (vs.getD j .non) (xs.getD j .non)
    rw [List.getD_eq_getElem?_getD, List.getElem?_eq_getElem hj, List.getD_eq_getElem?_getD, e1]
    exact e2
def dBK (sp : SpD) (perm : List Nat) (ds dk : DA) : DE := fun τ R => ds τ fun xs => dk τ fun ys => sp (ordD perm (xs ++ ys)) R
theorem pdcK {perm : List Nat} (F : FnG X.prog X.w X.K X.mg X.base CX0 k f fd ps (toSp X.K n sp)) (hgu : X.A.guards = some []) (hr : Room k X.A) (hm : X.mg x = some (.ref f)) (hk : PySem.W.keepIn X.K (.ref f) = true) (hb : BindK X.K fd ps ks (es.length + 1) perm)
    (ha : PDA X p (e :: es) ds) (hkw : PDK X p kws dk) (hn : perm.length = n := by rfl) (hp : ∀ j ∈ perm, j < es.length + 1 + kws.length := by decide) (hlk : kws.length = ks.length := by rfl) (hg : Gl X x := by rfl) (hall : (backToKw pos (keywordEach kws X.env)).all (·.1.isSome) = true := by rfl) (hks : (backToKw pos (keywordEach kws X.env)).filterMap (·.1) = ks := by rfl)
    (hdb : (x == ("__debug__" : Str)) = false := by decide) (he : starEach (e :: es) X.env = (false, eval e X.env) :: starEach es X.env := by rfl)
    (hpl : ((backTo pos (starEach (e :: es) X.env)).any (·.1) || (backToKw pos (keywordEach kws X.env)).any (·.1.isNone)) = false := by rfl) :
    PD X p (.Call (.Name x q) (e :: es) kws pos) (dBK sp perm ds dk) := by
  obtain ⟨t, h1, h2⟩ := ha.run
  obtain ⟨u, k1, k2⟩ := hkw.run
  refine ⟨_, pe_callGK F hgu hr pass0 hg hm hk hb h1 k1 hall hks hdb he hpl, fun σ H τ Q R rel h q => ?_⟩
  refine h2 σ H τ _ _ rel h fun xs vs H1 e1 i1 l1 h1 => ?_
  refine k2 σ H1 τ _ _ (rel.ex e1) h1 fun ys ws H2 e2 i2 l2 h2 => ⟨by rw [l1]; rfl, by rw [l2, hlk], ?_⟩
  have l1' : vs.length = es.length + 1 := l1
  refine ⟨by unfold ordV; rw [List.length_map]; exact hn, p, _, R, e2.2, ord_is ((i1.mono e2.1).app i2) (fun j hj => ?_), h2, fun z v' H' e i r => q z v' H' ((e1.trans e2).trans e) i r⟩
  have := hp j hj
  rw [List.length_append]
  omega
theorem pdcK0 {perm : List Nat} (F : FnG X.prog X.w X.K X.mg X.base CX0 k f fd ps (toSp X.K n sp)) (hgu : X.A.guards = some []) (hr : Room k X.A) (hm : X.mg x = some (.ref f)) (hk : PySem.W.keepIn X.K (.ref f) = true) (hb : BindK X.K fd ps ks 0 perm)
    (hkw : PDK X p kws dk) (hn : perm.length = n := by rfl) (hp : ∀ j ∈ perm, j < kws.length := by decide) (hlk : kws.length = ks.length := by rfl) (hg : Gl X x := by rfl) (hall : (backToKw pos (keywordEach kws X.env)).all (·.1.isSome) = true := by rfl) (hks : (backToKw pos (keywordEach kws X.env)).filterMap (·.1) = ks := by rfl)
    (hdb : (x == ("__debug__" : Str)) = false := by decide)
    (hpl : ((backTo pos (starEach [] X.env)).any (·.1) || (backToKw pos (keywordEach kws X.env)).any (·.1.isNone)) = false := by rfl) :
    PD X p (.Call (.Name x q) [] kws pos) (dBK sp perm dNil dk) := by
  obtain ⟨u, k1, k2⟩ := hkw.run
  refine ⟨_, pe_callGK0 F hgu hr pass0 hg hm hk hb k1 hall hks hdb hpl, fun σ H τ Q R rel h q => ?_⟩
  refine k2 σ H τ _ _ rel h fun ys ws H2 e2 i2 l2 h2 => ⟨by rw [l2, hlk], ?_⟩
  refine ⟨by unfold ordV; rw [List.length_map]; exact hn, p, _, R, e2.2, ord_is i2 (fun j hj => ?_), h2, fun z v' H' e i r => q z v' H' (e2.trans e) i r⟩
  have := hp j hj
  omega
end
/-- a def by its body, on data -/
def startD (N : List Str) (ds : List D) : Sl := ds.map some ++ List.replicate (N.length - ds.length) none
theorem start_rel {K : PySem.W.Frag} {p : Addr} {H : Hp} {N : List Str} {vs : List V} {ds : List D} (pk : Pk p H) (h : IsL K p H vs ds) : Rel K p (L2.start N vs) H (startD N ds) := by
  refine ⟨pk, fun i d e => ?_, by unfold L2.start startD; rw [List.length_append, List.length_append, List.length_map, List.length_map, List.length_replicate, List.length_replicate, h.len]⟩
  unfold startD at e
  have hi : i < ds.length := by
    by_cases hi : i < ds.length
    · exact hi
    · rw [List.getElem?_append_right (by simpa using hi), List.getElem?_replicate] at e
      split at e <;> cases e
  rw [List.getElem?_append_left (by simpa using hi), List.getElem?_map] at e
  cases q : ds[i]? with
  | none => rw [q] at e; cases e
  | some d' =>
    rw [q] at e
    cases e
    obtain ⟨v, e1, e2⟩ := h.getD q
    refine ⟨v, ?_, e2⟩
    unfold L2.start
    rw [List.getElem?_append_left (by rw [List.length_map, h.len]; exact hi), List.getElem?_map, e1]
    rfl
section
variable {P : Program} {w : World} {K : PySem.W.Frag} {mg : Str → Option Value} {base : Heap} {k : Nat} {f : Addr} {fd : FuncData} {ps : List Str} {sp : SpD}
theorem funD {x qual : Str} {st : Stmt} {N : List Str} (F : Fun K x qual st f fd) (S : FnScope N ps (defScope st))
    (body : ∀ (cdv : Value) (A : Around) (outer : List Env) (s : Shared) (H : Hp) (E : XK) (p : Addr), A.guards = some [] → (∀ a o, K.lookup a = some o → a ≠ p) → Room k (A.deeper (envOfC qual (defScope st) s.heap.objs.size f cdv)) → Pk p H →
      ∃ d, PDSs (cxOf CX0 P w K mg base N qual (defScope st) f cdv A outer s H E).nox p (defBody st) d ∧ ∀ (ds : List D) (R : D → Prop), ds.length = ps.length → sp ds R → d { nx := fun _ => R .non, rt := R } (startD N ds)) :
    FnG P w K mg base CX0 (k + 1) f fd ps (toSp K ps.length sp) := by
  refine funG F S (fun vs H Q E h => h.1) fun cdv A outer s H vs Q E hg hk hr h => ?_
  obtain ⟨hl, p, ds, R, pk, is, h, q⟩ := h
  obtain ⟨d, hb, hd⟩ := body cdv A outer s H E p hg (fun a o lo => pk.ne (hk a o lo)) hr pk
  obtain ⟨t, h1, h2⟩ := hb.run
  refine ⟨t, h1.nox, ?_⟩
  exact h2 H (L2.start N vs) H (startD N ds) _ _ (.refl pk) (start_rel pk is) (hd ds R (by rw [← is.len]; exact hl) h)
    ⟨fun σ H' τ ex _ r => q _ _ H' ex .non r, fun v H' x ex i r => q x v H' ex i r, fun _ _ _ _ _ z => z.elim, fun _ _ _ _ _ z => z.elim⟩
end

/-! ### a law's defs, by their names -/
/-- a def as it stands behind the top; kb: how calls with keywords bind -/
structure Dfn (K : PySem.W.Frag) (mg : Str → Option Value) (x qual : Str) (st : Stmt) (ps : List Str) (kb : List (List Str × Nat × List Nat)) : Prop where
  ex : ∃ (f : Addr) (fd : FuncData), Fun K x qual st f fd ∧ mg x = some (.ref f) ∧ Binds K fd ps [] ∧ ∀ q ∈ kb, BindK K fd ps q.1 q.2.1 q.2.2
/-- a def with its promise -/
structure Cal (P : Program) (w : World) (K : PySem.W.Frag) (mg : Str → Option Value) (base : Heap) (x : Str) (k n : Nat) (ps : List Str) (kb : List (List Str × Nat × List Nat)) (sp : SpD) : Prop where
  ex : ∃ (f : Addr) (fd : FuncData), FnG P w K mg base CX0 k f fd ps (toSp K n sp) ∧ mg x = some (.ref f) ∧ PySem.W.keepIn K (.ref f) = true ∧ Binds K fd ps [] ∧ ∀ q ∈ kb, BindK K fd ps q.1 q.2.1 q.2.2
section
variable {P : Program} {w : World} {K : PySem.W.Frag} {mg : Str → Option Value} {base : Heap} {k : Nat} {ps : List Str} {sp : SpD} {kb : List (List Str × Nat × List Nat)}
theorem cal_of {x qual : Str} {st : Stmt} {N : List Str} (D0 : Dfn K mg x qual st ps kb) (S : FnScope N ps (defScope st))
    (body : ∀ (f : Addr) (cdv : Value) (A : Around) (outer : List Env) (s : Shared) (H : Hp) (E : XK) (p : Addr), A.guards = some [] → (∀ a o, K.lookup a = some o → a ≠ p) → Room k (A.deeper (envOfC qual (defScope st) s.heap.objs.size f cdv)) → Pk p H →
      ∃ d, PDSs (cxOf CX0 P w K mg base N qual (defScope st) f cdv A outer s H E).nox p (defBody st) d ∧ ∀ (ds : List D) (R : D → Prop), ds.length = ps.length → sp ds R → d { nx := fun _ => R .non, rt := R } (startD N ds)) :
    Cal P w K mg base x (k + 1) ps.length ps kb sp := by
  obtain ⟨f, fd, F, hm, hb, hk⟩ := D0.ex
  exact ⟨f, fd, funD F S fun cdv A outer s H E p => body f cdv A outer s H E p, hm, F.kp, hb, hk⟩
end
section
variable {X : Cx} {p : Addr} {pos q : Pos} {e : Expr} {es : List Expr} {kws : List Keyword} {ds dk : DA} {k j n : Nat} {ps : List Str} {sp : SpD} {x : Str} {kb : List (List Str × Nat × List Nat)}
theorem pdcC (C : Cal X.prog X.w X.K X.mg X.base x j n ps kb sp) (hgu : X.A.guards = some []) (hr : Room k X.A) (ha : PDA X p (e :: es) ds) (hj : j ≤ k := by decide) (hg : Gl X x := by rfl) (hn : (e :: es).length = n := by rfl) (hdb : (x == ("__debug__" : Str)) = false := by decide)
    (he : starEach (e :: es) X.env = (false, eval e X.env) :: starEach es X.env := by rfl) (hpl : (backTo pos (starEach es X.env)).any (·.1) = false := by rfl) : PD X p (.Call (.Name x q) (e :: es) [] pos) (dB sp ds) := by
  obtain ⟨f, fd, F, hm, hk, hb, _⟩ := C.ex
  exact pdc F hgu (hr.mono hj) hm hk hb ha hg hn hdb he hpl
theorem pdcC0 (C : Cal X.prog X.w X.K X.mg X.base x j 0 ps kb sp) (hgu : X.A.guards = some []) (hr : Room k X.A) (hj : j ≤ k := by decide) (hg : Gl X x := by rfl) (hdb : (x == ("__debug__" : Str)) = false := by decide) : PD X p (.Call (.Name x q) [] [] pos) (dB sp dNil) := by
  obtain ⟨f, fd, F, hm, hk, hb, _⟩ := C.ex
  exact pdc0 F hgu (hr.mono hj) hm hk hb hg hdb
theorem pdcCK {ks : List Str} {perm : List Nat} (C : Cal X.prog X.w X.K X.mg X.base x j n ps kb sp) (hgu : X.A.guards = some []) (hr : Room k X.A) (hq : (ks, es.length + 1, perm) ∈ kb) (ha : PDA X p (e :: es) ds) (hkw : PDK X p kws dk) (hj : j ≤ k := by decide)
    (hn : perm.length = n := by rfl) (hp : ∀ j ∈ perm, j < es.length + 1 + kws.length := by decide) (hlk : kws.length = ks.length := by rfl) (hg : Gl X x := by rfl) (hall : (backToKw pos (keywordEach kws X.env)).all (·.1.isSome) = true := by rfl) (hks : (backToKw pos (keywordEach kws X.env)).filterMap (·.1) = ks := by rfl)
    (hdb : (x == ("__debug__" : Str)) = false := by decide) (he : starEach (e :: es) X.env = (false, eval e X.env) :: starEach es X.env := by rfl)
    (hpl : ((backTo pos (starEach (e :: es) X.env)).any (·.1) || (backToKw pos (keywordEach kws X.env)).any (·.1.isNone)) = false := by rfl) : PD X p (.Call (.Name x q) (e :: es) kws pos) (dBK sp perm ds dk) := by
  obtain ⟨f, fd, F, hm, hk, _, hb⟩ := C.ex
  exact pdcK F hgu (hr.mono hj) hm hk (hb _ hq) ha hkw hn hp hlk hg hall hks hdb he hpl
theorem pdcCK0 {ks : List Str} {perm : List Nat} (C : Cal X.prog X.w X.K X.mg X.base x j n ps kb sp) (hgu : X.A.guards = some []) (hr : Room k X.A) (hq : (ks, 0, perm) ∈ kb) (hkw : PDK X p kws dk) (hj : j ≤ k := by decide)
    (hn : perm.length = n := by rfl) (hp : ∀ j ∈ perm, j < kws.length := by decide) (hlk : kws.length = ks.length := by rfl) (hg : Gl X x := by rfl) (hall : (backToKw pos (keywordEach kws X.env)).all (·.1.isSome) = true := by rfl) (hks : (backToKw pos (keywordEach kws X.env)).filterMap (·.1) = ks := by rfl)
    (hdb : (x == ("__debug__" : Str)) = false := by decide)
    (hpl : ((backTo pos (starEach [] X.env)).any (·.1) || (backToKw pos (keywordEach kws X.env)).any (·.1.isNone)) = false := by rfl) : PD X p (.Call (.Name x q) [] kws pos) (dBK sp perm dNil dk) := by
  obtain ⟨f, fd, F, hm, hk, _, hb⟩ := C.ex
  exact pdcK0 F hgu (hr.mono hj) hm hk (hb _ hq) hkw hn hp hlk hg hall hks hdb hpl
end
/-! ### what the top has left, as defs -/
section
variable {K : PySem.W.Frag} {mg : Str → Option Value} {h : Heap} {x qual : Str} {st : Stmt} {f : Addr} {fd : FuncData} {ps ks : List Str} {n : Nat} {perm : List Nat} {kb : List (List Str × Nat × List Nat)}
theorem bindK_of (F : Fun K x qual st f fd) (hb : ∀ (kV doc pm : Value) (an : Option Addr) (cdv ct : Value) (us ws : List Value), us.length = n → ws.length = ks.length →
    ∃ zs : List Value, bindArgs (PySem.W.fnOf x qual (defArgs st) (defBody st) (defScope st) .none kV doc pm an cdv ct) ⟨us, ks.zip ws⟩ = pure (ps.zip zs) ∧ zs.length = ps.length ∧ perm.length = ps.length ∧ ∀ (i j : Nat), perm[i]? = some j → zs[i]? = (us ++ ws)[j]? ∧ j < (us ++ ws).length) : BindK K fd ps ks n perm := by
  obtain ⟨oc, od, kV, doc, pm, an, cdv, ct, osl, rfl, lk, hcd⟩ := F.ex
  intro s us ws _ h1 h2
  obtain ⟨zs, e, r⟩ := hb kV doc pm an cdv ct us ws h1 h2
  exact ⟨zs, .of_eq e, r⟩
theorem dfn_of {oc kV doc pm cdv ct : Value} {od an : Option Addr} {osl : Array (Option Value)} (X : K.In h) (G : h.Ns mainGlobals mg) (a : PySem.W.nsIn K mainGlobals x = some (some (.ref f)))
    (l : K.lookup f = some ⟨oc, od, .func (PySem.W.fnOf x x (defArgs st) (defBody st) (defScope st) .none kV doc pm an cdv ct), osl⟩) (c : PySem.W.codeIn K cdv x = true) (k : PySem.W.keepIn K (.ref f) = true)
    (hb : ∀ (kV doc pm : Value) (an : Option Addr) (cdv ct : Value) (us : List Value), us.length = ps.length → bindArgs (PySem.W.fnOf x x (defArgs st) (defBody st) (defScope st) .none kV doc pm an cdv ct) ⟨us, []⟩ = pure (ps.zip us))
    (hk : ∀ fd : FuncData, Fun K x x st f fd → ∀ q ∈ kb, BindK K fd ps q.1 q.2.1 q.2.2) : Dfn K mg x x st ps kb :=
  ⟨f, _, fun_mk l c k, PySem.W.mg_of X G a, (fun_mk l c k).binds hb, hk _ (fun_mk l c k)⟩
theorem ktup2 {a : Addr} {x y : Int} {t u : Tok} {dd : Option Addr} {m : Nat} {sl : Array (Option Value)} (l : K.lookup a = some ⟨.type "tuple", dd, .seq #[.int x t, .int y u] m, sl⟩) : KTup K a (.tup [.int x, .int y]) :=
  fun p H ne => .tup (vs := [.int x, .int y]) (.inr ⟨_, _, m, l, rfl, rfl, by show 2 ≤ sizeLine; decide, .cons ⟨_, rfl⟩ (.cons ⟨_, rfl⟩ .nil)⟩) ne (.cons (.int _) (.cons (.int _) .nil))
end
end DL
/-! isinstance, repr, isqrt, gcd; walks, loops, comprehensions. -/
namespace DL
open PySem PySem.Spec L2
open PyProof.Rows hiding St

section
variable {X : Cx} {p : Addr}
/-! ### isinstance -/
def tyN : D → Option String
  | .non => some "NoneType"
  | .bl _ => some "bool"
  | .int _ => some "int"
  | .str _ => some "str"
  | .tup _ => some "tuple"
  | .lst _ => some "list"
  | .pot => some "list"
  | .ty _ => none
def cIsi : List D → (D → Prop) → Prop := fun xs R => match xs with
  | [x, .ty n] => match tyN x with
    | some t => match kitB t n with
      | some b => R (.bl b)
      | none => False
    | none => False
  | _ => False
theorem tyX_tup {K : PySem.W.Frag} {H : Hp} {a : Addr} {vs : List V} (h : SqT K H a vs) : TyX K H (.ref a) (.type "tuple") := by
  rcases h with (h | ⟨o, h⟩) | ⟨o, its, n, h, c, _⟩
  · exact .base (.tup h)
  · exact .fTuple h
  · exact .kTuple h c
theorem tyX_lst {K : PySem.W.Frag} {H : Hp} {a : Addr} {vs : List V} (h : SqL K H a vs) : TyX K H (.ref a) (.type "list") := by
  rcases h with (h | ⟨o, h⟩) | ⟨o, its, n, h, c, _⟩
  · exact .base (.lst h)
  · exact .base (.frz h)
  · exact .kList h c
theorem cd_isi : CallD X p (.builtin "isinstance") cIsi := by
  refine ⟨_, call_isi, fun H xs vs Q R pk ix hh q => ?_⟩
  unfold cIsi at hh
  split at hh
  · split at hh
    · rename_i t et
      split at hh
      · rename_i b eb
        cases ix with
        | cons i1 i2 =>
          cases i2 with
          | cons i2 i3 =>
            cases i3
            cases i2
            have fin : ∀ {x : V}, TyX X.K H x (.type t) → ∃ (x' c : V) (t' u : Value) (b : Bool), [x, .ty _] = [x', c] ∧ ClsV c u ∧ TyX X.K H x' t' ∧ PySem.W.kitOne X.K t' u = some b ∧ Q (.bl b) H :=
              fun {x} hx => ⟨x, _, _, _, b, rfl, .ty _, hx, kit_ty eb, q _ _ H (.refl pk) (.bl b) hh⟩
            cases i1 with
            | non => cases et; exact fin (.base .non)
            | bl _ => cases et; exact fin (.base (.bl _))
            | int _ => cases et; exact fin (.base (.int _))
            | str _ => cases et; exact fin (.base (.str _))
            | ty _ => cases et
            | tup hs _ _ => cases et; exact fin (tyX_tup hs)
            | lst hs _ _ => cases et; exact fin (tyX_lst hs)
            | pot =>
              cases et
              obtain ⟨m, n, _, _, _, hp⟩ := id pk
              exact fin (.base (.lst hp))
      · exact hh.elim
    · exact hh.elim
  · exact hh.elim
theorem kb_tt : kitB "tuple" "tuple" = some true := by decide +kernel
theorem kb_ii : kitB "int" "int" = some true := by decide +kernel
theorem kb_ib : kitB "int" "bool" = some false := by decide +kernel
theorem kb_bi : kitB "bool" "int" = some true := by decide +kernel
theorem kb_bb : kitB "bool" "bool" = some true := by decide +kernel
theorem kb_it : kitB "int" "tuple" = some false := by decide +kernel
theorem kb_bt : kitB "bool" "tuple" = some false := by decide +kernel
theorem kb_nt : kitB "NoneType" "tuple" = some false := by decide +kernel
theorem kb_ni : kitB "NoneType" "int" = some false := by decide +kernel
theorem kb_lt : kitB "list" "tuple" = some false := by decide +kernel
theorem kb_li : kitB "list" "int" = some false := by decide +kernel
theorem kb_ti : kitB "tuple" "int" = some false := by decide +kernel
theorem kb_si : kitB "str" "int" = some false := by decide +kernel
theorem kb_st : kitB "str" "tuple" = some false := by decide +kernel
theorem kb_ss : kitB "str" "str" = some true := by decide +kernel

/-! ### repr -/
mutual
def intsOk : D → Prop
  | .int i => i.natAbs.log2 < 1920
  | .tup l => intsOks l
  | .lst l => intsOks l
  | _ => True
def intsOks : List D → Prop
  | [] => True
  | d :: l => intsOk d ∧ intsOks l
end
mutual
def cnt : D → Nat
  | .tup l => cnts l + 1
  | .lst l => cnts l + 1
  | _ => 1
def cnts : List D → Nat
  | [] => 0
  | d :: l => cnt d + cnts l
end
theorem shown_ok : ∀ (n : Nat), (∀ d : D, shp n d = true → intsOk d → (toP d).showable = true ∧ (toP d).shown.length + 2 ≤ 1930 * cnt d) ∧
    ∀ l : List D, shps n l = true → intsOks l → PyData.showableAll (toPs l) = true ∧ piled (PyData.shownAll (toPs l)) ≤ 1930 * cnts l ∧ (∀ t ∈ PyData.shownAll (toPs l), t.length + 2 ≤ 1930 * cnts l) := by
  have lists : ∀ n, (∀ d : D, shp n d = true → intsOk d → (toP d).showable = true ∧ (toP d).shown.length + 2 ≤ 1930 * cnt d) →
      ∀ l : List D, shps n l = true → intsOks l → PyData.showableAll (toPs l) = true ∧ piled (PyData.shownAll (toPs l)) ≤ 1930 * cnts l ∧ (∀ t ∈ PyData.shownAll (toPs l), t.length + 2 ≤ 1930 * cnts l) := by
    intro n h l
    induction l with
    | nil => intro _ _; exact ⟨by simp [toPs, PyData.showableAll], by simp [toPs, PyData.shownAll, piled], by simp [toPs, PyData.shownAll]⟩
    | cons d l ih =>
      intro hl hi
      rw [shps, Bool.and_eq_true] at hl
      rw [intsOks] at hi
      obtain ⟨a1, a2⟩ := h d hl.1 hi.1
      obtain ⟨b1, b2, b3⟩ := ih hl.2 hi.2
      refine ⟨by simp [toPs, PyData.showableAll, a1, b1], ?_, ?_⟩
      · simp only [toPs, PyData.shownAll, piled_cons, cnts]
        omega
      · intro t ht
        simp only [toPs, PyData.shownAll, List.mem_cons] at ht
        simp only [cnts]
        rcases ht with e | e
        · subst e
          omega
        · have := b3 t e
          omega
  have one : ∀ n, (∀ m, n = m + 1 → ∀ l : List D, shps m l = true → intsOks l → PyData.showableAll (toPs l) = true ∧ piled (PyData.shownAll (toPs l)) ≤ 1930 * cnts l ∧ (∀ t ∈ PyData.shownAll (toPs l), t.length + 2 ≤ 1930 * cnts l)) →
      ∀ d : D, shp n d = true → intsOk d → (toP d).showable = true ∧ (toP d).shown.length + 2 ≤ 1930 * cnt d := by
    intro n hls d hd hi
    have hj : ∀ ts : List Str, (Str.join ", " ts).length ≤ piled ts := fun ts => by
      cases ts with
      | nil => exact Nat.le_refl _
      | cons t r =>
        have := join_length_add (t :: r) (by simp)
        omega
    cases d with
    | non => exact ⟨by simp [toP, PyData.showable], by show (4 : Nat) + 2 ≤ 1930 * 1; decide⟩
    | bl b => exact ⟨by simp [toP, PyData.showable], by cases b <;> (show (_ : Nat) ≤ 1930 * 1; decide)⟩
    | int i =>
      rw [intsOk] at hi
      refine ⟨by simp [toP, PyData.showable, hi], ?_⟩
      have := int_text_len_1921 hi
      show (Str.ofString (toString i)).length + 2 ≤ 1930 * 1
      omega
    | tup l =>
      cases n with
      | zero => simp [shp] at hd
      | succ m =>
        obtain ⟨a1, a2, _⟩ := hls m rfl l (by simpa [shp] using hd) (by simpa [intsOk] using hi)
        refine ⟨by simp [toP, PyData.showable, a1], ?_⟩
        have h1 := hj (PyData.shownAll (toPs l))
        have h2 : (toP (.tup l)).shown.length ≤ 1 + (Str.join ", " (PyData.shownAll (toPs l))).length + 2 := by
          simp only [toP, PyData.shown, tupleText]
          rw [strLen_append, strLen_append]
          have : ((if (PyData.shownAll (toPs l)).length == 1 then ",)" else ")" : String) : Str).length ≤ 2 := by split <;> decide
          have : (("(" : String) : Str).length = 1 := rfl
          omega
        simp only [cnt]
        omega
    | lst l =>
      cases n with
      | zero => simp [shp] at hd
      | succ m =>
        obtain ⟨a1, a2, _⟩ := hls m rfl l (by simpa [shp] using hd) (by simpa [intsOk] using hi)
        refine ⟨by simp [toP, PyData.showable, a1], ?_⟩
        have h2 : (toP (.lst l)).shown.length ≤ piled (PyData.shownAll (toPs l)) + 4 := by
          have h1 := hj (PyData.shownAll (toPs l))
          simp only [toP, PyData.shown, listText_eq_join]
          rw [strLen_append, strLen_append]
          have : (("[" : String) : Str).length = 1 := rfl
          have : (("]" : String) : Str).length = 1 := rfl
          omega
        simp only [cnt]
        omega
    | _ => simp [shp] at hd
  intro n
  induction n with
  | zero => exact ⟨one 0 (fun m e => by omega), lists 0 (one 0 (fun m e => by omega))⟩
  | succ n ih =>
    have o := one (n + 1) (fun m e => by have : n = m := by omega
                                         subst this
                                         exact ih.2)
    exact ⟨o, lists (n + 1) o⟩

def okR (d : D) : Prop := shp 60 d = true ∧ intsOk d ∧ cnt d ≤ 5000
def cRepr : List D → (D → Prop) → Prop := fun xs R => match xs with
  | [d] => okR d ∧ R (.str (toP d).shown)
  | _ => False
theorem call_repr_data (hg : X.A.guards = some []) (hu : X.A.units + 64 < cLine) : CallR X (.builtin "repr") (fun xs H Q => ∃ x d, xs = [x] ∧ Dp X.K H x d ∧ d.showable = true ∧ d.hasDict = false ∧ d.depth ≤ 60 ∧ d.shown.length ≤ sizeLine ∧ Q (.str d.shown) H) := by
  intro pins s σ H xs us Q I r h
  obtain ⟨x, d, rfl, dp, h1, h2, h3, h4, q⟩ := h
  obtain ⟨u, rfl, ru⟩ := vals1 r
  obtain ⟨as, rd⟩ := Dp.reads I d x u dp ru
  cases dp with
  | non => cases ru; exact PySem.P.repr_of_none ⟨.str _, H, I.tok _, ⟨_, rfl⟩, q⟩
  | bl b => cases ru; exact PySem.P.repr_of_bool ⟨.str _, H, I.tok _, ⟨_, rfl⟩, by
      cases b <;> exact q⟩
  | int i =>
    obtain ⟨t, rfl⟩ := ru
    exact PySem.P.repr_of_int (by simpa [PyData.showable] using h1) ⟨.str _, H, I.tok _, ⟨_, rfl⟩, q⟩
  | str z =>
    obtain ⟨t, rfl⟩ := ru
    exact PySem.P.repr_of_str ⟨.str _, H, I.tok _, ⟨_, rfl⟩, q⟩ h4
  | lst hs ha =>
    cases ru
    exact repr_of_reads' rd h1 (PyData.noDict_hsm h2) hg (by omega) (fun _ _ e => e) (fun h' u tk hk => ⟨.str _, H, I.kept (t' := tk) hk, ⟨_, rfl⟩, q⟩) h4
  | tup hs ha =>
    cases ru
    exact repr_of_reads' rd h1 (PyData.noDict_hsm h2) hg (by omega) (fun _ _ e => e) (fun h' u tk hk => ⟨.str _, H, I.kept (t' := tk) hk, ⟨_, rfl⟩, q⟩) h4
theorem cd_repr (hg : X.A.guards = some []) (hu : X.A.units + 64 < cLine) : CallD X p (.builtin "repr") cRepr := by
  refine ⟨_, call_repr_data hg hu, fun H xs vs Q R pk ix hh q => ?_⟩
  unfold cRepr at hh
  split at hh
  · rename_i d
    obtain ⟨⟨h1, h2, h3⟩, h4⟩ := hh
    cases ix with
    | cons i1 i2 =>
      cases i2
      obtain ⟨a1, a2, a3, a4⟩ := (shp_all 60).1 d h1
      obtain ⟨b1, b2⟩ := (shown_ok 60).1 d h1 h2
      refine ⟨_, _, rfl, i1.dp a1, b1, a4, a3, ?_, q _ _ H (.refl pk) (.str _) h4⟩
      have : sizeLine = 16777216 := sizeLine_eq
      omega
  · exact hh.elim

/-! ### isqrt, gcd -/
theorem call_isqrt : CallR X (.builtin "math.isqrt") (fun xs H Q => ∃ i : Int, xs = [.int i] ∧ 0 ≤ i ∧ i < 2 ^ 512 ∧ Q (.int ((Float64.isqrt i.toNat : Nat) : Int)) H) := by
  intro pins s σ H xs us Q I r h
  obtain ⟨i, rfl, h0, h1, q⟩ := h
  obtain ⟨u, rfl, t, rfl⟩ := vals1 r
  have hl : i.toNat.log2 < 512 := PySem.Flt.log2_lt_of (by decide) (by omega)
  exact PySem.call_function_meets PySem.W.MGF.kind_isqrt PySem.W.MGF.plain_isqrt PySem.W.MGF.entry_isqrt (PySem.W.MGF.args_isqrt _) (PySem.W.mg_run_isqrt i t (by omega) (by omega) (by omega)).meets ⟨.int _, H, I.tok _, ⟨_, rfl⟩, q⟩
def BS (i : Int) : Prop := 0 ≤ i ∧ i < 2 ^ 512
theorem BS.of {j : Int} (h0 : 0 ≤ j) (h1 : j < 1606938044258990275541962092341162602522202993782792835301376) : BS j := by
  have e : (1606938044258990275541962092341162602522202993782792835301376 : Int) ≤ 2 ^ 512 := by decide +kernel
  exact ⟨h0, Int.lt_of_lt_of_le h1 e⟩
def cSqrt : List D → (D → Prop) → Prop := fun xs R => match xs with
  | [.int i] => BS i ∧ ∀ r : Int, 0 ≤ r → r * r ≤ i → i < (r + 1) * (r + 1) → R (.int r)
  | _ => False
theorem cd_isqrt : CallD X p (.builtin "math.isqrt") cSqrt := by
  refine ⟨_, call_isqrt, fun H xs vs Q R pk ix hh q => ?_⟩
  unfold cSqrt at hh
  split at hh
  · rename_i i
    obtain ⟨⟨h0, h1⟩, hR⟩ := hh
    cases ix with
    | cons i1 i2 =>
      cases i2
      cases i1
      have sp := PySem.Float64.isqrt_spec i.toNat
      refine ⟨i, rfl, h0, h1, q _ _ H (.refl pk) (.int _) (hR _ (Int.natCast_nonneg _) ?_ ?_)⟩
      · have := sp.1
        rw [← Int.natCast_mul]
        omega
      · have := sp.2
        have e : (((Float64.isqrt i.toNat : Nat) : Int) + 1) * (((Float64.isqrt i.toNat : Nat) : Int) + 1) = (((Float64.isqrt i.toNat + 1) * (Float64.isqrt i.toNat + 1) : Nat) : Int) := by
          rw [Int.natCast_mul, Int.natCast_add]
          rfl
        rw [e]
        omega
  · exact hh.elim
theorem cd_gcd : CallD X p (.builtin "math.gcd") (cI2 (fun _ _ => True) fun a b => .int ((Nat.gcd a.natAbs b.natAbs : Nat) : Int)) := cI2_of cr_gcd fun a b H Q _ pk q => ⟨a, b, rfl, q _ H (.refl pk) (.int _)⟩
end
end DL
/-! Walks, loops, comprehensions on data. -/
namespace DL
open PySem PySem.Spec L2
open PyProof.Rows hiding St

/-! ### readings by data as readings -/
def liftE (K : PySem.W.Frag) (p : Addr) (d : DE) : TE := fun σ H Q => ∃ τ R, Rel K p σ H τ ∧ d τ R ∧ ∀ x v H', Ex p H H' → Is K p H' v x → R x → Q v H'
def liftT (K : PySem.W.Frag) (p : Addr) (d : DT) : TT := fun σ H Q => ∃ τ R, Rel K p σ H τ ∧ d τ R ∧ ∀ b H', Ex p H H' → R b → Q b H'
theorem PD.pe {X : Cx} {p : Addr} {e : Expr} {d : DE} (h : PD X p e d) : PE X e (liftE X.K p d) := by
  obtain ⟨t, h1, h2⟩ := h.run
  exact ⟨fun pins s σ H Q I ⟨τ, R, a, b, c⟩ => h1.run pins s σ H Q I (h2 σ H τ Q R a b c)⟩
theorem PDT.pt {X : Cx} {p : Addr} {e : Expr} {d : DT} (h : PDT X p e d) : PT X e (liftT X.K p d) := by
  obtain ⟨t, h1, h2⟩ := h.run
  exact ⟨fun pins s σ H Q I ⟨τ, R, a, b, c⟩ => h1.run pins s σ H Q I (h2 σ H τ Q R a b c)⟩

/-! ### what is walked -/
structure WD (K : PySem.W.Frag) (p : Addr) (J : It) (H0 : Hp) (l : List D) : Prop where
  step : ∀ i H, Ex p H0 H → i < l.length → J.go i H ∧ ∀ x H', J.yld i H x H' → Ex p H H' ∧ ∃ d, l[i]? = some d ∧ Is K p H' x d
  stop : ∀ H, Ex p H0 H → J.stop l.length H
abbrev DI := Sl → (List D → Prop) → Prop
structure PDI (X : Cx) (p : Addr) (tg iter : Expr) (d : DI) : Prop where
  run : ∃ wi, PI X tg iter wi ∧ ∀ (σ : L2.St) (H : Hp) (τ : Sl) (Rw : It → Hp → Prop) (R : List D → Prop), Rel X.K p σ H τ → d τ R → (∀ J H1 l, Ex p H H1 → WD X.K p J H1 l → R l → Rw J H1) → wi σ H Rw
section
variable {X : Cx} {p : Addr} {tg : Expr}
theorem wd_list {K : PySem.W.Frag} {H : Hp} {a : Addr} {vs : List V} {l : List D} (h : SqL K H a vs) (ne : a ≠ p) (i : IsL K p H vs l) : WD K p (Itl K a) H l := by
  refine ⟨fun n H' e hn => ?_, fun H' e => ⟨vs, SqL.keep h ne e.1, by rw [i.len]; exact Nat.le_refl _⟩⟩
  have hv : n < vs.length := by rw [i.len]; exact hn
  refine ⟨⟨vs, vs[n], SqL.keep h ne e.1, by simp [hv]⟩, fun x H2 y => ?_⟩
  obtain ⟨rfl, y⟩ := y
  obtain ⟨d, h1, h2⟩ := (i.mono e.1).get (y vs (SqL.keep h ne e.1))
  exact ⟨.refl e.2, d, h1, h2⟩
/-- over a list or a tuple -/
def dSq (d : DE) : DI := fun τ R => d τ fun x => match x with
  | .lst l => R l
  | .tup l => R l
  | _ => False
def iSq (K : PySem.W.Frag) (t : TE) : TI := fun σ H R => t σ H fun x H1 => ∃ a, x = .ref a ∧ ((∃ xs, SqL K H1 a xs ∧ R (Itl K a) H1) ∨ ∃ xs, SqT K H1 a xs ∧ R (Itt K a) H1)
theorem pi_sq {l : Expr} {t : TE} (h : PE X l t) : PI X tg l (iSq X.K t) := by
  refine ⟨fun pins s σ H R I q => thn (h.run pins s σ H _ I q) ?_⟩
  rintro v s1 ⟨x, H1, I1, r1, a, rfl, q1⟩
  cases r1
  have fr : H1 s1.heap.objs.size = none := I1.hok.fresh (Nat.le_refl _)
  have fp : ∀ b ∈ [s1.heap.objs.size], FpOk X pins H1 b := by
    intro b hb
    rw [List.mem_singleton] at hb
    rw [hb]
    exact I1.fpOk (Nat.le_refl _) fr
  rcases q1 with ⟨xs, hx, q1⟩ | ⟨xs, hx, q1⟩
  · obtain ⟨its, _, pl, _⟩ := I1.list hx
    exact wpAny_pyIter_list pl.isList ⟨s1.heap.objs.size, [s1.heap.objs.size], _, _, H1, rfl, I1.kept (t' := s1.toks) (fun b o e => Heap.get?_push_of_some _ e), turn_list a _, ⟨_, Heap.get?_push_size _ rfl, rfl, rfl⟩, fp, q1⟩
  · obtain ⟨its, _, pl, _⟩ := I1.tuple hx
    exact wpAny_pyIter_tuple (show s1.heap.IsTuple a its.toArray from pl) ⟨s1.heap.objs.size, [s1.heap.objs.size], _, _, H1, rfl, I1.kept (t' := s1.toks) (fun b o e => Heap.get?_push_of_some _ e), turn_tuple a _, ⟨_, Heap.get?_push_size _ rfl, rfl, rfl⟩, fp, q1⟩
theorem pdi_sq {e : Expr} {d : DE} (h : PD X p e d) : PDI X p tg e (dSq d) := by
  obtain ⟨t, h1, h2⟩ := h.run
  refine ⟨_, pi_sq h1, fun σ H τ Rw R rel hd q => ?_⟩
  refine h2 σ H τ _ _ rel hd fun x v H1 e1 i1 h1 => ?_
  cases i1 with
  | @lst a vs l hs hn hl => exact ⟨a, rfl, .inl ⟨vs, hs, q _ H1 l e1 (wd_list hs hn hl) h1⟩⟩
  | @tup a vs l hs hn hl =>
    refine ⟨a, rfl, .inr ⟨vs, hs, q _ H1 l e1 ⟨fun n H' e hx => ?_, fun H' e => ⟨vs, SqT.keep hs hn e.1, by rw [hl.len]; exact Nat.le_refl _⟩⟩ h1⟩⟩
    have hv : n < vs.length := by rw [hl.len]; exact hx
    refine ⟨⟨vs, vs[n], SqT.keep hs hn e.1, by simp [hv]⟩, fun x H2 y => ?_⟩
    obtain ⟨rfl, y⟩ := y
    obtain ⟨d, g1, g2⟩ := (hl.mono e.1).get (y vs (SqT.keep hs hn e.1))
    exact ⟨.refl e.2, d, g1, g2⟩
  | _ => exact h1.elim
/-- lo, lo + 1, .. -/
def rng (lo : Int) (n : Nat) : List D := (List.range n).map fun (k : Nat) => D.int (lo + (k : Int))
theorem rng_len (lo : Int) (n : Nat) : (rng lo n).length = n := by simp [rng]
theorem rng_get {lo : Int} {n i : Nat} (h : i < n) : (rng lo n)[i]? = some (.int (lo + i)) := by simp [rng, h]
theorem wd_rng {K : PySem.W.Frag} {H : Hp} {lo : Int} {n : Nat} : WD K p (Itr lo n) H (rng lo n) := by
  refine ⟨fun i H' e hi => ?_, fun H' e => by rw [rng_len]; exact Nat.le_refl _⟩
  rw [rng_len] at hi
  refine ⟨hi, fun x H2 y => ?_⟩
  obtain ⟨rfl, rfl⟩ := y
  exact ⟨.refl e.2, _, rng_get hi, .int _⟩
def dRg1 (d : DA) : DI := fun τ R => d τ fun xs => match xs with
  | [.int j] => (-(2 ^ 62) ≤ j ∧ j < 2 ^ 62) ∧ R (rng 0 j.toNat)
  | _ => False
def dRg2 (d : DA) : DI := fun τ R => d τ fun xs => match xs with
  | [.int i, .int j] => (-(2 ^ 62) ≤ i ∧ i < 2 ^ 62 ∧ -(2 ^ 62) ≤ j ∧ j < 2 ^ 62) ∧ R (rng i (j - i).toNat)
  | _ => False
theorem pdi_rg1 {a : Expr} {q pos : Pos} {d : DA} (hm : X.mg "range" = none) (ha : PDA X p [a] d) (hg : Gl X "range" := by rfl) (hs : starEach [a] X.env = [(false, eval a X.env)] := by rfl) : PDI X p tg (.Call (.Name "range" q) [a] [] pos) (dRg1 d) := by
  obtain ⟨t, h1, h2⟩ := ha.run
  refine ⟨_, pi_range1 hg hm h1 hs, fun σ H τ Rw R rel hd q => ?_⟩
  refine h2 σ H τ _ _ rel hd fun xs vs H1 e1 i1 l1 h1 => ?_
  split at h1
  · cases i1 with
    | cons i1 i2 =>
      cases i2
      cases i1
      exact ⟨_, rfl, h1.1.1, h1.1.2, q _ H1 _ e1 wd_rng h1.2⟩
  · exact h1.elim
theorem pdi_rg2 {a b : Expr} {q pos : Pos} {d : DA} (hm : X.mg "range" = none) (ha : PDA X p [a, b] d) (hg : Gl X "range" := by rfl) (hs : starEach [a, b] X.env = [(false, eval a X.env), (false, eval b X.env)] := by rfl) (hs2 : starEach [b] X.env = [(false, eval b X.env)] := by rfl) : PDI X p tg (.Call (.Name "range" q) [a, b] [] pos) (dRg2 d) := by
  obtain ⟨t, h1, h2⟩ := ha.run
  refine ⟨_, pi_range2 hg hm h1 hs hs2, fun σ H τ Rw R rel hd q => ?_⟩
  refine h2 σ H τ _ _ rel hd fun xs vs H1 e1 i1 l1 h1 => ?_
  split at h1
  · cases i1 with
    | cons i1 i2 =>
      cases i2 with
      | cons i2 i3 =>
        cases i3
        cases i1
        cases i2
        exact ⟨_, _, rfl, h1.1, q _ H1 _ e1 wd_rng h1.2⟩
  · exact h1.elim
end

/-! ### for, while -/
def dForGo (g : DG) (body : DS) (E : DEn) : List D → Sl → Prop
  | [], τ => E.nx τ
  | x :: r, τ => g x τ fun τ2 => body { nx := dForGo g body E r, rt := E.rt, bk := E.nx, ct := dForGo g body E r } τ2
def dFor (it : DI) (g : DG) (body : DS) : DS := fun E τ => it τ fun l => dForGo g body E l τ
def dWhile (c : DT) (body : DS) : DS := fun E τ => ∃ W : Nat → Sl → Prop, (∃ m, W m τ) ∧ ∀ m τ, W m τ → c τ fun b => if b = true then body { nx := fun τ' => ∃ m', m' < m ∧ W m' τ', rt := E.rt, bk := E.nx, ct := fun τ' => ∃ m', m' < m ∧ W m' τ' } τ else E.nx τ
section
variable {X : Cx} {p : Addr} {pos : Pos}
theorem drop_at {l : List D} {i : Nat} {d : D} (h : l[i]? = some d) : l.drop i = d :: l.drop (i + 1) := by
  obtain ⟨hi, e⟩ := List.getElem?_eq_some_iff.mp h
  rw [List.drop_eq_getElem_cons hi, e]
theorem pds_for {tg iter : Expr} {body : List Stmt} {it : DI} {g : DG} {b : DS} (hc : X.calm = true) (hp : PassesOwn (model X.prog X.w) X.A X.env X.xe) (hi : PDI X p tg iter it) (hg : PDG X p tg g) (hb : PDSs X p body b)
    (hs : ∀ x, foldedSetIterable iter X.env x = pure x := by intro _; rfl) : PDS X p (.For tg iter body [] pos) (dFor it g b) := by
  obtain ⟨wi, i1, i2⟩ := hi.run
  obtain ⟨tg', g1, g2⟩ := hg.run
  obtain ⟨tb, b1, b2⟩ := hb.run
  refine ⟨_, ps_for hp hc i1 g1 b1 hs, fun H0 σ H τ E E' ex rel h ag => ?_⟩
  refine i2 σ H τ _ _ rel h fun J H1 l e1 wd h1 => ?_
  refine ⟨fun i m σ' H' => i ≤ l.length ∧ m = l.length - i ∧ Ex p H0 H' ∧ Ex p H1 H' ∧ ∃ τ', Rel X.K p σ' H' τ' ∧ dForGo g b E' (l.drop i) τ', ⟨_, Nat.zero_le _, rfl, ex.trans e1, .refl e1.2, τ, rel.ex e1, h1⟩, ?_⟩
  rintro i m σ' H' ⟨hi, rfl, ex', e1', τ', rel', h'⟩
  by_cases hlt : i < l.length
  · obtain ⟨go, y⟩ := wd.step i H' e1' hlt
    refine .inr ⟨go, fun σ2 H2 => i + 1 ≤ l.length ∧ Ex p H0 H2 ∧ Ex p H1 H2 ∧ ∃ τ2, Rel X.K p σ2 H2 τ2 ∧ dForGo g b E' (l.drop (i + 1)) τ2, fun σ2 H2 ⟨q1, q2, q3, q4⟩ => ⟨_, by omega, q1, rfl, q2, q3, q4⟩, fun x H2 yl => ?_⟩
    obtain ⟨e2, d, hd, hx⟩ := y x H2 yl
    rw [drop_at hd] at h'
    refine g2 x d σ' H2 τ' _ _ (rel'.ex e2) hx h' fun σ3 H3 τ3 e3 rel3 h3 => ?_
    have ex3 := (ex'.trans e2).trans e3
    refine b2 H3 σ3 H3 τ3 _ _ (.refl rel3.pk) rel3 h3 ⟨fun σ4 H4 τ4 e4 rel4 h4 => ?_, fun v H4 x e4 i4 h4 => ag.rt v H4 x (ex3.trans e4) i4 h4, fun σ4 H4 τ4 e4 rel4 h4 => ag.nx σ4 H4 τ4 (ex3.trans e4) rel4 h4, fun σ4 H4 τ4 e4 rel4 h4 => ?_⟩
    · exact ⟨hlt, ex3.trans e4, ((e1'.trans e2).trans e3).trans e4, τ4, rel4, h4⟩
    · exact ⟨hlt, ex3.trans e4, ((e1'.trans e2).trans e3).trans e4, τ4, rel4, h4⟩
  · have e : i = l.length := by omega
    subst e
    rw [List.drop_length] at h'
    exact .inl ⟨wd.stop H' e1', ag.nx σ' H' τ' ex' rel' h'⟩
theorem pds_while {c : Expr} {body : List Stmt} {dc : DT} {b : DS} (hp : PassesOwn (model X.prog X.w) X.A X.env X.xe) (hc : PDT X p c dc) (hb : PDSs X p body b) : PDS X p (.While c body [] pos) (dWhile dc b) := by
  obtain ⟨tc, c1, c2⟩ := hc.run
  obtain ⟨tb, b1, b2⟩ := hb.run
  refine ⟨_, ps_while hp c1 b1, fun H0 σ H τ E E' ex rel h ag => ?_⟩
  obtain ⟨W, ⟨m0, w0⟩, turn⟩ := h
  refine ⟨fun m σ' H' => Ex p H0 H' ∧ ∃ τ', Rel X.K p σ' H' τ' ∧ W m τ', ⟨m0, ex, τ, rel, w0⟩, ?_⟩
  rintro m σ' H' ⟨ex', τ', rel', w'⟩
  refine c2 σ' H' τ' _ _ rel' (turn m τ' w') fun t H1 e1 h1 => ?_
  cases t with
  | false =>
    rw [if_neg Bool.false_ne_true] at h1 ⊢
    exact ag.nx _ _ _ (ex'.trans e1) (rel'.ex e1) h1
  | true =>
    rw [if_pos rfl] at h1 ⊢
    refine ⟨fun σ2 H2 => Ex p H0 H2 ∧ ∃ τ2, Rel X.K p σ2 H2 τ2 ∧ ∃ m', m' < m ∧ W m' τ2, fun σ2 H2 ⟨q1, τ2, q2, m', q3, q4⟩ => ⟨m', q3, q1, τ2, q2, q4⟩, ?_⟩
    refine b2 H0 σ' H1 τ' _ _ (ex'.trans e1) (rel'.ex e1) h1 ⟨fun σ4 H4 τ4 e4 rel4 h4 => ⟨e4, τ4, rel4, h4⟩, fun v H4 x e4 i4 h4 => ag.rt v H4 x e4 i4 h4, fun σ4 H4 τ4 e4 rel4 h4 => ag.nx σ4 H4 τ4 e4 rel4 h4, fun σ4 H4 τ4 e4 rel4 h4 => ⟨e4, τ4, rel4, h4⟩⟩
end

/-! ### comprehensions -/
mutual
def noL : D → Bool
  | .lst _ => false
  | .pot => false
  | .tup l => noLs l
  | _ => true
def noLs : List D → Bool
  | [] => true
  | d :: l => noL d && noLs l
end
section
variable {K : PySem.W.Frag} {p : Addr} {H : Hp}
theorem SqT.upd {a b : Addr} {vs ws xs : List V} (h : SqT K H a vs) (hb : H b = some (.lst ws)) : SqT K (upd H b (.lst xs)) a vs := by
  rcases h with (h | ⟨o, h⟩) | h
  · exact .inl (.inl (by rw [upd_ne (ne_of h hb (by intro z; cases z))]; exact h))
  · exact .inl (.inr ⟨o, by rw [upd_ne (ne_of h hb (by intro z; cases z))]; exact h⟩)
  · exact .inr h
/-- what has no list in it stands whatever becomes of a list -/
theorem Is.noL {v : V} {d : D} {b : Addr} {ws xs : List V} (hb : H b = some (.lst ws)) (h : Is K p H v d) : noL d = true → Is K p (upd H b (.lst xs)) v d :=
  Is.rec (motive_1 := fun v d _ => DL.noL d = true → Is K p (upd H b (.lst xs)) v d) (motive_2 := fun vs l _ => noLs l = true → IsL K p (upd H b (.lst xs)) vs l)
    (fun _ => .non) (fun b _ => .bl b) (fun i _ => .int i) (fun x _ => .str x) (fun n _ => .ty n)
    (fun h n _ ih z => .tup (SqT.upd h hb) n (ih z)) (fun _ _ _ _ z => nomatch z) (fun z => nomatch z) (fun _ => .nil)
    (fun _ _ i1 i2 z => by
      have z' := Bool.and_eq_true_iff.mp z
      exact .cons (i1 z'.1) (i2 z'.2)) h
theorem IsL.noL {b : Addr} {ws xs : List V} (hb : H b = some (.lst ws)) : ∀ {vs : List V} {l : List D}, IsL K p H vs l → noLs l = true → IsL K p (upd H b (.lst xs)) vs l
  | [], _, h, _ => by cases h; exact .nil
  | v :: vs, _, h, z => by
    cases h with
    | cons h1 h2 =>
      have z' := Bool.and_eq_true_iff.mp z
      exact .cons (h1.noL hb z'.1) (IsL.noL hb h2 z'.2)
theorem noLs_app : ∀ {l m : List D}, noLs l = true → noLs m = true → noLs (l ++ m) = true
  | [], _, _, h => h
  | d :: l, m, h, h' => by
    have z := Bool.and_eq_true_iff.mp h
    show (DL.noL d && noLs (l ++ m)) = true
    rw [z.1, noLs_app z.2 h']
    rfl
theorem wipe_comm (σ : L2.St) (i : Nat) (x : Option V) : ∀ vs : List Nat, i ∉ vs → wipe (σ.set i x) vs = (wipe σ vs).set i x
  | [], _ => rfl
  | v :: vs, h => by
    simp only [List.mem_cons, not_or] at h
    unfold wipe
    rw [wipe_comm σ i x vs h.2, List.set_comm _ _ h.1]
theorem wipe_set (σ : L2.St) (i : Nat) (x : Option V) : ∀ vs : List Nat, i ∈ vs → wipe (σ.set i x) vs = wipe σ vs
  | [], h => by cases h
  | v :: vs, h => by
    unfold wipe
    by_cases hv : i ∈ vs
    · rw [wipe_set σ i x vs hv]
    · have e : i = v := by
        rcases List.mem_cons.mp h with e | e
        · exact e
        · exact absurd e hv
      subst e
      rw [wipe_comm σ i x vs hv, List.set_set]
end
/-- a target that stores to the slots of vs alone -/
structure PDGw (X : Cx) (p : Addr) (vs : List Nat) (tg : Expr) (g : DG) (t : TG) : Prop where
  pg : PG X tg t
  go : ∀ (v : V) (x : D) (σ : L2.St) (H : Hp) (τ : Sl) (Q : L2.St → Hp → Prop) (R : Sl → Prop), Rel X.K p σ H τ → Is X.K p H v x → g x τ R → (∀ σ' H' τ', Ex p H H' → Rel X.K p σ' H' τ' → wipe σ' vs = wipe σ vs → R τ' → Q σ' H') → t v σ H Q
structure PDGsw (X : Cx) (p : Addr) (vs : List Nat) (tgs : List Expr) (g : DGs) (t : TGs) : Prop where
  pg : PGs X tgs t
  go : ∀ (ws : List V) (xs : List D) (σ : L2.St) (H : Hp) (τ : Sl) (Q : L2.St → Hp → Prop) (R : Sl → Prop), Rel X.K p σ H τ → IsL X.K p H ws xs → g xs τ R → (∀ σ' H' τ', Ex p H H' → Rel X.K p σ' H' τ' → wipe σ' vs = wipe σ vs → R τ' → Q σ' H') → t ws σ H Q
section
variable {X : Cx} {p : Addr} {pos : Pos} {vs : List Nat}
theorem pgw_name {i : Nat} {x : Str} (hN : X.N.Nodup) (hi : X.N[i]? = some x) (hx : Loc X.env.scope x) (hv : i ∈ vs := by decide) (hf : X.fn x = true ∨ X.env.scope.names.lookup x = some .local := by first | exact .inl rfl | exact .inr rfl | assumption) : PDGw X p vs (.Name x pos) (gN i) (gName i) :=
  ⟨pg_name hN hi hx hf, fun v x σ H τ Q R rel i1 h q => q _ H _ (.refl rel.pk) (rel.set i1) (wipe_set σ i _ vs hv) h⟩
theorem pgsw_nil : PDGsw X p vs [] gNl L2.gNil := by
  refine ⟨pgs_nil, fun ws xs σ H τ Q R rel i1 h q => ?_⟩
  cases i1 with
  | nil => exact ⟨rfl, q σ H τ (.refl rel.pk) rel rfl h⟩
  | cons _ _ => exact h.elim
theorem pgsw_cons {e : Expr} {es : List Expr} {g : DG} {gs : DGs} {t : TG} {ts : TGs} (h1 : PDGw X p vs e g t) (h2 : PDGsw X p vs es gs ts) (hs : (assignEach (e :: es) X.env).map (·.2) = assign e X.env :: (assignEach es X.env).map (·.2) := by rfl) : PDGsw X p vs (e :: es) (gCn g gs) (L2.gCons t ts) := by
  refine ⟨pgs_cons h1.pg h2.pg hs, fun ws xs σ H τ Q R rel i1 h q => ?_⟩
  cases i1 with
  | nil => exact h.elim
  | cons i1 i2 =>
    refine ⟨_, _, rfl, h1.go _ _ σ H τ _ _ rel i1 h fun σ' H' τ' e1 rel1 w1 h1 => ?_⟩
    exact h2.go _ _ σ' H' τ' _ _ rel1 (i2.mono e1.1) h1 fun σ2 H2 τ2 e2 rel2 w2 r2 => q σ2 H2 τ2 (e1.trans e2) rel2 (w2.trans w1) r2
theorem pgw_tup {es : List Expr} {k n : Nat} {gs : DGs} {ts : TGs} (hc : X.calm = true) (h : PDGsw X p vs es gs ts) (hn : (assignEach es X.env).length = n := by rfl) (hst : (assignEach es X.env).findIdx? (·.1) = none := by rfl) : PDGw X p vs (.Tuple es k pos) (gTu n gs) (L2.gTup X.K n ts) := by
  refine ⟨pg_tup hc h.pg hn hst, fun v x σ H τ Q R rel i1 hh q => ?_⟩
  cases i1 with
  | tup s ne il =>
    obtain ⟨hl, hh⟩ := hh
    exact ⟨_, _, rfl, s, by rw [il.len]; exact hl, h.go _ _ σ H τ _ _ rel il hh q⟩
  | _ => exact hh.elim
end
def dYes : DT := fun _ R => R true
def dLcGo (g : DG) (tt : DT) (te : DE) (τ : Sl) : List D → List D → (List D → Prop) → Prop
  | [], acc, R => R acc
  | x :: r, acc, R => g x τ fun τ2 => tt τ2 fun b => if b = true then te τ2 fun y => noL y = true ∧ dLcGo g tt te τ r (acc ++ [y]) R else dLcGo g tt te τ r acc R
/-- not too long a list -/
def LenOk (l : List D) : Prop := l.length ≤ 1000000
theorem LenOk.of {l : List D} (n : Nat) (h : l.length = n) (h2 : n ≤ 1000000) : LenOk l := by
  unfold LenOk
  rw [h]
  exact h2
def dLc (it : DI) (g : DG) (tt : DT) (te : DE) (own : List Nat) : DE := fun τ R => it τ fun l => LenOk l ∧ dLcGo g tt te (wipeD τ own) l [] fun acc => R (.lst acc)
section
variable {X : Cx} {p : Addr} {pos : Pos}
theorem lc_run {K : PySem.W.Frag} {J : It} {H1 : Hp} {l : List D} {D0 : Addr} {g : DG} {tt : DT} {te : DE} {tgt : TG} {tT : TT} {vs : List Nat} {σ : L2.St} {τ : Sl} {Q : VK} {R : D → Prop} (hD : H1 D0 = none) (pk : Pk p H1) (wd : WD K p J H1 l) (hl : l.length ≤ 1000000) (rel : Rel K p σ H1 τ)
    (hg : ∀ (v : V) (x : D) (σ : L2.St) (H : Hp) (τ : Sl) (Q : L2.St → Hp → Prop) (R : Sl → Prop), Rel K p σ H τ → Is K p H v x → g x τ R → (∀ σ' H' τ', Ex p H H' → Rel K p σ' H' τ' → wipe σ' vs = wipe σ vs → R τ' → Q σ' H') → tgt v σ H Q)
    (ht : ∀ (σ : L2.St) (H : Hp) (τ : Sl) (Q : Bool → Hp → Prop) (R : Bool → Prop), Rel K p σ H τ → tt τ R → (∀ b H', Ex p H H' → R b → Q b H') → tT σ H Q)
    (h : dLcGo g tt te (wipeD τ vs) l [] fun acc => R (.lst acc)) (q : ∀ x v H', Ex p H1 H' → Is K p H' v x → R x → Q v H') :
    ∃ W : Nat → Nat → Hp → Prop, (∃ m, W 0 m (upd H1 D0 (.lst []))) ∧ ∀ i m H, W i m H → (J.stop i H ∧ Q (.ref D0) H) ∨ (J.go i H ∧ ∃ Nx : Hp → Prop, (∀ H', Nx H' → ∃ m', m' < m ∧ W (i + 1) m' H') ∧
      ∀ x H', J.yld i H x H' → tgt x (wipe σ vs) H' fun σ2 H2 => wipe σ2 vs = wipe σ vs ∧ tT σ2 H2 fun b H3 => if b = true then liftE K p te σ2 H3 fun y H4 => ∃ acc, H4 D0 = some (.lst acc) ∧ acc.length < sizeLine ∧ Nx (upd H4 D0 (.lst (acc ++ [y]))) else Nx H3) := by
  have nD : D0 ≠ p := pk.ne hD
  have start : Ex p H1 (upd H1 D0 (.lst [])) := .new pk hD
  refine ⟨fun i m H => i ≤ l.length ∧ m = l.length - i ∧ Ex p H1 H ∧ ∃ va acc, H D0 = some (.lst va) ∧ IsL K p H va acc ∧ noLs acc = true ∧ acc.length ≤ i ∧ dLcGo g tt te (wipeD τ vs) (l.drop i) acc fun acc => R (.lst acc),
    ⟨_, Nat.zero_le _, rfl, start, [], [], upd_same, .nil, rfl, Nat.le_refl _, h⟩, ?_⟩
  rintro i m H ⟨hi, rfl, ex, va, acc, hva, iva, nva, lva, h⟩
  by_cases hlt : i < l.length
  · obtain ⟨go, y⟩ := wd.step i H ex hlt
    refine .inr ⟨go, fun H' => Ex p H1 H' ∧ ∃ va acc, H' D0 = some (.lst va) ∧ IsL K p H' va acc ∧ noLs acc = true ∧ acc.length ≤ i + 1 ∧ dLcGo g tt te (wipeD τ vs) (l.drop (i + 1)) acc fun acc => R (.lst acc), fun H' ⟨q1, q2⟩ => ⟨_, by omega, hlt, rfl, q1, q2⟩, fun x H2 yl => ?_⟩
    obtain ⟨e2, d, hd, hx⟩ := y x H2 yl
    rw [drop_at hd] at h
    have rel2 : Rel K p (wipe σ vs) H2 (wipeD τ vs) := (rel.ex (ex.trans e2)).wipe vs
    refine hg x d _ H2 _ _ _ rel2 hx h fun σ3 H3 τ3 e3 rel3 w3 h3 => ⟨?_, ?_⟩
    · rw [w3]
      have idem : ∀ ws : List Nat, wipe (wipe σ ws) ws = wipe σ ws := by
        intro ws
        have gen : ∀ (us : List Nat), (∀ u ∈ us, u ∈ ws) → wipe (wipe σ ws) us = wipe σ ws := by
          intro us
          induction us with
          | nil => intro _; rfl
          | cons u us ih =>
            intro hu
            show (wipe (wipe σ ws) us).set u none = wipe σ ws
            rw [ih fun v hv => hu v (List.mem_cons_of_mem _ hv)]
            have hu0 := hu u List.mem_cons_self
            have : ∀ ws : List Nat, u ∈ ws → (wipe σ ws).set u none = wipe σ ws := by
              intro ws
              induction ws with
              | nil => intro h; cases h
              | cons w ws ih2 =>
                intro h
                unfold wipe
                by_cases e : u = w
                · subst e
                  rw [List.set_set]
                · have h' : u ∈ ws := by
                    rcases List.mem_cons.mp h with z | z
                    · exact absurd z e
                    · exact z
                  rw [List.set_comm _ _ (Ne.symm e), ih2 h']
            exact this ws hu0
        exact gen ws fun _ h => h
      exact idem vs
    · refine ht σ3 H3 τ3 _ _ rel3 h3 fun b H4 e4 h4 => ?_
      have ex4 := ((ex.trans e2).trans e3).trans e4
      have keep := ((e2.trans e3).trans e4).1
      cases b with
      | true =>
        rw [if_pos rfl] at h4 ⊢
        refine ⟨τ3, _, rel3.ex e4, h4, fun z v H5 e5 i5 h5 => ?_⟩
        obtain ⟨n5, h5⟩ := h5
        have hva5 : H5 D0 = some (.lst va) := e5.1 _ _ nD (keep _ _ nD hva)
        have len := iva.len
        refine ⟨va, hva5, ?_, ?_, va ++ [v], acc ++ [z], upd_same, ?_, noLs_app nva (by show (noL z && true) = true; rw [n5]; rfl), by rw [List.length_append]; simp; omega, h5⟩
        · have : sizeLine = 16777216 := sizeLine_eq
          omega
        · have ex5 := ex4.trans e5
          refine ⟨fun b o nb e => ?_, ?_⟩
          · rw [upd_ne (ne_of_none e hD)]
            exact ex5.1 b o nb e
          · obtain ⟨x1, x2, p0, p1, p2, hp⟩ := ex5.2
            exact ⟨x1, x2, p0, p1, p2, by rw [upd_ne nD.symm]; exact hp⟩
        · exact IsL.noL hva5 ((iva.mono (fun b o nb e => e5.1 b o nb (keep b o nb e))).app (.cons i5 .nil)) (noLs_app nva (by show (noL z && true) = true; rw [n5]; rfl))
      | false =>
        rw [if_neg Bool.false_ne_true] at h4 ⊢
        exact ⟨ex4, va, acc, keep _ _ nD hva, iva.mono keep, nva, by omega, h4⟩
  · have e : i = l.length := by omega
    subst e
    rw [List.drop_length] at h
    exact .inl ⟨wd.stop H ex, q _ _ H ex (.lst (SqL.of hva) nD iva) h⟩
theorem pd_lc {elt tg iter : Expr} {scope : Scope} {own : List (Str × Nat)} {it : DI} {g : DG} {te : DE} {t : TG} (hc : X.calm = true) (hN : X.N.Nodup) (hi : PDI X p tg iter it) (ok : blkC X.N X.env.scope scope own = true)
    (hg : ∀ (s : Shared) (H : Hp) (C : Addr) (cl : List (Str × Addr)) (fp : List Addr), PDGw (X.blk s H scope (compEnvC scope cl C X.env) fp) p (own.map (·.2)) tg g t)
    (he : ∀ (s : Shared) (H : Hp) (C : Addr) (cl : List (Str × Addr)) (fp : List Addr), PD (X.blk s H scope (compEnvC scope cl C X.env) fp) p elt te) (hs : ∀ x, foldedSetIterable iter X.env x = pure x := by intro _; rfl) (sh : Shared) :
    PD X p (.ListComp elt [⟨tg, iter, [], 0⟩] scope pos) (dLc it g dYes te (own.map (·.2))) := by
  obtain ⟨wi, i1, i2⟩ := hi.run
  refine ⟨_, pe_lc (te := liftE X.K p te) hc hN i1 (blkOk_by ok) (fun s H C cl fp => (hg s H C cl fp).pg) (fun _ _ _ _ _ => pts_nil) (fun s H C cl fp => (he s H C cl fp).pe) hs, fun σ H τ Q R rel h q => ?_⟩
  refine i2 σ H τ _ _ rel h fun J H1 l e1 wd h1 => ?_
  intro D0 hD
  exact lc_run (K := X.K) (tt := dYes) hD e1.2 wd h1.1 (rel.ex e1) (hg sh H 0 [] []).go (fun σ H τ Q R rel h q => q true H (.refl rel.pk) h) h1.2 fun x v H' e i r => q x v H' (e1.trans e) i r
end
def dPar3 (i j l : Nat) (t : DA) : DS := fun E τ => t τ fun xs => match xs with
  | [x, y, z] => E.nx (((τ.set i (some x)).set j (some y)).set l (some z))
  | _ => False
theorem pds_par3 {X : Cx} {p : Addr} {pos : Pos} {i j l : Nat} {x y z : Str} {a b c : Expr} {ta : DA} {px py pz pt : Pos} {kt : Nat} {k2 : Nat} {pt2 : Pos} (hc : X.calm = true) (hN : X.N.Nodup) (hi : X.N[i]? = some x) (hj : X.N[j]? = some y) (hl : X.N[l]? = some z) (hij : i ≠ j) (hil : i ≠ l) (hjl : j ≠ l)
    (hx : X.env.scope.names.lookup x = some .local) (hy : X.env.scope.names.lookup y = some .local) (hz : X.env.scope.names.lookup z = some .local) (ha : PDA X p [a, b, c] ta)
    (hw : swappedStores [.Tuple [.Name x px, .Name y py, .Name z pz] kt pt] (.Tuple [a, b, c] k2 pt2) X.env = pure (some [x, y, z]))
    (hs : swapsWithSole [.Tuple [.Name x px, .Name y py, .Name z pz] kt pt] (.Tuple [a, b, c] k2 pt2) pos.line X.env = pure false := by rfl) :
    PDS X p (.Assign [.Tuple [.Name x px, .Name y py, .Name z pz] kt pt] (.Tuple [a, b, c] k2 pt2) pos) (dPar3 i j l ta) := by
  obtain ⟨a, a1, a2⟩ := ha.run
  refine ⟨_, ps_par3 hc hN hi hj hl hij hil hjl hx hy hz a1 hw hs, fun H0 σ H τ E E' ex rel h ag => ?_⟩
  refine a2 σ H τ _ _ rel h fun xs vs H1 e1 i1 l1 r1 => ?_
  match xs, r1 with
  | [u, v, w], r1 =>
    cases i1 with
    | cons i1 i2 =>
      cases i2 with
      | cons i2 i3 =>
        cases i3 with
        | cons i3 i4 =>
          cases i4
          exact ⟨_, _, _, rfl, ag.nx _ H1 _ (ex.trans e1) ((((rel.ex e1).set i1).set i2).set i3) r1⟩
theorem pds_pass {X : Cx} {p : Addr} {pos : Pos} : PDS X p (.Pass pos) dNext := ⟨_, ps_pass, fun H0 σ H τ E E' ex rel h ag => ag.nx σ H τ ex rel h⟩
/-! ### chains of any length -/
structure PCh (X : Cx) (p : Addr) (ops : List CmpOp) (es : List Expr) (d : D → DE) : Prop where
  run : ∀ (pos : Pos) (pins : List (Addr × Obj)) (s : Shared) (σ : L2.St) (H : Hp) (τ : Sl) (v : V) (u : Value) (x : D) (Q : VK) (R : D → Prop), Inv X pins σ H s → Rel X.K p σ H τ → RelV v u → Is X.K p H v x → d x τ R → (∀ z v' H', Ex p H H' → Is X.K p H' v' z → R z → Q v' H') →
    wpAny (model X.prog X.w) X.A (compareChain pos u ops (evalEach es X.env)) (EP X pins σ Q) X.xe s
structure PCt (X : Cx) (p : Addr) (ops : List CmpOp) (es : List Expr) (d : D → DT) : Prop where
  run : ∀ (pos : Pos) (pins : List (Addr × Obj)) (s : Shared) (σ : L2.St) (H : Hp) (τ : Sl) (v : V) (u : Value) (x : D) (Q : Bool → Hp → Prop) (R : Bool → Prop), Inv X pins σ H s → Rel X.K p σ H τ → RelV v u → Is X.K p H v x → d x τ R → (∀ b H', Ex p H H' → R b → Q b H') →
    wpAny (model X.prog X.w) X.A (testChain pos u ops (evalEach es X.env)) (TP X pins σ Q) X.xe s
def cLast (g : D → D → (D → Prop) → Prop) (dc : DE) : D → DE := fun x τ R => dc τ fun w => g x w R
def cLink (g : D → D → (D → Prop) → Prop) (db : DE) (d : D → DE) : D → DE := fun x τ R => db τ fun y => g x y fun z => match z with
  | .bl k => if k = true then d y τ R else R (.bl false)
  | _ => False
def tLast (g : D → D → (D → Prop) → Prop) (dc : DE) : D → DT := fun x τ R => dc τ fun w => g x w fun z => match z with
  | .bl k => R k
  | _ => False
def tLink (g : D → D → (D → Prop) → Prop) (db : DE) (d : D → DT) : D → DT := fun x τ R => db τ fun y => g x y fun z => match z with
  | .bl k => if k = true then d y τ R else R false
  | _ => False
def dCh (da : DE) (d : D → DE) : DE := fun τ R => da τ fun x => d x τ R
def dCt (da : DE) (d : D → DT) : DT := fun τ R => da τ fun x => d x τ R
section
variable {X : Cx} {p : Addr} {a b : Expr} {da db : DE} {op op' : CmpOp} {ops : List CmpOp} {es : List Expr} {e' : Expr} {g : D → D → (D → Prop) → Prop} {pos : Pos}
theorem pch_last (ho : OpD X p (compareOp op) g) (hb : PD X p b db) : PCh X p [op] [b] (cLast g db) := by
  obtain ⟨r, h1, h2⟩ := ho
  refine ⟨fun pos pins s σ H τ v u x Q R I rel rv iv h q => chain_last (thn (hb.pe.run pins s σ H (fun v' H' => r v v' H' Q) I ⟨τ, _, rel, h, fun y v' H1 e1 i1 k1 => h2 H1 x y v v' Q R e1.2 (iv.mono e1.1) i1 k1 fun z v2 H2 e2 i2 k2 => q z v2 H2 (e1.trans e2) i2 k2⟩) ?_)⟩
  rintro u2 s2 ⟨v2, H2, I2, r2, k2⟩
  exact h1 pins s2 σ H2 v v2 u u2 Q I2 rv r2 k2
theorem pch_cons {d : D → DE} (ho : OpD X p (compareOp op) g) (hb : PD X p b db) (ht : PCh X p (op' :: ops) (e' :: es) d) : PCh X p (op :: op' :: ops) (b :: e' :: es) (cLink g db d) := by
  obtain ⟨r, h1, h2⟩ := ho
  refine ⟨fun pos pins s σ H τ v u x Q R I rel rv iv h q => chain_link (thn (hb.pe.run pins s σ H (fun v' H' => ∃ y, Ex p H H' ∧ Is X.K p H' v' y ∧ r v v' H' fun z H2 => ∃ k, z = .bl k ∧ Ex p H H2 ∧ Is X.K p H2 v' y ∧ (if k = true then d y τ R else R (.bl false))) I ⟨τ, _, rel, h, fun y v' H1 e1 i1 k1 => ⟨y, e1, i1, h2 H1 x y v v' _ _ e1.2 (iv.mono e1.1) i1 k1 fun z v2 H2 e2 i2 k2 => ?_⟩⟩) ?_)⟩
  · cases i2 with
    | bl k => exact ⟨k, rfl, e1.trans e2, i1.mono e2.1, k2⟩
    | _ => exact k2.elim
  · rintro u2 s2 ⟨v2, H2, I2, r2, y, e2, i2, k2⟩
    refine thn (h1 pins s2 σ H2 v v2 u u2 _ I2 rv r2 k2) ?_
    rintro u3 s3 ⟨v3, H3, I3, r3, k, rfl, e3, i3, k3⟩
    cases r3
    refine wpAny_truthy_bool ?_
    cases k with
    | false =>
      rw [if_neg Bool.false_ne_true] at k3 ⊢
      exact ⟨.bl false, H3, I3, rfl, q _ _ H3 e3 (.bl false) k3⟩
    | true =>
      rw [if_pos rfl] at k3 ⊢
      exact ht.run pos pins s3 σ H3 τ v2 u2 y Q R I3 (rel.ex e3) r2 i3 k3 fun z v' H' e i rr => q z v' H' (e3.trans e) i rr
theorem pct_last (ho : OpD X p (compareOp op) g) (hb : PD X p b db) : PCt X p [op] [b] (tLast g db) := by
  obtain ⟨r, h1, h2⟩ := ho
  refine ⟨fun pos pins s σ H τ v u x Q R I rel rv iv h q => test_last (thn (hb.pe.run pins s σ H (fun v' H' => r v v' H' fun z H2 => ∃ k, z = .bl k ∧ Q k H2) I ⟨τ, _, rel, h, fun y v' H1 e1 i1 k1 => h2 H1 x y v v' _ _ e1.2 (iv.mono e1.1) i1 k1 fun z v2 H2 e2 i2 k2 => ?_⟩) ?_)⟩
  · cases i2 with
    | bl k => exact ⟨k, rfl, q k H2 (e1.trans e2) k2⟩
    | _ => exact k2.elim
  · rintro u2 s2 ⟨v2, H2, I2, r2, k2⟩
    refine thn (h1 pins s2 σ H2 v v2 u u2 _ I2 rv r2 k2) ?_
    rintro u3 s3 ⟨v3, H3, I3, r3, k, rfl, k3⟩
    cases r3
    exact wpAny_truthy_bool ⟨H3, I3, k3⟩
theorem pct_cons {d : D → DT} (ho : OpD X p (compareOp op) g) (hb : PD X p b db) (ht : PCt X p (op' :: ops) (e' :: es) d) : PCt X p (op :: op' :: ops) (b :: e' :: es) (tLink g db d) := by
  obtain ⟨r, h1, h2⟩ := ho
  refine ⟨fun pos pins s σ H τ v u x Q R I rel rv iv h q => test_link (thn (hb.pe.run pins s σ H (fun v' H' => ∃ y, Ex p H H' ∧ Is X.K p H' v' y ∧ r v v' H' fun z H2 => ∃ k, z = .bl k ∧ Ex p H H2 ∧ Is X.K p H2 v' y ∧ (if k = true then d y τ R else R false)) I ⟨τ, _, rel, h, fun y v' H1 e1 i1 k1 => ⟨y, e1, i1, h2 H1 x y v v' _ _ e1.2 (iv.mono e1.1) i1 k1 fun z v2 H2 e2 i2 k2 => ?_⟩⟩) ?_)⟩
  · cases i2 with
    | bl k => exact ⟨k, rfl, e1.trans e2, i1.mono e2.1, k2⟩
    | _ => exact k2.elim
  · rintro u2 s2 ⟨v2, H2, I2, r2, y, e2, i2, k2⟩
    refine thn (h1 pins s2 σ H2 v v2 u u2 _ I2 rv r2 k2) ?_
    rintro u3 s3 ⟨v3, H3, I3, r3, k, rfl, e3, i3, k3⟩
    cases r3
    refine wpAny_truthy_bool ?_
    cases k with
    | false =>
      rw [if_neg Bool.false_ne_true] at k3 ⊢
      exact ⟨H3, I3, q _ H3 e3 k3⟩
    | true =>
      rw [if_pos rfl] at k3 ⊢
      exact ht.run pos pins s3 σ H3 τ v2 u2 y Q R I3 (rel.ex e3) r2 i3 k3 fun z H' e rr => q z H' (e3.trans e) rr
theorem pd_chainN {d : D → DE} (ha : PD X p a da) (ht : PCh X p (op :: op' :: ops) (b :: e' :: es) d) (hm : lastMarks (op :: op' :: ops) (b :: e' :: es) = false := by with_unfolding_all rfl) : PD X p (.Compare a (op :: op' :: ops) (b :: e' :: es) pos) (dCh da d) := by
  refine ⟨liftE X.K p (dCh da d), ⟨fun pins s σ H Q I hq => ?_⟩, fun σ H τ Q R rel h q => ⟨τ, R, rel, h, q⟩⟩
  obtain ⟨τ, R, rel, h, q⟩ := hq
  refine Compare_chain (thn (ha.pe.run pins s σ H (fun v' H' => ∃ x, Ex p H H' ∧ Is X.K p H' v' x ∧ d x τ R) I ⟨τ, _, rel, h, fun x v' H1 e1 i1 k1 => ⟨x, e1, i1, k1⟩⟩) ?_) hm
  rintro u1 s1 ⟨v1, H1, I1, r1, x, e1, i1, k1⟩
  exact ht.run pos pins s1 σ H1 τ v1 u1 x Q R I1 (rel.ex e1) r1 i1 k1 fun z v' H' e i rr => q z v' H' (e1.trans e) i rr
theorem pdt_chainN {d : D → DT} (ha : PD X p a da) (ht : PCt X p (op :: op' :: ops) (b :: e' :: es) d) (hm : lastMarks (op :: op' :: ops) (b :: e' :: es) = false := by with_unfolding_all rfl) : PDT X p (.Compare a (op :: op' :: ops) (b :: e' :: es) pos) (dCt da d) := by
  refine ⟨liftT X.K p (dCt da d), ⟨fun pins s σ H Q I hq => ?_⟩, fun σ H τ Q R rel h q => ⟨τ, R, rel, h, q⟩⟩
  obtain ⟨τ, R, rel, h, q⟩ := hq
  refine isTrue_chain (thn (ha.pe.run pins s σ H (fun v' H' => ∃ x, Ex p H H' ∧ Is X.K p H' v' x ∧ d x τ R) I ⟨τ, _, rel, h, fun x v' H1 e1 i1 k1 => ⟨x, e1, i1, k1⟩⟩) ?_) hm
  rintro u1 s1 ⟨v1, H1, I1, r1, x, e1, i1, k1⟩
  exact ht.run pos pins s1 σ H1 τ v1 u1 x Q R I1 (rel.ex e1) r1 i1 k1 fun z H' e rr => q z H' (e1.trans e) rr
end
end DL
/-! The end of a law whose defs show containers. -/
namespace DL
open PySem PySem.Spec L2
open PyProof.Rows hiding St

/-- the script alone is tracked, as it stands -/
def onlyAt (a : Addr) (vs : List Value) (ns : List Int) : Hp := fun b => if b = a then some (.frz { cls := .type "list", data := .seq vs.toArray } (.lst (ns.map V.int))) else none
theorem callTop {P : Program} {w : World} {K : PySem.W.Frag} {mg mb : Str → Option Value} {k : Nat} {fa a : Addr} {fd : FuncData} {x : Str} {sp : Sp} {s : Shared} {vs : List Value} {ns : List Int}
    (inK : K.In s.heap) (gl : s.heap.Ns mainGlobals mg) (bl : s.heap.Ns builtinsNs mb) (ble : ∀ x : Str, x ≠ "__name__" → mb x = bootBuiltins x) (lim : s.heap.NoLimit) (gens : s.gens = #[])
    (obj : s.heap.get? a = some { cls := .type "list", data := .seq vs.toArray }) (isI : IntsAre vs ns) (len : ns.length ≤ sizeLine) (room : Room k callerA)
    (F : ∀ base : Heap, K.In base → base.Ns mainGlobals mg → FnG P w K mg base CX0 k fa fd [x] sp) (bind : ∀ (s : Shared) (u : Value), BindsTo s fd ⟨[u], []⟩ [(x, u)])
    (prom : ∀ H : Hp, Only H → SqL K H a (ns.map V.int) → sp [.ref a] H (fun v _ => v = .bl true) fun _ _ _ => False) :
    codeAny (model P w) callerA (.call (.ref fa) ⟨[.ref a], []⟩) (fun r s' => r = .ok (.ret (.bool true)) ∧ OldK s.heap s'.heap ∧ s'.os = s.os ∧ AllBare s'.gens) s := by
  have vals := vals_ints isI
  suffices main : ∀ H : Hp, Only H → SqL K H a (ns.map V.int) → HOk P w H s.heap → (∀ b, H b ≠ none → b = a ∧ K.lookup a = none) →
      codeAny (model P w) callerA (.call (.ref fa) ⟨[.ref a], []⟩) (fun r s' => r = .ok (.ret (.bool true)) ∧ OldK s.heap s'.heap ∧ s'.os = s.os ∧ AllBare s'.gens) s by
    by_cases hk : K.lookup a = none
    · refine main (onlyAt a vs ns) (fun b => ?_) (.inl (.inr ⟨{ cls := .type "list", data := .seq vs.toArray }, if_pos rfl⟩)) (fun b o e => ?_) fun b nz => ?_
      · unfold onlyAt
        split
        · exact .inr ⟨_, _, rfl⟩
        · exact .inl rfl
      · unfold onlyAt at e
        split at e
        · rename_i eb
          subst eb
          cases e
          exact ⟨obj, by rw [List.length_map]; exact len, vs, _, vals, obj⟩
        · cases e
      · refine ⟨?_, hk⟩
        unfold onlyAt at nz
        split at nz
        · assumption
        · exact absurd rfl nz
    · obtain ⟨o, ho⟩ := Option.ne_none_iff_exists'.mp hk
      have same := inK a o ho
      rw [obj] at same
      cases same
      have lv := isI.length
      refine main (fun _ => none) (fun _ => .inl rfl) (.inr ⟨_, vs.toArray, _, ho, rfl, rfl, rfl, ?_, ?_⟩) (fun b o e => nomatch e) fun b nz => absurd rfl nz
      · rw [List.size_toArray, lv]
        exact len
      · simpa using vals
  intro H hO hS ok at_
  have dict : ∀ {b : Addr} {m : Str → Option Value}, s.heap.Ns b m → (hidT s.heap H).Ns b m := by
    rintro b m ⟨o, es, ep, e, d, r⟩
    refine ⟨o, es, ep, hidT_get e ?_, d, r⟩
    cases z : H b with
    | none => rfl
    | some u =>
      obtain ⟨rfl, _⟩ := at_ b (by rw [z]; exact Option.some_ne_none u)
      rw [obj] at e
      cases e
      exact nomatch (show Data.seq vs.toArray _ = Data.dict es ep from d)
  have kin : K.In (hidT s.heap H) := fun b o e => hidT_get (inK b o e) (by
    cases z : H b with
    | none => rfl
    | some u =>
      obtain ⟨rfl, n⟩ := at_ b (by rw [z]; exact Option.some_ne_none u)
      rw [n] at e
      exact nomatch e)
  have mod : Mod K mg (hidT s.heap H) := ⟨kin, dict gl, ⟨mb, dict bl, ble⟩, by
    obtain ⟨mc, h1, h2⟩ := lim
    exact ⟨mc, dict h1, h2⟩⟩
  have e0 : Env0 P w K mg (hidT s.heap H) callerA [] s H := ⟨rfl, mod, fun b o e => of_hidT e, Nat.le_of_eq (hidT_size _ _), trivial, fun b z => absurd (show b ∈ ([] : List Addr) from z) List.not_mem_nil, ok, .of_eq gens⟩
  refine codeAny_mono ((F _ kin (dict gl)).go callerA [] s H ⟨[.ref a], []⟩ [.ref a] [.ref a] _ _ rfl room e0 (bind s (.ref a)) (.cons rfl .nil) (prom H hO hS)) ?_
  rintro r s' out
  match r, out with
  | .error _, o => exact False.elim o
  | .ok .next, o => exact False.elim o
  | .ok .brk, o => exact False.elim o
  | .ok .cont, o => exact False.elim o
  | .ok (.ret u), o =>
    obtain ⟨v, H', os, bare, un, ok', rv, ev⟩ := o
    have ev : v = .bl true := ev
    subst ev
    cases rv
    refine ⟨rfl, OldK.of_keep fun b o e => ?_, os, bare⟩
    rcases hO b with z | ⟨ob, xs, z⟩
    · exact un.keep b o e z (fun m => absurd (show b ∈ ([] : List Addr) from m) List.not_mem_nil) (fun m => absurd (show b ∈ ([] : List Addr) from m) List.not_mem_nil)
    · obtain ⟨e1, _⟩ := ok b _ z
      obtain ⟨e2, _⟩ := ok' b _ (un.frzs b ob _ z)
      rw [e] at e1
      cases e1
      exact e2
theorem walkG {l : PySem.W.OpenLaw} {n k : Nat} {q : Program} {loose : List Str} {XP : (Str → Option Value) → Heap → Prop} {YP : World → Heap → Prop} {d : DefRec} {K : Params → PySem.W.Frag} {sp : PySem.W.Frag → Sp} {x : Str}
    (hn : l.most = some n) (hn2 : n ≤ sizeLine) (hdf : d.params.defaults = []) (hr : Room k callerA) (hY : ∀ (w : World) (h : Heap), YP w h → (K w.params).In h)
    (F : ∀ (w : World) (mg : Str → Option Value) (fa : Addr) (h : Heap), (K w.params).In h → h.Ns mainGlobals mg → mg d.name = some (.ref fa) →
      ∃ fd : FuncData, (∀ (s : Shared) (u : Value), BindsTo s fd ⟨[u], []⟩ [(x, u)]) ∧ ∀ base : Heap, (K w.params).In base → base.Ns mainGlobals mg → FnG l.prog w (K w.params) mg base CX0 k fa fd [x] (sp (K w.params)))
    (hsp : ∀ (K : PySem.W.Frag) (H : Hp) (a : Addr) (ns : List Int), ns.length ≤ n → Only H → SqL K H a (ns.map V.int) → sp K [.ref a] H (fun v _ => v = .bl true) fun _ _ _ => False) :
    PySem.W.WalkO q loose XP YP l.row.toRowW d [] (fun f vs => PySem.call f vs) := by
  refine Att.attach_callB hn hdf fun w s₀ s₁ mg mb fa o pm cd doc a vs ns G Y ho hd hcd hmg obj isI hlen _ gens => ?_
  have inK := hY w _ Y
  obtain ⟨fd, hb, hF⟩ := F w mg fa _ inK G.T.g hmg
  exact callTop inK G.T.g G.T.b G.T.builtins G.T.nolimit gens obj isI (Nat.le_trans hlen hn2) hr hF hb fun H hO hS => hsp _ H a ns hlen hO hS
end DL
namespace LW
open PySem PySem.Spec L2 DL
open PyProof.Rows hiding St
def top (i : Nat) : Stmt := PySem.Challenge.pw_truecourse_k34_whole_roots_and_quotients.main.body.getD i (.Pass ⟨0, 0, 0, 0⟩)
abbrev s_in_bounds : Stmt := top 12
theorem sc_in_bounds : FnScope ["low", "high"] ["low", "high"] (defScope s_in_bounds) := ⟨rfl, rfl, rfl, by decide +kernel, rfl, by decide +kernel, by decide +kernel⟩
abbrev s_is_integer : Stmt := top 15
theorem sc_is_integer : FnScope ["value"] ["value"] (defScope s_is_integer) := ⟨rfl, rfl, rfl, by decide +kernel, rfl, by decide +kernel, by decide +kernel⟩
abbrev s__law_draw : Stmt := top 25
theorem sc__law_draw : FnScope ["_law_pot_here", "_law_many", "_law_digit"] ["_law_pot_here", "_law_many"] (defScope s__law_draw) := ⟨rfl, rfl, rfl, by decide +kernel, rfl, by decide +kernel, by decide +kernel⟩
abbrev s_grain_over : Stmt := top 13
theorem sc_grain_over : FnScope ["one", "other", "low", "high", "least", "greatest", "below", "above"] ["one", "other"] (defScope s_grain_over) := ⟨rfl, rfl, rfl, by decide +kernel, rfl, by decide +kernel, by decide +kernel⟩
abbrev s_is_interval : Stmt := top 17
theorem sc_is_interval : FnScope ["value", "low", "high"] ["value"] (defScope s_is_interval) := ⟨rfl, rfl, rfl, by decide +kernel, rfl, by decide +kernel, by decide +kernel⟩
abbrev s_check_interval : Stmt := top 18
theorem sc_check_interval : FnScope ["interval"] ["interval"] (defScope s_check_interval) := ⟨rfl, rfl, rfl, by decide +kernel, rfl, by decide +kernel, by decide +kernel⟩
abbrev s__root_above : Stmt := top 20
theorem sc__root_above : FnScope ["number", "root"] ["number"] (defScope s__root_above) := ⟨rfl, rfl, rfl, by decide +kernel, rfl, by decide +kernel, by decide +kernel⟩
abbrev s_root_of : Stmt := top 21
theorem sc_root_of : FnScope ["interval", "low", "high"] ["interval"] (defScope s_root_of) := ⟨rfl, rfl, rfl, by decide +kernel, rfl, by decide +kernel, by decide +kernel⟩
abbrev s_over_of : Stmt := top 22
theorem sc_over_of : FnScope ["interval"] ["interval"] (defScope s_over_of) := ⟨rfl, rfl, rfl, by decide +kernel, rfl, by decide +kernel, by decide +kernel⟩
abbrev s__law_root_right : Stmt := top 26
theorem sc__law_root_right : FnScope ["_law_told", "_law_low", "_law_high", "_law_one", "_law_near", "_law_far"] ["_law_told", "_law_low", "_law_high"] (defScope s__law_root_right) := ⟨rfl, rfl, rfl, by decide +kernel, rfl, by decide +kernel, by decide +kernel⟩
abbrev s__law_over : Stmt := top 27
theorem sc__law_over : FnScope ["_law_low", "_law_high", "_law_whole", "_law_some", "_law_number_here", "_law_under"] ["_law_low", "_law_high"] (defScope s__law_over) := ⟨rfl, rfl, rfl, by decide +kernel, rfl, by decide +kernel, by decide +kernel⟩
abbrev s__law_number : Stmt := top 28
theorem sc__law_number : FnScope ["_law_pot_here", "_law_way", "_law_root", "_law_found", "_law_turn"] ["_law_pot_here"] (defScope s__law_number) := ⟨rfl, rfl, rfl, by decide +kernel, rfl, by decide +kernel, by decide +kernel⟩
abbrev s__law_interval : Stmt := top 29
theorem sc__law_interval : FnScope ["_law_pot_here", "_law_one", "_law_other"] ["_law_pot_here"] (defScope s__law_interval) := ⟨rfl, rfl, rfl, by decide +kernel, rfl, by decide +kernel, by decide +kernel⟩
abbrev s__law_right : Stmt := top 30
theorem sc__law_right : FnScope ["_law_pot_here", "_law_turn", "_law_low", "_law_high", "_law_told", "_law_inner", "_law_near", "_law_back"] ["_law_pot_here"] (defScope s__law_right) := ⟨rfl, rfl, rfl, by decide +kernel, rfl, by decide +kernel, by decide +kernel⟩
abbrev s__law_pot : Stmt := top 24
theorem sc__law_pot : FnScope ["_law_script", "_law_k", "_law_cell"] ["_law_script", "_law_k"] (defScope s__law_pot) := ⟨rfl, rfl, rfl, by decide +kernel, rfl, by decide +kernel, by decide +kernel⟩
abbrev s_law : Stmt := top 31
theorem sc_law : FnScope ["_law_script"] ["_law_script"] (defScope s_law) := ⟨rfl, rfl, rfl, by decide +kernel, rfl, by decide +kernel, by decide +kernel⟩
/-- what else the top has left -/
structure Txt (K : PySem.W.Frag) (mg : Str → Option Value) where
  b_abs : mg "abs" = none
  b_all : mg "all" = none
  b_bool : mg "bool" = none
  b_divmod : mg "divmod" = none
  b_int : mg "int" = none
  b_isinstance : mg "isinstance" = none
  b_len : mg "len" = none
  b_max : mg "max" = none
  b_min : mg "min" = none
  b_range : mg "range" = none
  b_repr : mg "repr" = none
  b_tuple : mg "tuple" = none
  t_MOST_GRAINS : Tok
  m_MOST_GRAINS : mg "MOST_GRAINS" = some (.int 1180591620717411303424 t_MOST_GRAINS)
  t_ONE : Tok
  m_ONE : mg "ONE" = some (.int 1099511627776 t_ONE)
  a_WHOLE : Addr
  o_WHOLE : Obj
  m_WHOLE : mg "WHOLE" = some (.ref a_WHOLE)
  l_WHOLE : K.lookup a_WHOLE = some o_WHOLE
  k_WHOLE : KTup K a_WHOLE (.tup [.int 1099511627776, .int 1099511627776])
  m_isqrt : mg "isqrt" = some (.builtin "math.isqrt")
local macro_rules | `(tactic| walk_at "dl") => `(tactic| simp only [startD, List.map_cons, List.map_nil, List.length_cons, List.length_nil, List.replicate, List.cons_append, List.nil_append, Nat.reduceAdd, Nat.reduceSub, Nat.zero_add,
  dSeq, dIfS, dOr, dAnd, dNot, dTst, dOp, dUn, dVar, dC, dB, dBK, dCons, dNil, dTup, dLst, dRet, dRetN, dNext, dNever, dAsg, dPar, dPar3, dIf, dAndV, dOrV, dNotV, dCh, dCt, cLast, cLink, tLast, tLink, dDrop, dFor,
  gN, gTu, gCn, gNl, gP0, gP1, gII, gIIc, gAdd, gNeg, gIx, gEq, gNe, cI1, cI2, cLen, cMax, cMin, cAll, cAny, cRepr, cSqrt, cIsi, tyN, isNon, kb_tt, kb_ii, kb_ib, kb_bi, kb_bb, kb_it, kb_bt, kb_nt, kb_ni, kb_lt, kb_li, kb_ti, kb_si, kb_st, kb_ss,
  atD, ordD, dSq, dRg1, dRg2, dLc, dYes, dLcGo, wipeD, boolsOf, intsOf, maxL, minL, noL, noLs, Option.map_some, Option.bind_some, List.all_cons, List.all_nil, List.any_cons, List.any_nil, id_eq,
  List.set_cons_zero, List.set_cons_succ, List.getElem?_cons_zero, List.getElem?_cons_succ, List.getElem?_nil, List.getD_cons_zero, List.getD_cons_succ, decide_eq_true_eq, decide_eq_false_iff_not, Bool.not_eq_true', Bool.not_true, Bool.not_false, Bool.and_true, Bool.true_and, Bool.and_false, Bool.false_and, Bool.false_eq_true, if_true, if_false, reduceIte, ite_true, ite_false, true_and, and_true, reduceCtorEq, Int.toNat_zero, Int.toNat_one, Int.cast_ofNat_Int, Int.reduceLT, Int.reduceLE, Int.reduceNeg, Int.reduceToNat, Int.reducePow, Int.reduceMul, Int.reduceAdd, Int.reduceSub, decide_true, decide_false])

theorem em0 {a n : Int} (h : 0 < n) : 0 ≤ a % n := Int.emod_nonneg a (by omega)
theorem em1 {a n : Int} (h : 0 < n) : a % n < n := Int.emod_lt_of_pos a h
theorem ed0 {a n : Int} (h : 0 ≤ a) (h1 : 0 < n) : 0 ≤ a / n := Int.ediv_nonneg h (by omega)
theorem ifN {c A : Prop} [Decidable c] (h : ¬ c) (k : A) : if c then False else A := by rw [if_neg h]; exact k
theorem ifNr {c A : Prop} [Decidable c] (h : c) (k : A) : if c then A else False := by rw [if_pos h]; exact k
local macro_rules | `(tactic| walk_at "dl c") => `(tactic| first | assumption | omega | (exact BD.of (by omega) (by omega)) | (exact BS.of (by omega) (by omega)) | (exact MulC.left (by omega) (by omega)) | (exact MulC.right (by omega) (by omega)) | (exact MulC.wide (by omega) (by omega) (by omega) (by omega)) | (exact em0 (by omega)) | (exact em1 (by omega)) | (exact ed0 (by omega) (by omega)))

/-- a loop by an invariant over the place -/
theorem forInv {g : DG} {body : DS} {E : DEn} (I : Nat → Sl → Prop) (l : List D) (τ : Sl) (h0 : I 0 τ)
    (step : ∀ (k : Sl → Prop) (i : Nat) (x : D) (τ : Sl), l[i]? = some x → (∀ τ', I (i + 1) τ' → k τ') → I i τ → g x τ fun τ2 => body { nx := k, rt := E.rt, bk := E.nx, ct := k } τ2)
    (fin : ∀ τ, I l.length τ → E.nx τ) : dForGo g body E l τ := by
  have key : ∀ (r : List D) (i : Nat) (τ : Sl), l.drop i = r → i ≤ l.length → I i τ → dForGo g body E r τ := by
    intro r
    induction r with
    | nil =>
      intro i τ e hi h
      have : l.length ≤ i := by
        have := congrArg List.length e
        rw [List.length_drop, List.length_nil] at this
        omega
      have e2 : i = l.length := by omega
      subst e2
      exact fin τ h
    | cons x r ih =>
      intro i τ e hi h
      have hlt : i < l.length := by
        have := congrArg List.length e
        rw [List.length_drop, List.length_cons] at this
        omega
      rw [List.drop_eq_getElem_cons hlt] at e
      injection e with e1 e2
      exact step _ i x τ (by rw [List.getElem?_eq_getElem hlt, e1]) (fun τ' h' => ih (i + 1) τ' e2 hlt h') h
  exact key l 0 τ rfl (Nat.zero_le _) h0
theorem le_sq {r : Int} (h : 0 ≤ r) : r ≤ r * r := by
  by_cases e : r = 0
  · subst e; decide
  · have := Int.mul_le_mul_of_nonneg_left (show 1 ≤ r by omega) h
    omega
theorem sq_le_sq {a b : Int} (h : 0 ≤ a) (hab : a ≤ b) : a * a ≤ b * b := Int.mul_le_mul hab hab h (by omega)
theorem of_sq_lt {a b : Int} (hb : 0 ≤ b) (h : a * a < b * b) : a < b := by
  by_cases c : a < b
  · exact c
  · have := sq_le_sq hb (show b ≤ a by omega)
    omega
theorem of_sq_le {a b : Int} (hb : 0 ≤ b) (h : a * a ≤ b * b) : a ≤ b := by
  by_cases c : a ≤ b
  · exact c
  · have h1 : (b + 1) * (b + 1) ≤ a * a := sq_le_sq (by omega) (by omega)
    have h2 : (b + 1) * (b + 1) = b * b + 2 * b + 1 := by rw [Int.add_mul, Int.mul_add]; omega
    omega
theorem pred_sq (r : Int) : (r - 1) * (r - 1) = r * r - 2 * r + 1 := by rw [Int.sub_mul, Int.mul_sub]; omega
theorem div_anti {w c d : Int} (h : 0 ≤ w) (hc : 0 < c) (hd : c ≤ d) : w / d ≤ w / c := by
  have h1 : w / d * d ≤ w := Int.ediv_mul_le w (by omega)
  have h2 : 0 ≤ w / d := Int.ediv_nonneg h (by omega)
  have h3 : w / d * c ≤ w / d * d := Int.mul_le_mul_of_nonneg_left hd h2
  exact Int.le_ediv_of_mul_le hc (by omega)
theorem div_anti_neg {w c d : Int} (h : 0 ≤ w) (hc : 0 < c) (hd : c ≤ d) : (-w) / c ≤ (-w) / d := by
  have h0 : (-w) / c ≤ 0 := by
    have := Int.ediv_mul_le (-w) (show c ≠ 0 by omega)
    by_cases z : (-w) / c ≤ 0
    · exact z
    · have := Int.mul_pos (show 0 < (-w) / c by omega) hc
      omega
  have h1 : (-w) / c * c ≤ -w := Int.ediv_mul_le (-w) (by omega)
  have h3 : (-w) / c * d ≤ (-w) / c * c := by
    have := Int.mul_le_mul_of_nonneg_left hd (show 0 ≤ -((-w) / c) by omega)
    rw [Int.neg_mul, Int.neg_mul] at this
    omega
  exact Int.le_ediv_of_mul_le (by omega) (by omega)

/-- a block cut at a statement, by what holds behind it -/
theorem seqI {t u : DS} {E : DEn} {τ : Sl} (Good : Sl → Prop) (h1 : ∀ K : Sl → Prop, (∀ τ', Good τ' → K τ') → t { E with nx := K } τ) (h2 : ∀ τ', Good τ' → u E τ') : dSeq t u E τ := h1 (u E) h2

theorem small_log {i : Int} (h0 : -1606938044258990275541962092341162602522202993782792835301376 < i) (h1 : i < 1606938044258990275541962092341162602522202993782792835301376) : i.natAbs.log2 < 1920 := by
  have e : (2 : Nat) ^ 200 = 1606938044258990275541962092341162602522202993782792835301376 := by decide +kernel
  exact Nat.lt_of_lt_of_le (PySem.Flt.log2_lt_of (k := 200) (by decide) (by rw [e]; omega)) (by decide)

theorem ceil_ge {w n u : Int} (hu : 0 < u) (h : n * u ≤ w) : n ≤ -(-w / u) := by
  have h1 : -w / u ≤ -n := by
    have e : -w / u * u ≤ -w := Int.ediv_mul_le (-w) (by omega)
    by_cases c : -w / u ≤ -n
    · exact c
    · have h2 : (-n + 1) * u ≤ -w / u * u := Int.mul_le_mul_of_nonneg_right (show -n + 1 ≤ -w / u by omega) (by omega)
      have h3 : (-n + 1) * u = -(n * u) + u := by rw [Int.add_mul, Int.neg_mul, Int.one_mul]
      omega
  omega
-- rawdefs: _law_pot law
-- T.b_abs T.b_len T.b_max T.b_int
section
variable {P : Program} {w : World} {K : PySem.W.Frag} {mg : Str → Option Value} {base : Heap}
def sp_in_bounds : SpD :=
  fun ds R => match ds with
  | [.int a, .int b] => (-1180591620717411303424 ≤ a ∧ b ≤ 1180591620717411303424) ∧ R (.tup [.int a, .int b])
  | _ => False
theorem ok_in_bounds (T : Txt K mg) (D0 : Dfn K mg "in_bounds" "in_bounds" s_in_bounds ["low", "high"] [])  : Cal P w K mg base "in_bounds" 1 2 ["low", "high"] [] sp_in_bounds := by
  refine cal_of D0 sc_in_bounds fun f cdv A outer s H E p hg hk hr pk => ⟨_, (pdss_cons (pds_if (pdw_t (pdw_or (pdt_cmp opd_lt (pd_var 0) (pd_un und_neg (pd_gint rfl T.m_MOST_GRAINS))) (pdw_or1 (pdt_cmp opd_gt (pd_var 1) (pd_gint rfl T.m_MOST_GRAINS))))) (pdss_one pds_never) pdss_nil)
      (pdss_one (pds_ret (pd_tup (pda_cons (pd_var 0) (pda_cons (pd_var 1) pda_nil)))))), ?_⟩
  intro ds R hl h; unfold sp_in_bounds at h; split at h
  all_goals (try exact False.elim h)
  all_goals clear hl hg hr hk pk
  rename_i a b
  obtain ⟨⟨h1, h2⟩, h⟩ := h
  simp only [startD, List.map_cons, List.map_nil, List.length_cons, List.length_nil, List.replicate, List.cons_append, List.nil_append, Nat.reduceAdd, Nat.reduceSub, Nat.zero_add, dSeq, dIfS, dOr, dAnd, dNot, dTst, dOp, dUn, dVar, dC, dB, dBK, dCons, dNil, dTup, dLst, dRet, dRetN, dNext, dNever, dAsg, dPar, dPar3, dIf, dAndV, dOrV, dNotV, dCh, dCt, cLast, cLink, tLast, tLink, dDrop, dFor, gN, gTu, gCn, gNl, gP0, gP1, gII, gIIc, gAdd, gNeg, gIx, gEq, gNe, cI1, cI2, cLen, cMax, cMin, cAll, cAny, cRepr, cSqrt, cIsi, tyN, isNon, kb_tt, kb_ii, kb_ib, kb_bi, kb_bb, kb_it, kb_bt, kb_nt, kb_ni, kb_lt, kb_li, kb_ti, kb_si, kb_st, kb_ss, atD, ordD, dSq, dRg1, dRg2, dLc, dYes, dLcGo, wipeD, boolsOf, intsOf, maxL, minL, noL, noLs, Option.map_some, Option.bind_some, List.all_cons, List.all_nil, List.any_cons, List.any_nil, id_eq, List.set_cons_zero, List.set_cons_succ, List.getElem?_cons_zero, List.getElem?_cons_succ, List.getElem?_nil, List.getD_cons_zero, List.getD_cons_succ, decide_eq_true_eq, decide_eq_false_iff_not, Bool.not_eq_true', Bool.not_true, Bool.not_false, Bool.and_true, Bool.true_and, Bool.and_false, Bool.false_and, Bool.false_eq_true, if_true, if_false, reduceIte, ite_true, ite_false, true_and, and_true, reduceCtorEq, Int.toNat_zero, Int.toNat_one, Int.cast_ofNat_Int, Int.reduceLT, Int.reduceLE, Int.reduceNeg, Int.reduceToNat, Int.reducePow, Int.reduceMul, Int.reduceAdd, Int.reduceSub, decide_true, decide_false]
  exact ifN (by omega) (ifN (by omega) h)
def sp_is_integer : SpD :=
  fun ds R => match ds with
  | [.int _] => R (.bl true)
  | _ => False
theorem ok_is_integer (T : Txt K mg) (D0 : Dfn K mg "is_integer" "is_integer" s_is_integer ["value"] [])  : Cal P w K mg base "is_integer" 1 1 ["value"] [] sp_is_integer := by
  refine cal_of D0 sc_is_integer fun f cdv A outer s H E p hg hk hr pk => ⟨_, (pdss_one (pds_ret (pd_and (pd_callB cd_isi rfl T.b_isinstance PyProof.Rows.boot_isinstance (pda_cons (pd_var 0) (pda_cons (pd_ty rfl T.b_int PyProof.Rows.boot_int) pda_nil))) (pd_one (pd_not (pd_callB cd_isi rfl T.b_isinstance PyProof.Rows.boot_isinstance (pda_cons (pd_var 0) (pda_cons (pd_ty rfl T.b_bool PyProof.Rows.boot_bool) pda_nil)))))))), ?_⟩
  intro ds R hl h; unfold sp_is_integer at h; split at h
  all_goals (try exact False.elim h)
  all_goals clear hl hg hr hk pk
  simp only [startD, List.map_cons, List.map_nil, List.length_cons, List.length_nil, List.replicate, List.cons_append, List.nil_append, Nat.reduceAdd, Nat.reduceSub, Nat.zero_add, dSeq, dIfS, dOr, dAnd, dNot, dTst, dOp, dUn, dVar, dC, dB, dBK, dCons, dNil, dTup, dLst, dRet, dRetN, dNext, dNever, dAsg, dPar, dPar3, dIf, dAndV, dOrV, dNotV, dCh, dCt, cLast, cLink, tLast, tLink, dDrop, dFor, gN, gTu, gCn, gNl, gP0, gP1, gII, gIIc, gAdd, gNeg, gIx, gEq, gNe, cI1, cI2, cLen, cMax, cMin, cAll, cAny, cRepr, cSqrt, cIsi, tyN, isNon, kb_tt, kb_ii, kb_ib, kb_bi, kb_bb, kb_it, kb_bt, kb_nt, kb_ni, kb_lt, kb_li, kb_ti, kb_si, kb_st, kb_ss, atD, ordD, dSq, dRg1, dRg2, dLc, dYes, dLcGo, wipeD, boolsOf, intsOf, maxL, minL, noL, noLs, Option.map_some, Option.bind_some, List.all_cons, List.all_nil, List.any_cons, List.any_nil, id_eq, List.set_cons_zero, List.set_cons_succ, List.getElem?_cons_zero, List.getElem?_cons_succ, List.getElem?_nil, List.getD_cons_zero, List.getD_cons_succ, decide_eq_true_eq, decide_eq_false_iff_not, Bool.not_eq_true', Bool.not_true, Bool.not_false, Bool.and_true, Bool.true_and, Bool.and_false, Bool.false_and, Bool.false_eq_true, if_true, if_false, reduceIte, ite_true, ite_false, true_and, and_true, reduceCtorEq, Int.toNat_zero, Int.toNat_one, Int.cast_ofNat_Int, Int.reduceLT, Int.reduceLE, Int.reduceNeg, Int.reduceToNat, Int.reducePow, Int.reduceMul, Int.reduceAdd, Int.reduceSub, decide_true, decide_false]
  exact h
def sp__law_draw : SpD :=
  fun ds R => match ds with
  | [.pot, .int n] => (0 < n ∧ n < 1606938044258990275541962092341162602522202993782792835301376) ∧ ∀ r : Int, 0 ≤ r → r < n → R (.int r)
  | _ => False
theorem ok__law_draw (T : Txt K mg) (D0 : Dfn K mg "_law_draw" "_law_draw" s__law_draw ["_law_pot_here", "_law_many"] [])  : Cal P w K mg base "_law_draw" 1 2 ["_law_pot_here", "_law_many"] [] sp__law_draw := by
  refine cal_of D0 sc__law_draw fun f cdv A outer s H E p hg hk hr pk => ⟨_, (pdss_cons (pds_if (pdt_cmp opd_gt (pd_ix (pd_var 0) pd_int) pd_int) (pdss_cons (pds_asg (pd_callB cd_divmod rfl T.b_divmod PyProof.Rows.boot_divmod (pda_cons (pd_ix (pd_var 0) pd_int) (pda_cons (pd_var 1) pda_nil))) (pdg_tup (n := 2) rfl (pdgs_cons (pdg_p0 (i := 0) rfl (pd_var 0) pd_int) (pdgs_cons (pdg_name (i := 2) sc__law_draw.nd rfl (Or.inl rfl)) pdgs_nil))))
      (pdss_one (pds_ret (pd_var 2)))) pdss_nil)
      (pdss_cons (pds_asg (pd_bin opd_mod (pd_callTy cd_int rfl T.b_int PyProof.Rows.boot_int (pda_cons (pd_bin opd_add (pd_bin opd_mul (pd_ix (pd_var 0) pd_int) pd_int) pd_int) pda_nil)) pd_int) (pdg_p1 (i := 0) rfl (pd_var 0) pd_int))
      (pdss_one (pds_ret (pd_bin opd_mod (pd_callTy cd_int rfl T.b_int PyProof.Rows.boot_int (pda_cons (pd_bin opd_div (pd_bin opd_mod (pd_callTy cd_int rfl T.b_int PyProof.Rows.boot_int (pda_cons (pd_bin opd_mul (pd_ix (pd_var 0) pd_int) (pd_ix (pd_var 0) pd_int)) pda_nil)) pd_int) pd_int) pda_nil)) (pd_var 1)))))), ?_⟩
  intro ds R hl h; unfold sp__law_draw at h; split at h
  all_goals (try exact False.elim h)
  all_goals clear hl hg hr hk pk
  rename_i n
  obtain ⟨⟨h1, h2⟩, h⟩ := h
  simp only [startD, List.map_cons, List.map_nil, List.length_cons, List.length_nil, List.replicate, List.cons_append, List.nil_append, Nat.reduceAdd, Nat.reduceSub, Nat.zero_add, dSeq, dIfS, dOr, dAnd, dNot, dTst, dOp, dUn, dVar, dC, dB, dBK, dCons, dNil, dTup, dLst, dRet, dRetN, dNext, dNever, dAsg, dPar, dPar3, dIf, dAndV, dOrV, dNotV, dCh, dCt, cLast, cLink, tLast, tLink, dDrop, dFor, gN, gTu, gCn, gNl, gP0, gP1, gII, gIIc, gAdd, gNeg, gIx, gEq, gNe, cI1, cI2, cLen, cMax, cMin, cAll, cAny, cRepr, cSqrt, cIsi, tyN, isNon, kb_tt, kb_ii, kb_ib, kb_bi, kb_bb, kb_it, kb_bt, kb_nt, kb_ni, kb_lt, kb_li, kb_ti, kb_si, kb_st, kb_ss, atD, ordD, dSq, dRg1, dRg2, dLc, dYes, dLcGo, wipeD, boolsOf, intsOf, maxL, minL, noL, noLs, Option.map_some, Option.bind_some, List.all_cons, List.all_nil, List.any_cons, List.any_nil, id_eq, List.set_cons_zero, List.set_cons_succ, List.getElem?_cons_zero, List.getElem?_cons_succ, List.getElem?_nil, List.getD_cons_zero, List.getD_cons_succ, decide_eq_true_eq, decide_eq_false_iff_not, Bool.not_eq_true', Bool.not_true, Bool.not_false, Bool.and_true, Bool.true_and, Bool.and_false, Bool.false_and, Bool.false_eq_true, if_true, if_false, reduceIte, ite_true, ite_false, true_and, and_true, reduceCtorEq, Int.toNat_zero, Int.toNat_one, Int.cast_ofNat_Int, Int.reduceLT, Int.reduceLE, Int.reduceNeg, Int.reduceToNat, Int.reducePow, Int.reduceMul, Int.reduceAdd, Int.reduceSub, decide_true, decide_false]
  intro a ha
  split
  · intro b hb
    refine ⟨?_, ?_, h _ ?_ ?_⟩ <;> walk_at "dl c"
  · intro b hb hb2
    refine ⟨?_, ?_, ?_⟩
    · walk_at "dl c"
    · walk_at "dl c"
    · intro c hc hc2 d hd hd2
      refine ⟨?_, ?_, ?_, h _ ?_ ?_⟩ <;> walk_at "dl c"
def sp_grain_overpos : SpD :=
  fun ds R => match ds with
  | [.tup [.int a, .int b], .tup [.int c, .int d]] => (a = b ∧ 1024 ≤ c ∧ c ≤ d ∧ d ≤ 1180591620717411303424) ∧ ((a = 1099511627776 ∧ R (.tup [.int (1208925819614629174706176 / d), .int (-(-1208925819614629174706176 / c))])) ∨ (a = -1099511627776 ∧ R (.tup [.int (-1208925819614629174706176 / c), .int (-(1208925819614629174706176 / d))])))
  | _ => False
theorem ok_grain_overpos (T : Txt K mg) (D0 : Dfn K mg "grain_over" "grain_over" s_grain_over ["one", "other"] []) (C_in_bounds : Cal P w K mg base "in_bounds" 1 2 ["low", "high"] [] sp_in_bounds) : Cal P w K mg base "grain_over" 2 2 ["one", "other"] [] sp_grain_overpos := by
  refine cal_of D0 sc_grain_over fun f cdv A outer s H E p hg hk hr pk => ⟨_, (pdss_cons (pds_if (pdt_cmp opd_lt (pd_ix (pd_var 1) pd_int) pd_int) (pdss_one pds_never) pdss_nil)
      (pdss_cons (pds_asg (pd_var 0) (pdg_tup (n := 2) rfl (pdgs_cons (pdg_name (i := 2) sc_grain_over.nd rfl (Or.inl rfl)) (pdgs_cons (pdg_name (i := 3) sc_grain_over.nd rfl (Or.inl rfl)) pdgs_nil))))
      (pdss_cons (pds_asg (pd_var 1) (pdg_tup (n := 2) rfl (pdgs_cons (pdg_name (i := 4) sc_grain_over.nd rfl (Or.inl rfl)) (pdgs_cons (pdg_name (i := 5) sc_grain_over.nd rfl (Or.inl rfl)) pdgs_nil))))
      (pdss_cons (pds_set (i := 6) sc_grain_over.nd rfl (Or.inl rfl) (pd_ifx (pdt_cmp opd_ge (pd_var 2) pd_int) (pd_var 5) (pd_var 4)))
      (pdss_cons (pds_set (i := 7) sc_grain_over.nd rfl (Or.inl rfl) (pd_ifx (pdt_cmp opd_ge (pd_var 3) pd_int) (pd_var 4) (pd_var 5)))
      (pdss_one (pds_ret (pdcC C_in_bounds hg hr (pda_cons (pd_bin opd_div (pd_bin opd_mul (pd_var 2) (pd_gint rfl T.m_ONE)) (pd_var 6)) (pda_cons (pd_un und_neg (pd_bin opd_div (pd_bin opd_mul (pd_un und_neg (pd_var 3)) (pd_gint rfl T.m_ONE)) (pd_var 7))) pda_nil)))))))))), ?_⟩
  intro ds R hl h; unfold sp_grain_overpos at h; split at h
  all_goals (try exact False.elim h)
  all_goals clear hl hg hr hk pk
  rename_i a b c d
  obtain ⟨⟨rfl, h2, h3, h4⟩, h⟩ := h
  have q1 : 0 ≤ 1208925819614629174706176 / d := Int.ediv_nonneg (by omega) (by omega)
  have q3 : -1180591620717411303424 ≤ -1208925819614629174706176 / c := Int.le_ediv_of_mul_le (by omega) (by omega)
  rcases h with ⟨rfl, h⟩ | ⟨rfl, h⟩
  · simp only [startD, List.map_cons, List.map_nil, List.length_cons, List.length_nil, List.replicate, List.cons_append, List.nil_append, Nat.reduceAdd, Nat.reduceSub, Nat.zero_add, dSeq, dIfS, dOr, dAnd, dNot, dTst, dOp, dUn, dVar, dC, dB, dBK, dCons, dNil, dTup, dLst, dRet, dRetN, dNext, dNever, dAsg, dPar, dPar3, dIf, dAndV, dOrV, dNotV, dCh, dCt, cLast, cLink, tLast, tLink, dDrop, dFor, gN, gTu, gCn, gNl, gP0, gP1, gII, gIIc, gAdd, gNeg, gIx, gEq, gNe, cI1, cI2, cLen, cMax, cMin, cAll, cAny, cRepr, cSqrt, cIsi, tyN, isNon, kb_tt, kb_ii, kb_ib, kb_bi, kb_bb, kb_it, kb_bt, kb_nt, kb_ni, kb_lt, kb_li, kb_ti, kb_si, kb_st, kb_ss, atD, ordD, dSq, dRg1, dRg2, dLc, dYes, dLcGo, wipeD, boolsOf, intsOf, maxL, minL, noL, noLs, Option.map_some, Option.bind_some, List.all_cons, List.all_nil, List.any_cons, List.any_nil, id_eq, List.set_cons_zero, List.set_cons_succ, List.getElem?_cons_zero, List.getElem?_cons_succ, List.getElem?_nil, List.getD_cons_zero, List.getD_cons_succ, decide_eq_true_eq, decide_eq_false_iff_not, Bool.not_eq_true', Bool.not_true, Bool.not_false, Bool.and_true, Bool.true_and, Bool.and_false, Bool.false_and, Bool.false_eq_true, if_true, if_false, reduceIte, ite_true, ite_false, true_and, and_true, reduceCtorEq, Int.toNat_zero, Int.toNat_one, Int.cast_ofNat_Int, Int.reduceLT, Int.reduceLE, Int.reduceNeg, Int.reduceToNat, Int.reducePow, Int.reduceMul, Int.reduceAdd, Int.reduceSub, decide_true, decide_false, sp_in_bounds]
    refine ifN (by omega) ⟨by walk_at "dl c", by walk_at "dl c", by walk_at "dl c", by walk_at "dl c", ⟨?_, ?_⟩, h⟩ <;> omega
  · simp only [startD, List.map_cons, List.map_nil, List.length_cons, List.length_nil, List.replicate, List.cons_append, List.nil_append, Nat.reduceAdd, Nat.reduceSub, Nat.zero_add, dSeq, dIfS, dOr, dAnd, dNot, dTst, dOp, dUn, dVar, dC, dB, dBK, dCons, dNil, dTup, dLst, dRet, dRetN, dNext, dNever, dAsg, dPar, dPar3, dIf, dAndV, dOrV, dNotV, dCh, dCt, cLast, cLink, tLast, tLink, dDrop, dFor, gN, gTu, gCn, gNl, gP0, gP1, gII, gIIc, gAdd, gNeg, gIx, gEq, gNe, cI1, cI2, cLen, cMax, cMin, cAll, cAny, cRepr, cSqrt, cIsi, tyN, isNon, kb_tt, kb_ii, kb_ib, kb_bi, kb_bb, kb_it, kb_bt, kb_nt, kb_ni, kb_lt, kb_li, kb_ti, kb_si, kb_st, kb_ss, atD, ordD, dSq, dRg1, dRg2, dLc, dYes, dLcGo, wipeD, boolsOf, intsOf, maxL, minL, noL, noLs, Option.map_some, Option.bind_some, List.all_cons, List.all_nil, List.any_cons, List.any_nil, id_eq, List.set_cons_zero, List.set_cons_succ, List.getElem?_cons_zero, List.getElem?_cons_succ, List.getElem?_nil, List.getD_cons_zero, List.getD_cons_succ, decide_eq_true_eq, decide_eq_false_iff_not, Bool.not_eq_true', Bool.not_true, Bool.not_false, Bool.and_true, Bool.true_and, Bool.and_false, Bool.false_and, Bool.false_eq_true, if_true, if_false, reduceIte, ite_true, ite_false, true_and, and_true, reduceCtorEq, Int.toNat_zero, Int.toNat_one, Int.cast_ofNat_Int, Int.reduceLT, Int.reduceLE, Int.reduceNeg, Int.reduceToNat, Int.reducePow, Int.reduceMul, Int.reduceAdd, Int.reduceSub, decide_true, decide_false, sp_in_bounds]
    refine ifN (by omega) ⟨by walk_at "dl c", by walk_at "dl c", by walk_at "dl c", by walk_at "dl c", ⟨?_, ?_⟩, h⟩ <;> omega
def sp_grain_over : SpD :=
  fun ds R => match ds with
  | [.tup [.int a, .int b], .tup [.int c, .int d]] => (a = 1099511627776 ∧ b = 1099511627776 ∧ -1180591620717411303424 ≤ c ∧ c ≤ d ∧ d ≤ 1180591620717411303424) ∧ ((1024 ≤ c ∧ R (.tup [.int (1208925819614629174706176 / d), .int (-(-1208925819614629174706176 / c))])) ∨ (d ≤ -1024 ∧ R (.tup [.int (-1208925819614629174706176 / -d), .int (-(1208925819614629174706176 / -c))])))
  | _ => False
theorem ok_grain_over (T : Txt K mg) (D0 : Dfn K mg "grain_over" "grain_over" s_grain_over ["one", "other"] []) (C_in_bounds : Cal P w K mg base "in_bounds" 1 2 ["low", "high"] [] sp_in_bounds) (C_grain_over : Cal P w K mg base "grain_over" 2 2 ["one", "other"] [] sp_grain_overpos) : Cal P w K mg base "grain_over" 3 2 ["one", "other"] [] sp_grain_over := by
  refine cal_of D0 sc_grain_over fun f cdv A outer s H E p hg hk hr pk => ⟨_, (pdss_cons (pds_if (pdt_cmp opd_lt (pd_ix (pd_var 1) pd_int) pd_int) (pdss_one (pds_ret (pdcC C_grain_over hg hr (pda_cons (pd_tup (pda_cons (pd_un und_neg (pd_ix (pd_var 0) pd_int)) (pda_cons (pd_un und_neg (pd_ix (pd_var 0) pd_int)) pda_nil))) (pda_cons (pd_tup (pda_cons (pd_un und_neg (pd_ix (pd_var 1) pd_int)) (pda_cons (pd_un und_neg (pd_ix (pd_var 1) pd_int)) pda_nil))) pda_nil))))) pdss_nil)
      (pdss_cons (pds_asg (pd_var 0) (pdg_tup (n := 2) rfl (pdgs_cons (pdg_name (i := 2) sc_grain_over.nd rfl (Or.inl rfl)) (pdgs_cons (pdg_name (i := 3) sc_grain_over.nd rfl (Or.inl rfl)) pdgs_nil))))
      (pdss_cons (pds_asg (pd_var 1) (pdg_tup (n := 2) rfl (pdgs_cons (pdg_name (i := 4) sc_grain_over.nd rfl (Or.inl rfl)) (pdgs_cons (pdg_name (i := 5) sc_grain_over.nd rfl (Or.inl rfl)) pdgs_nil))))
      (pdss_cons (pds_set (i := 6) sc_grain_over.nd rfl (Or.inl rfl) (pd_ifx (pdt_cmp opd_ge (pd_var 2) pd_int) (pd_var 5) (pd_var 4)))
      (pdss_cons (pds_set (i := 7) sc_grain_over.nd rfl (Or.inl rfl) (pd_ifx (pdt_cmp opd_ge (pd_var 3) pd_int) (pd_var 4) (pd_var 5)))
      (pdss_one (pds_ret (pdcC C_in_bounds hg hr (pda_cons (pd_bin opd_div (pd_bin opd_mul (pd_var 2) (pd_gint rfl T.m_ONE)) (pd_var 6)) (pda_cons (pd_un und_neg (pd_bin opd_div (pd_bin opd_mul (pd_un und_neg (pd_var 3)) (pd_gint rfl T.m_ONE)) (pd_var 7))) pda_nil)))))))))), ?_⟩
  intro ds R hl h; unfold sp_grain_over at h; split at h
  all_goals (try exact False.elim h)
  all_goals clear hl hg hr hk pk
  rename_i a b c d
  obtain ⟨⟨rfl, rfl, h2, h3, h4⟩, h⟩ := h
  rcases h with ⟨h5, h⟩ | ⟨h5, h⟩
  · have q1 : 0 ≤ 1208925819614629174706176 / d := Int.ediv_nonneg (by omega) (by omega)
    have q3 : -1180591620717411303424 ≤ -1208925819614629174706176 / c := Int.le_ediv_of_mul_le (by omega) (by omega)
    simp only [startD, List.map_cons, List.map_nil, List.length_cons, List.length_nil, List.replicate, List.cons_append, List.nil_append, Nat.reduceAdd, Nat.reduceSub, Nat.zero_add, dSeq, dIfS, dOr, dAnd, dNot, dTst, dOp, dUn, dVar, dC, dB, dBK, dCons, dNil, dTup, dLst, dRet, dRetN, dNext, dNever, dAsg, dPar, dPar3, dIf, dAndV, dOrV, dNotV, dCh, dCt, cLast, cLink, tLast, tLink, dDrop, dFor, gN, gTu, gCn, gNl, gP0, gP1, gII, gIIc, gAdd, gNeg, gIx, gEq, gNe, cI1, cI2, cLen, cMax, cMin, cAll, cAny, cRepr, cSqrt, cIsi, tyN, isNon, kb_tt, kb_ii, kb_ib, kb_bi, kb_bb, kb_it, kb_bt, kb_nt, kb_ni, kb_lt, kb_li, kb_ti, kb_si, kb_st, kb_ss, atD, ordD, dSq, dRg1, dRg2, dLc, dYes, dLcGo, wipeD, boolsOf, intsOf, maxL, minL, noL, noLs, Option.map_some, Option.bind_some, List.all_cons, List.all_nil, List.any_cons, List.any_nil, id_eq, List.set_cons_zero, List.set_cons_succ, List.getElem?_cons_zero, List.getElem?_cons_succ, List.getElem?_nil, List.getD_cons_zero, List.getD_cons_succ, decide_eq_true_eq, decide_eq_false_iff_not, Bool.not_eq_true', Bool.not_true, Bool.not_false, Bool.and_true, Bool.true_and, Bool.and_false, Bool.false_and, Bool.false_eq_true, if_true, if_false, reduceIte, ite_true, ite_false, true_and, and_true, reduceCtorEq, Int.toNat_zero, Int.toNat_one, Int.cast_ofNat_Int, Int.reduceLT, Int.reduceLE, Int.reduceNeg, Int.reduceToNat, Int.reducePow, Int.reduceMul, Int.reduceAdd, Int.reduceSub, decide_true, decide_false, sp_in_bounds, sp_grain_overpos]
    rw [if_neg (by omega)]
    refine ⟨by walk_at "dl c", by walk_at "dl c", by walk_at "dl c", by walk_at "dl c", ⟨?_, ?_⟩, h⟩ <;> omega
  · simp only [startD, List.map_cons, List.map_nil, List.length_cons, List.length_nil, List.replicate, List.cons_append, List.nil_append, Nat.reduceAdd, Nat.reduceSub, Nat.zero_add, dSeq, dIfS, dOr, dAnd, dNot, dTst, dOp, dUn, dVar, dC, dB, dBK, dCons, dNil, dTup, dLst, dRet, dRetN, dNext, dNever, dAsg, dPar, dPar3, dIf, dAndV, dOrV, dNotV, dCh, dCt, cLast, cLink, tLast, tLink, dDrop, dFor, gN, gTu, gCn, gNl, gP0, gP1, gII, gIIc, gAdd, gNeg, gIx, gEq, gNe, cI1, cI2, cLen, cMax, cMin, cAll, cAny, cRepr, cSqrt, cIsi, tyN, isNon, kb_tt, kb_ii, kb_ib, kb_bi, kb_bb, kb_it, kb_bt, kb_nt, kb_ni, kb_lt, kb_li, kb_ti, kb_si, kb_st, kb_ss, atD, ordD, dSq, dRg1, dRg2, dLc, dYes, dLcGo, wipeD, boolsOf, intsOf, maxL, minL, noL, noLs, Option.map_some, Option.bind_some, List.all_cons, List.all_nil, List.any_cons, List.any_nil, id_eq, List.set_cons_zero, List.set_cons_succ, List.getElem?_cons_zero, List.getElem?_cons_succ, List.getElem?_nil, List.getD_cons_zero, List.getD_cons_succ, decide_eq_true_eq, decide_eq_false_iff_not, Bool.not_eq_true', Bool.not_true, Bool.not_false, Bool.and_true, Bool.true_and, Bool.and_false, Bool.false_and, Bool.false_eq_true, if_true, if_false, reduceIte, ite_true, ite_false, true_and, and_true, reduceCtorEq, Int.toNat_zero, Int.toNat_one, Int.cast_ofNat_Int, Int.reduceLT, Int.reduceLE, Int.reduceNeg, Int.reduceToNat, Int.reducePow, Int.reduceMul, Int.reduceAdd, Int.reduceSub, decide_true, decide_false, sp_in_bounds, sp_grain_overpos]
    rw [if_pos (by omega)]
    exact ⟨⟨by omega, by omega, by omega⟩, .inr h⟩
def sp_is_interval : SpD :=
  fun ds R => match ds with
  | [.tup [.int a, .int b]] => (-1180591620717411303424 ≤ a ∧ a ≤ b ∧ b ≤ 1180591620717411303424) ∧ R (.bl true)
  | _ => False
theorem ok_is_interval (T : Txt K mg) (D0 : Dfn K mg "is_interval" "is_interval" s_is_interval ["value"] []) (C_is_integer : Cal P w K mg base "is_integer" 1 1 ["value"] [] sp_is_integer) : Cal P w K mg base "is_interval" 2 1 ["value"] [] sp_is_interval := by
  refine cal_of D0 sc_is_interval fun f cdv A outer s H E p hg hk hr pk => ⟨_, (pdss_cons (pds_if (pdw_t (pdw_or (pdt_not (pdt_val (pd_callB cd_isi rfl T.b_isinstance PyProof.Rows.boot_isinstance (pda_cons (pd_var 0) (pda_cons (pd_ty rfl T.b_tuple PyProof.Rows.boot_tuple) pda_nil))))) (pdw_or1 (pdt_cmp (opd_ne hr.units) (pd_callB cd_len rfl T.b_len PySem.boot_len (pda_cons (pd_var 0) pda_nil)) pd_int)))) (pdss_one (pds_ret pd_bl)) pdss_nil)
      (pdss_cons (pds_asg (pd_var 0) (pdg_tup (n := 2) rfl (pdgs_cons (pdg_name (i := 1) sc_is_interval.nd rfl (Or.inl rfl)) (pdgs_cons (pdg_name (i := 2) sc_is_interval.nd rfl (Or.inl rfl)) pdgs_nil))))
      (pdss_cons (pds_if (pdw_t (pdw_or (pdt_not (pdt_val (pdcC C_is_integer hg hr (pda_cons (pd_var 1) pda_nil)))) (pdw_or1 (pdt_not (pdt_val (pdcC C_is_integer hg hr (pda_cons (pd_var 2) pda_nil))))))) (pdss_one (pds_ret pd_bl)) pdss_nil)
      (pdss_one (pds_ret (pd_chainN (pd_un und_neg (pd_gint rfl T.m_MOST_GRAINS)) (pch_cons opd_le (pd_var 1) (pch_cons opd_le (pd_var 2) (pch_last opd_le (pd_gint rfl T.m_MOST_GRAINS)))))))))), ?_⟩
  intro ds R hl h; unfold sp_is_interval at h; split at h
  all_goals (try exact False.elim h)
  all_goals clear hl hg hr hk pk
  rename_i a b
  obtain ⟨⟨h1, h2, h3⟩, h⟩ := h
  simp only [startD, List.map_cons, List.map_nil, List.length_cons, List.length_nil, List.replicate, List.cons_append, List.nil_append, Nat.reduceAdd, Nat.reduceSub, Nat.zero_add, dSeq, dIfS, dOr, dAnd, dNot, dTst, dOp, dUn, dVar, dC, dB, dBK, dCons, dNil, dTup, dLst, dRet, dRetN, dNext, dNever, dAsg, dPar, dPar3, dIf, dAndV, dOrV, dNotV, dCh, dCt, cLast, cLink, tLast, tLink, dDrop, dFor, gN, gTu, gCn, gNl, gP0, gP1, gII, gIIc, gAdd, gNeg, gIx, gEq, gNe, cI1, cI2, cLen, cMax, cMin, cAll, cAny, cRepr, cSqrt, cIsi, tyN, isNon, kb_tt, kb_ii, kb_ib, kb_bi, kb_bb, kb_it, kb_bt, kb_nt, kb_ni, kb_lt, kb_li, kb_ti, kb_si, kb_st, kb_ss, atD, ordD, dSq, dRg1, dRg2, dLc, dYes, dLcGo, wipeD, boolsOf, intsOf, maxL, minL, noL, noLs, Option.map_some, Option.bind_some, List.all_cons, List.all_nil, List.any_cons, List.any_nil, id_eq, List.set_cons_zero, List.set_cons_succ, List.getElem?_cons_zero, List.getElem?_cons_succ, List.getElem?_nil, List.getD_cons_zero, List.getD_cons_succ, decide_eq_true_eq, decide_eq_false_iff_not, Bool.not_eq_true', Bool.not_true, Bool.not_false, Bool.and_true, Bool.true_and, Bool.and_false, Bool.false_and, Bool.false_eq_true, if_true, if_false, reduceIte, ite_true, ite_false, true_and, and_true, reduceCtorEq, Int.toNat_zero, Int.toNat_one, Int.cast_ofNat_Int, Int.reduceLT, Int.reduceLE, Int.reduceNeg, Int.reduceToNat, Int.reducePow, Int.reduceMul, Int.reduceAdd, Int.reduceSub, decide_true, decide_false, sp_is_integer]
  rw [if_pos h1, if_pos h2, decide_eq_true h3]
  exact h
def sp_check_interval : SpD :=
  fun ds R => match ds with
  | [.tup [.int a, .int b]] => (-1180591620717411303424 ≤ a ∧ a ≤ b ∧ b ≤ 1180591620717411303424) ∧ R .non
  | _ => False
theorem ok_check_interval (T : Txt K mg) (D0 : Dfn K mg "check_interval" "check_interval" s_check_interval ["interval"] []) (C_is_interval : Cal P w K mg base "is_interval" 2 1 ["value"] [] sp_is_interval) : Cal P w K mg base "check_interval" 3 1 ["interval"] [] sp_check_interval := by
  refine cal_of D0 sc_check_interval fun f cdv A outer s H E p hg hk hr pk => ⟨_, (pdss_one (pds_if (pdt_not (pdt_val (pdcC C_is_interval hg hr (pda_cons (pd_var 0) pda_nil)))) (pdss_one pds_never) pdss_nil)), ?_⟩
  intro ds R hl h; unfold sp_check_interval at h; split at h
  all_goals (try exact False.elim h)
  all_goals clear hl hg hr hk pk
  rename_i a b
  obtain ⟨⟨h1, h2, h3⟩, h⟩ := h
  simp only [startD, List.map_cons, List.map_nil, List.length_cons, List.length_nil, List.replicate, List.cons_append, List.nil_append, Nat.reduceAdd, Nat.reduceSub, Nat.zero_add, dSeq, dIfS, dOr, dAnd, dNot, dTst, dOp, dUn, dVar, dC, dB, dBK, dCons, dNil, dTup, dLst, dRet, dRetN, dNext, dNever, dAsg, dPar, dPar3, dIf, dAndV, dOrV, dNotV, dCh, dCt, cLast, cLink, tLast, tLink, dDrop, dFor, gN, gTu, gCn, gNl, gP0, gP1, gII, gIIc, gAdd, gNeg, gIx, gEq, gNe, cI1, cI2, cLen, cMax, cMin, cAll, cAny, cRepr, cSqrt, cIsi, tyN, isNon, kb_tt, kb_ii, kb_ib, kb_bi, kb_bb, kb_it, kb_bt, kb_nt, kb_ni, kb_lt, kb_li, kb_ti, kb_si, kb_st, kb_ss, atD, ordD, dSq, dRg1, dRg2, dLc, dYes, dLcGo, wipeD, boolsOf, intsOf, maxL, minL, noL, noLs, Option.map_some, Option.bind_some, List.all_cons, List.all_nil, List.any_cons, List.any_nil, id_eq, List.set_cons_zero, List.set_cons_succ, List.getElem?_cons_zero, List.getElem?_cons_succ, List.getElem?_nil, List.getD_cons_zero, List.getD_cons_succ, decide_eq_true_eq, decide_eq_false_iff_not, Bool.not_eq_true', Bool.not_true, Bool.not_false, Bool.and_true, Bool.true_and, Bool.and_false, Bool.false_and, Bool.false_eq_true, if_true, if_false, reduceIte, ite_true, ite_false, true_and, and_true, reduceCtorEq, Int.toNat_zero, Int.toNat_one, Int.cast_ofNat_Int, Int.reduceLT, Int.reduceLE, Int.reduceNeg, Int.reduceToNat, Int.reducePow, Int.reduceMul, Int.reduceAdd, Int.reduceSub, decide_true, decide_false, sp_is_interval]
  exact ⟨⟨h1, h2, h3⟩, h⟩
def sp__root_above : SpD :=
  fun ds R => match ds with
  | [.int n] => (0 ≤ n ∧ n < 1606938044258990275541962092341162602522202993782792835301376) ∧ ∀ r : Int, 0 ≤ r → n ≤ r * r → (r = 0 ∨ (r - 1) * (r - 1) < n) → R (.int r)
  | _ => False
theorem ok__root_above (T : Txt K mg) (D0 : Dfn K mg "_root_above" "_root_above" s__root_above ["number"] [])  : Cal P w K mg base "_root_above" 1 1 ["number"] [] sp__root_above := by
  refine cal_of D0 sc__root_above fun f cdv A outer s H E p hg hk hr pk => ⟨_, (pdss_cons (pds_set (i := 1) sc__root_above.nd rfl (Or.inl rfl) (pd_callFun cd_isqrt rfl T.m_isqrt (pda_cons (pd_var 0) pda_nil)))
      (pdss_cons (pds_if (pdt_cmp opd_lt (pd_bin opd_mul (pd_var 1) (pd_var 1)) (pd_var 0)) (pdss_one (pds_ret (pd_bin opd_add (pd_var 1) pd_int))) pdss_nil)
      (pdss_one (pds_ret (pd_var 1))))), ?_⟩
  intro ds R hl h; unfold sp__root_above at h; split at h
  all_goals (try exact False.elim h)
  all_goals clear hl hg hr hk pk
  rename_i n
  obtain ⟨⟨h1, h2⟩, h⟩ := h
  simp only [startD, List.map_cons, List.map_nil, List.length_cons, List.length_nil, List.replicate, List.cons_append, List.nil_append, Nat.reduceAdd, Nat.reduceSub, Nat.zero_add, dSeq, dIfS, dOr, dAnd, dNot, dTst, dOp, dUn, dVar, dC, dB, dBK, dCons, dNil, dTup, dLst, dRet, dRetN, dNext, dNever, dAsg, dPar, dPar3, dIf, dAndV, dOrV, dNotV, dCh, dCt, cLast, cLink, tLast, tLink, dDrop, dFor, gN, gTu, gCn, gNl, gP0, gP1, gII, gIIc, gAdd, gNeg, gIx, gEq, gNe, cI1, cI2, cLen, cMax, cMin, cAll, cAny, cRepr, cSqrt, cIsi, tyN, isNon, kb_tt, kb_ii, kb_ib, kb_bi, kb_bb, kb_it, kb_bt, kb_nt, kb_ni, kb_lt, kb_li, kb_ti, kb_si, kb_st, kb_ss, atD, ordD, dSq, dRg1, dRg2, dLc, dYes, dLcGo, wipeD, boolsOf, intsOf, maxL, minL, noL, noLs, Option.map_some, Option.bind_some, List.all_cons, List.all_nil, List.any_cons, List.any_nil, id_eq, List.set_cons_zero, List.set_cons_succ, List.getElem?_cons_zero, List.getElem?_cons_succ, List.getElem?_nil, List.getD_cons_zero, List.getD_cons_succ, decide_eq_true_eq, decide_eq_false_iff_not, Bool.not_eq_true', Bool.not_true, Bool.not_false, Bool.and_true, Bool.true_and, Bool.and_false, Bool.false_and, Bool.false_eq_true, if_true, if_false, reduceIte, ite_true, ite_false, true_and, and_true, reduceCtorEq, Int.toNat_zero, Int.toNat_one, Int.cast_ofNat_Int, Int.reduceLT, Int.reduceLE, Int.reduceNeg, Int.reduceToNat, Int.reducePow, Int.reduceMul, Int.reduceAdd, Int.reduceSub, decide_true, decide_false]
  refine ⟨by walk_at "dl c", ?_⟩
  intro r h0 h3 h4
  have := le_sq h0
  refine ⟨by walk_at "dl c", ?_⟩
  split
  · exact h _ (by omega) (by omega) (.inr (by rw [Int.add_sub_cancel]; omega))
  · refine h _ h0 (by omega) ?_
    have := pred_sq r
    omega
def sp_root_of : SpD :=
  fun ds R => match ds with
  | [.tup [.int a, .int b]] => (0 ≤ a ∧ a ≤ b ∧ b ≤ 1180591620717411303424) ∧ ∀ lo hi : Int, 0 ≤ lo → lo * lo ≤ a * 1099511627776 → a * 1099511627776 < (lo + 1) * (lo + 1) → 0 ≤ hi → b * 1099511627776 ≤ hi * hi → (hi = 0 ∨ (hi - 1) * (hi - 1) < b * 1099511627776) → R (.tup [.int lo, .int hi])
  | _ => False
theorem ok_root_of (T : Txt K mg) (D0 : Dfn K mg "root_of" "root_of" s_root_of ["interval"] [(["interval"], 0, [0])]) (C_in_bounds : Cal P w K mg base "in_bounds" 1 2 ["low", "high"] [] sp_in_bounds) (C__root_above : Cal P w K mg base "_root_above" 1 1 ["number"] [] sp__root_above) (C_check_interval : Cal P w K mg base "check_interval" 3 1 ["interval"] [] sp_check_interval) : Cal P w K mg base "root_of" 4 1 ["interval"] [(["interval"], 0, [0])] sp_root_of := by
  refine cal_of D0 sc_root_of fun f cdv A outer s H E p hg hk hr pk => ⟨_, (pdss_cons (pds_expr (pdcC C_check_interval hg hr (pda_cons (pd_var 0) pda_nil)))
      (pdss_cons (pds_asg (pd_var 0) (pdg_tup (n := 2) rfl (pdgs_cons (pdg_name (i := 1) sc_root_of.nd rfl (Or.inl rfl)) (pdgs_cons (pdg_name (i := 2) sc_root_of.nd rfl (Or.inl rfl)) pdgs_nil))))
      (pdss_cons (pds_if (pdt_cmp opd_lt (pd_var 1) pd_int) (pdss_one pds_never) pdss_nil)
      (pdss_one (pds_ret (pdcC C_in_bounds hg hr (pda_cons (pd_callFun cd_isqrt rfl T.m_isqrt (pda_cons (pd_bin opd_mul (pd_var 1) (pd_gint rfl T.m_ONE)) pda_nil)) (pda_cons (pdcC C__root_above hg hr (pda_cons (pd_bin opd_mul (pd_var 2) (pd_gint rfl T.m_ONE)) pda_nil)) pda_nil)))))))), ?_⟩
  intro ds R hl h; unfold sp_root_of at h; split at h
  all_goals (try exact False.elim h)
  all_goals clear hl hg hr hk pk
  rename_i a b
  obtain ⟨⟨h1, h2, h3⟩, h⟩ := h
  simp only [startD, List.map_cons, List.map_nil, List.length_cons, List.length_nil, List.replicate, List.cons_append, List.nil_append, Nat.reduceAdd, Nat.reduceSub, Nat.zero_add, dSeq, dIfS, dOr, dAnd, dNot, dTst, dOp, dUn, dVar, dC, dB, dBK, dCons, dNil, dTup, dLst, dRet, dRetN, dNext, dNever, dAsg, dPar, dPar3, dIf, dAndV, dOrV, dNotV, dCh, dCt, cLast, cLink, tLast, tLink, dDrop, dFor, gN, gTu, gCn, gNl, gP0, gP1, gII, gIIc, gAdd, gNeg, gIx, gEq, gNe, cI1, cI2, cLen, cMax, cMin, cAll, cAny, cRepr, cSqrt, cIsi, tyN, isNon, kb_tt, kb_ii, kb_ib, kb_bi, kb_bb, kb_it, kb_bt, kb_nt, kb_ni, kb_lt, kb_li, kb_ti, kb_si, kb_st, kb_ss, atD, ordD, dSq, dRg1, dRg2, dLc, dYes, dLcGo, wipeD, boolsOf, intsOf, maxL, minL, noL, noLs, Option.map_some, Option.bind_some, List.all_cons, List.all_nil, List.any_cons, List.any_nil, id_eq, List.set_cons_zero, List.set_cons_succ, List.getElem?_cons_zero, List.getElem?_cons_succ, List.getElem?_nil, List.getD_cons_zero, List.getD_cons_succ, decide_eq_true_eq, decide_eq_false_iff_not, Bool.not_eq_true', Bool.not_true, Bool.not_false, Bool.and_true, Bool.true_and, Bool.and_false, Bool.false_and, Bool.false_eq_true, if_true, if_false, reduceIte, ite_true, ite_false, true_and, and_true, reduceCtorEq, Int.toNat_zero, Int.toNat_one, Int.cast_ofNat_Int, Int.reduceLT, Int.reduceLE, Int.reduceNeg, Int.reduceToNat, Int.reducePow, Int.reduceMul, Int.reduceAdd, Int.reduceSub, decide_true, decide_false, sp_in_bounds, sp__root_above, sp_check_interval]
  refine ⟨⟨by omega, h2, h3⟩, ?_⟩
  refine ifN (by omega) ⟨by walk_at "dl c", by walk_at "dl c", ?_⟩
  intro lo l0 l1 l2
  refine ⟨by walk_at "dl c", ⟨by omega, by omega⟩, ?_⟩
  intro hi g0 g1 g2
  refine ⟨⟨by omega, ?_⟩, h lo hi l0 l1 l2 g0 g1 g2⟩
  rcases g2 with g2 | g2
  · omega
  · have : hi - 1 < 1180591620717411303424 := of_sq_lt (by omega) (by omega)
    omega
def sp_over_of : SpD :=
  fun ds R => match ds with
  | [.tup [.int c, .int d]] => (-1180591620717411303424 ≤ c ∧ c ≤ d ∧ d ≤ 1180591620717411303424) ∧ ((1024 ≤ c ∧ R (.tup [.int (1208925819614629174706176 / d), .int (-(-1208925819614629174706176 / c))])) ∨ (d ≤ -1024 ∧ R (.tup [.int (-1208925819614629174706176 / -d), .int (-(1208925819614629174706176 / -c))])))
  | _ => False
theorem ok_over_of (T : Txt K mg) (D0 : Dfn K mg "over_of" "over_of" s_over_of ["interval"] [(["interval"], 0, [0])]) (C_grain_over : Cal P w K mg base "grain_over" 3 2 ["one", "other"] [] sp_grain_over) (C_check_interval : Cal P w K mg base "check_interval" 3 1 ["interval"] [] sp_check_interval) : Cal P w K mg base "over_of" 4 1 ["interval"] [(["interval"], 0, [0])] sp_over_of := by
  refine cal_of D0 sc_over_of fun f cdv A outer s H E p hg hk hr pk => ⟨_, (pdss_cons (pds_expr (pdcC C_check_interval hg hr (pda_cons (pd_var 0) pda_nil)))
      (pdss_cons (pds_if (pdt_chainN (pd_ix (pd_var 0) pd_int) (pct_cons opd_le pd_int (pct_last opd_le (pd_ix (pd_var 0) pd_int)))) (pdss_one pds_never) pdss_nil)
      (pdss_one (pds_ret (pdcC C_grain_over hg hr (pda_cons (pd_gtup rfl T.m_WHOLE T.k_WHOLE (hk _ _ T.l_WHOLE)) (pda_cons (pd_var 0) pda_nil))))))), ?_⟩
  intro ds R hl h; unfold sp_over_of at h; split at h
  all_goals (try exact False.elim h)
  all_goals clear hl hg hr hk pk
  rename_i c d
  obtain ⟨⟨h1, h2, h3⟩, h⟩ := h
  simp only [startD, List.map_cons, List.map_nil, List.length_cons, List.length_nil, List.replicate, List.cons_append, List.nil_append, Nat.reduceAdd, Nat.reduceSub, Nat.zero_add, dSeq, dIfS, dOr, dAnd, dNot, dTst, dOp, dUn, dVar, dC, dB, dBK, dCons, dNil, dTup, dLst, dRet, dRetN, dNext, dNever, dAsg, dPar, dPar3, dIf, dAndV, dOrV, dNotV, dCh, dCt, cLast, cLink, tLast, tLink, dDrop, dFor, gN, gTu, gCn, gNl, gP0, gP1, gII, gIIc, gAdd, gNeg, gIx, gEq, gNe, cI1, cI2, cLen, cMax, cMin, cAll, cAny, cRepr, cSqrt, cIsi, tyN, isNon, kb_tt, kb_ii, kb_ib, kb_bi, kb_bb, kb_it, kb_bt, kb_nt, kb_ni, kb_lt, kb_li, kb_ti, kb_si, kb_st, kb_ss, atD, ordD, dSq, dRg1, dRg2, dLc, dYes, dLcGo, wipeD, boolsOf, intsOf, maxL, minL, noL, noLs, Option.map_some, Option.bind_some, List.all_cons, List.all_nil, List.any_cons, List.any_nil, id_eq, List.set_cons_zero, List.set_cons_succ, List.getElem?_cons_zero, List.getElem?_cons_succ, List.getElem?_nil, List.getD_cons_zero, List.getD_cons_succ, decide_eq_true_eq, decide_eq_false_iff_not, Bool.not_eq_true', Bool.not_true, Bool.not_false, Bool.and_true, Bool.true_and, Bool.and_false, Bool.false_and, Bool.false_eq_true, if_true, if_false, reduceIte, ite_true, ite_false, true_and, and_true, reduceCtorEq, Int.toNat_zero, Int.toNat_one, Int.cast_ofNat_Int, Int.reduceLT, Int.reduceLE, Int.reduceNeg, Int.reduceToNat, Int.reducePow, Int.reduceMul, Int.reduceAdd, Int.reduceSub, decide_true, decide_false, sp_grain_over, sp_check_interval]
  refine ⟨⟨h1, h2, h3⟩, ?_⟩
  rcases h with ⟨h5, h⟩ | ⟨h5, h⟩
  · rw [if_neg (by omega)]
    exact ⟨⟨h1, h2, h3⟩, .inl ⟨h5, h⟩⟩
  · rw [if_pos (by omega), if_neg (by omega)]
    exact ⟨⟨h1, h2, h3⟩, .inr ⟨h5, h⟩⟩
def sp__law_root_right : SpD :=
  fun ds R => match ds with
  | [.tup [.int lo, .int hi], .int a, .int b] => (0 ≤ a ∧ a ≤ b ∧ b ≤ 1180591620717411303424 ∧ 0 ≤ lo ∧ lo * lo ≤ a * 1099511627776 ∧ a * 1099511627776 < (lo + 1) * (lo + 1) ∧ 0 ≤ hi ∧ b * 1099511627776 ≤ hi * hi ∧ (hi = 0 ∨ (hi - 1) * (hi - 1) < b * 1099511627776)) ∧ R (.bl true)
  | _ => False
theorem ok__law_root_right (T : Txt K mg) (D0 : Dfn K mg "_law_root_right" "_law_root_right" s__law_root_right ["_law_told", "_law_low", "_law_high"] [])  : Cal P w K mg base "_law_root_right" 1 3 ["_law_told", "_law_low", "_law_high"] [] sp__law_root_right := by
  refine cal_of D0 sc__law_root_right fun f cdv A outer s H E p hg hk hr pk => ⟨_, (pdss_cons (pds_if (pdw_t (pdw_or (pdt_not (pdt_val (pd_callB cd_isi rfl T.b_isinstance PyProof.Rows.boot_isinstance (pda_cons (pd_var 0) (pda_cons (pd_ty rfl T.b_tuple PyProof.Rows.boot_tuple) pda_nil))))) (pdw_or (pdt_cmp (opd_ne hr.units) (pd_callB cd_len rfl T.b_len PySem.boot_len (pda_cons (pd_var 0) pda_nil)) pd_int) (pdw_or1 (pdt_not (pdt_chainN pd_int (pct_cons opd_le (pd_ix (pd_var 0) pd_int) (pct_last opd_le (pd_ix (pd_var 0) pd_int))))))))) (pdss_one (pds_ret pd_bl)) pdss_nil)
      (pdss_cons (pds_if (pdt_not (pdt_val (pd_callB (cd_all rfl) rfl T.b_all PyProof.Rows.boot_all (pda_cons (pd_lc (own := [("_law_one", 3)]) (t := (L2.gName 3)) rfl sc__law_root_right.nd (pdi_sq (pd_var 0)) (show blkC ["_law_told", "_law_low", "_law_high", "_law_one", "_law_near", "_law_far"] (defScope s__law_root_right) _ _ = true by decide +kernel) (fun _ _ _ _ _ => (pgw_name (i := 3) (vs := [3]) sc__law_root_right.nd rfl (Or.inl rfl))) (fun _ _ _ _ _ => (pd_and (pd_callB cd_isi rfl T.b_isinstance PyProof.Rows.boot_isinstance (pda_cons (pd_var 3) (pda_cons (pd_ty rfl T.b_int PyProof.Rows.boot_int) pda_nil))) (pd_one (pd_not (pd_callB cd_isi rfl T.b_isinstance PyProof.Rows.boot_isinstance (pda_cons (pd_var 3) (pda_cons (pd_ty rfl T.b_bool PyProof.Rows.boot_bool) pda_nil))))))) (sh := s)) pda_nil)))) (pdss_one (pds_ret pd_bl)) pdss_nil)
      (pdss_cons (pds_par3 (i := 4) (j := 5) (l := 3) rfl sc__law_root_right.nd rfl rfl rfl (by decide) (by decide) (by decide) rfl rfl rfl (pda_cons (pd_ix (pd_var 0) pd_int) (pda_cons (pd_ix (pd_var 0) pd_int) (pda_cons (pd_bin opd_pow pd_int pd_int) pda_nil))) (by rfl))
      (pdss_cons (pds_if (pdt_not (pdt_chainN (pd_bin opd_mul (pd_var 4) (pd_var 4)) (pct_cons opd_le (pd_bin opd_mul (pd_var 1) (pd_var 3)) (pct_last opd_lt (pd_bin opd_mul (pd_bin opd_add (pd_var 4) pd_int) (pd_bin opd_add (pd_var 4) pd_int)))))) (pdss_one (pds_ret pd_bl)) pdss_nil)
      (pdss_one (pds_ret (pd_and (pd_cmp opd_ge (pd_bin opd_mul (pd_var 5) (pd_var 5)) (pd_bin opd_mul (pd_var 2) (pd_var 3))) (pd_one (pd_or (pd_cmp (opd_eq hr.units) (pd_var 5) pd_int) (pd_one (pd_cmp opd_lt (pd_bin opd_mul (pd_bin opd_sub (pd_var 5) pd_int) (pd_bin opd_sub (pd_var 5) pd_int)) (pd_bin opd_mul (pd_var 2) (pd_var 3))))))))))))), ?_⟩
  intro ds R hl h; unfold sp__law_root_right at h; split at h
  all_goals (try exact False.elim h)
  all_goals clear hl hg hr hk pk
  rename_i lo hi a b
  obtain ⟨⟨h1, h2, h3, h4, h5, h6, h7, h8, h9⟩, h⟩ := h
  have g1 := le_sq h4
  have g2 : lo ≤ hi := of_sq_le h7 (by omega)
  have g3 : hi < 1180591620717411303425 := by
    rcases h9 with e | e
    · omega
    · have : hi - 1 < 1180591620717411303424 := of_sq_lt (by omega) (by omega)
      omega
  have lok : ∀ x y : D, LenOk [x, y] := fun _ _ => .of 2 rfl (by omega)
  simp only [startD, List.map_cons, List.map_nil, List.length_cons, List.length_nil, List.replicate, List.cons_append, List.nil_append, Nat.reduceAdd, Nat.reduceSub, Nat.zero_add]
  refine seqI (fun τ => τ = [some (D.tup [D.int lo, D.int hi]), some (D.int a), some (D.int b), none, none, none]) (fun K hK => ?_) ?_
  · simp only [startD, List.map_cons, List.map_nil, List.length_cons, List.length_nil, List.replicate, List.cons_append, List.nil_append, Nat.reduceAdd, Nat.reduceSub, Nat.zero_add, dSeq, dIfS, dOr, dAnd, dNot, dTst, dOp, dUn, dVar, dC, dB, dBK, dCons, dNil, dTup, dLst, dRet, dRetN, dNext, dNever, dAsg, dPar, dPar3, dIf, dAndV, dOrV, dNotV, dCh, dCt, cLast, cLink, tLast, tLink, dDrop, dFor, gN, gTu, gCn, gNl, gP0, gP1, gII, gIIc, gAdd, gNeg, gIx, gEq, gNe, cI1, cI2, cLen, cMax, cMin, cAll, cAny, cRepr, cSqrt, cIsi, tyN, isNon, kb_tt, kb_ii, kb_ib, kb_bi, kb_bb, kb_it, kb_bt, kb_nt, kb_ni, kb_lt, kb_li, kb_ti, kb_si, kb_st, kb_ss, atD, ordD, dSq, dRg1, dRg2, dLc, dYes, dLcGo, wipeD, boolsOf, intsOf, maxL, minL, noL, noLs, Option.map_some, Option.bind_some, List.all_cons, List.all_nil, List.any_cons, List.any_nil, id_eq, List.set_cons_zero, List.set_cons_succ, List.getElem?_cons_zero, List.getElem?_cons_succ, List.getElem?_nil, List.getD_cons_zero, List.getD_cons_succ, decide_eq_true_eq, decide_eq_false_iff_not, Bool.not_eq_true', Bool.not_true, Bool.not_false, Bool.and_true, Bool.true_and, Bool.and_false, Bool.false_and, Bool.false_eq_true, if_true, if_false, reduceIte, ite_true, ite_false, true_and, and_true, reduceCtorEq, Int.toNat_zero, Int.toNat_one, Int.cast_ofNat_Int, Int.reduceLT, Int.reduceLE, Int.reduceNeg, Int.reduceToNat, Int.reducePow, Int.reduceMul, Int.reduceAdd, Int.reduceSub, decide_true, decide_false]
    rw [if_pos h4, if_neg (by omega)]
    exact hK _ rfl
  rintro τ rfl
  refine seqI (fun τ => τ = [some (D.tup [D.int lo, D.int hi]), some (D.int a), some (D.int b), none, none, none]) (fun K hK => ?_) ?_
  · simp only [startD, List.map_cons, List.map_nil, List.length_cons, List.length_nil, List.replicate, List.cons_append, List.nil_append, Nat.reduceAdd, Nat.reduceSub, Nat.zero_add, dSeq, dIfS, dOr, dAnd, dNot, dTst, dOp, dUn, dVar, dC, dB, dBK, dCons, dNil, dTup, dLst, dRet, dRetN, dNext, dNever, dAsg, dPar, dPar3, dIf, dAndV, dOrV, dNotV, dCh, dCt, cLast, cLink, tLast, tLink, dDrop, dFor, gN, gTu, gCn, gNl, gP0, gP1, gII, gIIc, gAdd, gNeg, gIx, gEq, gNe, cI1, cI2, cLen, cMax, cMin, cAll, cAny, cRepr, cSqrt, cIsi, tyN, isNon, kb_tt, kb_ii, kb_ib, kb_bi, kb_bb, kb_it, kb_bt, kb_nt, kb_ni, kb_lt, kb_li, kb_ti, kb_si, kb_st, kb_ss, atD, ordD, dSq, dRg1, dRg2, dLc, dYes, dLcGo, wipeD, boolsOf, intsOf, maxL, minL, noL, noLs, Option.map_some, Option.bind_some, List.all_cons, List.all_nil, List.any_cons, List.any_nil, id_eq, List.set_cons_zero, List.set_cons_succ, List.getElem?_cons_zero, List.getElem?_cons_succ, List.getElem?_nil, List.getD_cons_zero, List.getD_cons_succ, decide_eq_true_eq, decide_eq_false_iff_not, Bool.not_eq_true', Bool.not_true, Bool.not_false, Bool.and_true, Bool.true_and, Bool.and_false, Bool.false_and, Bool.false_eq_true, if_true, if_false, reduceIte, ite_true, ite_false, true_and, and_true, reduceCtorEq, Int.toNat_zero, Int.toNat_one, Int.cast_ofNat_Int, Int.reduceLT, Int.reduceLE, Int.reduceNeg, Int.reduceToNat, Int.reducePow, Int.reduceMul, Int.reduceAdd, Int.reduceSub, decide_true, decide_false]
    exact ⟨lok _ _, hK _ rfl⟩
  rintro τ rfl
  refine seqI (fun τ => τ = [some (D.tup [D.int lo, D.int hi]), some (D.int a), some (D.int b), some (D.int 1099511627776), some (D.int lo), some (D.int hi)]) (fun K hK => ?_) ?_
  · simp only [startD, List.map_cons, List.map_nil, List.length_cons, List.length_nil, List.replicate, List.cons_append, List.nil_append, Nat.reduceAdd, Nat.reduceSub, Nat.zero_add, dSeq, dIfS, dOr, dAnd, dNot, dTst, dOp, dUn, dVar, dC, dB, dBK, dCons, dNil, dTup, dLst, dRet, dRetN, dNext, dNever, dAsg, dPar, dPar3, dIf, dAndV, dOrV, dNotV, dCh, dCt, cLast, cLink, tLast, tLink, dDrop, dFor, gN, gTu, gCn, gNl, gP0, gP1, gII, gIIc, gAdd, gNeg, gIx, gEq, gNe, cI1, cI2, cLen, cMax, cMin, cAll, cAny, cRepr, cSqrt, cIsi, tyN, isNon, kb_tt, kb_ii, kb_ib, kb_bi, kb_bb, kb_it, kb_bt, kb_nt, kb_ni, kb_lt, kb_li, kb_ti, kb_si, kb_st, kb_ss, atD, ordD, dSq, dRg1, dRg2, dLc, dYes, dLcGo, wipeD, boolsOf, intsOf, maxL, minL, noL, noLs, Option.map_some, Option.bind_some, List.all_cons, List.all_nil, List.any_cons, List.any_nil, id_eq, List.set_cons_zero, List.set_cons_succ, List.getElem?_cons_zero, List.getElem?_cons_succ, List.getElem?_nil, List.getD_cons_zero, List.getD_cons_succ, decide_eq_true_eq, decide_eq_false_iff_not, Bool.not_eq_true', Bool.not_true, Bool.not_false, Bool.and_true, Bool.true_and, Bool.and_false, Bool.false_and, Bool.false_eq_true, if_true, if_false, reduceIte, ite_true, ite_false, true_and, and_true, reduceCtorEq, Int.toNat_zero, Int.toNat_one, Int.cast_ofNat_Int, Int.reduceLT, Int.reduceLE, Int.reduceNeg, Int.reduceToNat, Int.reducePow, Int.reduceMul, Int.reduceAdd, Int.reduceSub, decide_true, decide_false]
    exact hK _ rfl
  rintro τ rfl
  refine seqI (fun τ => τ = [some (D.tup [D.int lo, D.int hi]), some (D.int a), some (D.int b), some (D.int 1099511627776), some (D.int lo), some (D.int hi)]) (fun K hK => ?_) ?_
  · simp only [startD, List.map_cons, List.map_nil, List.length_cons, List.length_nil, List.replicate, List.cons_append, List.nil_append, Nat.reduceAdd, Nat.reduceSub, Nat.zero_add, dSeq, dIfS, dOr, dAnd, dNot, dTst, dOp, dUn, dVar, dC, dB, dBK, dCons, dNil, dTup, dLst, dRet, dRetN, dNext, dNever, dAsg, dPar, dPar3, dIf, dAndV, dOrV, dNotV, dCh, dCt, cLast, cLink, tLast, tLink, dDrop, dFor, gN, gTu, gCn, gNl, gP0, gP1, gII, gIIc, gAdd, gNeg, gIx, gEq, gNe, cI1, cI2, cLen, cMax, cMin, cAll, cAny, cRepr, cSqrt, cIsi, tyN, isNon, kb_tt, kb_ii, kb_ib, kb_bi, kb_bb, kb_it, kb_bt, kb_nt, kb_ni, kb_lt, kb_li, kb_ti, kb_si, kb_st, kb_ss, atD, ordD, dSq, dRg1, dRg2, dLc, dYes, dLcGo, wipeD, boolsOf, intsOf, maxL, minL, noL, noLs, Option.map_some, Option.bind_some, List.all_cons, List.all_nil, List.any_cons, List.any_nil, id_eq, List.set_cons_zero, List.set_cons_succ, List.getElem?_cons_zero, List.getElem?_cons_succ, List.getElem?_nil, List.getD_cons_zero, List.getD_cons_succ, decide_eq_true_eq, decide_eq_false_iff_not, Bool.not_eq_true', Bool.not_true, Bool.not_false, Bool.and_true, Bool.true_and, Bool.and_false, Bool.false_and, Bool.false_eq_true, if_true, if_false, reduceIte, ite_true, ite_false, true_and, and_true, reduceCtorEq, Int.toNat_zero, Int.toNat_one, Int.cast_ofNat_Int, Int.reduceLT, Int.reduceLE, Int.reduceNeg, Int.reduceToNat, Int.reducePow, Int.reduceMul, Int.reduceAdd, Int.reduceSub, decide_true, decide_false]
    refine ⟨by walk_at "dl c", by walk_at "dl c", ?_⟩
    rw [if_pos h5]
    refine ⟨by walk_at "dl c", ?_⟩
    rw [if_neg (by omega)]
    exact hK _ rfl
  rintro τ rfl
  simp only [startD, List.map_cons, List.map_nil, List.length_cons, List.length_nil, List.replicate, List.cons_append, List.nil_append, Nat.reduceAdd, Nat.reduceSub, Nat.zero_add, dSeq, dIfS, dOr, dAnd, dNot, dTst, dOp, dUn, dVar, dC, dB, dBK, dCons, dNil, dTup, dLst, dRet, dRetN, dNext, dNever, dAsg, dPar, dPar3, dIf, dAndV, dOrV, dNotV, dCh, dCt, cLast, cLink, tLast, tLink, dDrop, dFor, gN, gTu, gCn, gNl, gP0, gP1, gII, gIIc, gAdd, gNeg, gIx, gEq, gNe, cI1, cI2, cLen, cMax, cMin, cAll, cAny, cRepr, cSqrt, cIsi, tyN, isNon, kb_tt, kb_ii, kb_ib, kb_bi, kb_bb, kb_it, kb_bt, kb_nt, kb_ni, kb_lt, kb_li, kb_ti, kb_si, kb_st, kb_ss, atD, ordD, dSq, dRg1, dRg2, dLc, dYes, dLcGo, wipeD, boolsOf, intsOf, maxL, minL, noL, noLs, Option.map_some, Option.bind_some, List.all_cons, List.all_nil, List.any_cons, List.any_nil, id_eq, List.set_cons_zero, List.set_cons_succ, List.getElem?_cons_zero, List.getElem?_cons_succ, List.getElem?_nil, List.getD_cons_zero, List.getD_cons_succ, decide_eq_true_eq, decide_eq_false_iff_not, Bool.not_eq_true', Bool.not_true, Bool.not_false, Bool.and_true, Bool.true_and, Bool.and_false, Bool.false_and, Bool.false_eq_true, if_true, if_false, reduceIte, ite_true, ite_false, true_and, and_true, reduceCtorEq, Int.toNat_zero, Int.toNat_one, Int.cast_ofNat_Int, Int.reduceLT, Int.reduceLE, Int.reduceNeg, Int.reduceToNat, Int.reducePow, Int.reduceMul, Int.reduceAdd, Int.reduceSub, decide_true, decide_false]
  refine ⟨by walk_at "dl c", by walk_at "dl c", ?_⟩
  rw [if_pos h8]
  split
  · exact h
  · rcases h9 with e | e
    · omega
    · refine ⟨by walk_at "dl c", by walk_at "dl c", ?_⟩
      rw [decide_eq_true e]
      exact h
def sp__law_over : SpD :=
  fun ds R => match ds with
  | [.int c, .int d] => (-1180591620717411303424 ≤ c ∧ c ≤ d ∧ d ≤ 1180591620717411303424) ∧ ((1024 ≤ c ∧ R (.tup [.int (1208925819614629174706176 / d), .int (-(-1208925819614629174706176 / c))])) ∨ (d ≤ -1024 ∧ R (.tup [.int (-1208925819614629174706176 / -d), .int (-(1208925819614629174706176 / -c))])))
  | _ => False
theorem ok__law_over (T : Txt K mg) (D0 : Dfn K mg "_law_over" "_law_over" s__law_over ["_law_low", "_law_high"] [])  : Cal P w K mg base "_law_over" 1 2 ["_law_low", "_law_high"] [] sp__law_over := by
  refine cal_of D0 sc__law_over fun f cdv A outer s H E p hg hk hr pk => ⟨_, (pdss_cons (pds_set (i := 2) sc__law_over.nd rfl (Or.inl rfl) (pd_bin opd_pow (pd_bin opd_pow pd_int pd_int) pd_int))
      (pdss_cons (pds_set (i := 3) sc__law_over.nd rfl (Or.inl rfl) (pd_ifx (pdt_cmp opd_gt (pd_var 0) pd_int) (pd_lst (pda_cons (pd_tup (pda_cons (pd_var 2) (pda_cons (pd_var 0) pda_nil))) (pda_cons (pd_tup (pda_cons (pd_var 2) (pda_cons (pd_var 1) pda_nil))) pda_nil))) (pd_lst (pda_cons (pd_tup (pda_cons (pd_un und_neg (pd_var 2)) (pda_cons (pd_un und_neg (pd_var 0)) pda_nil))) (pda_cons (pd_tup (pda_cons (pd_un und_neg (pd_var 2)) (pda_cons (pd_un und_neg (pd_var 1)) pda_nil))) pda_nil)))))
      (pdss_one (pds_ret (pd_tup (pda_cons (pd_callB (cd_min rfl) rfl T.b_min PyProof.Rows.boot_min (pda_cons (pd_lc (own := [("_law_number_here", 4), ("_law_under", 5)]) (t := (L2.gTup K 2 (L2.gCons (L2.gName 4) (L2.gCons (L2.gName 5) L2.gNil)))) rfl sc__law_over.nd (pdi_sq (pd_var 3)) (show blkC ["_law_low", "_law_high", "_law_whole", "_law_some", "_law_number_here", "_law_under"] (defScope s__law_over) _ _ = true by decide +kernel) (fun _ _ _ _ _ => (pgw_tup (n := 2) rfl (pgsw_cons (pgw_name (i := 4) (vs := [4, 5]) sc__law_over.nd rfl (Or.inl rfl)) (pgsw_cons (pgw_name (i := 5) (vs := [4, 5]) sc__law_over.nd rfl (Or.inl rfl)) pgsw_nil)))) (fun _ _ _ _ _ => (pd_bin opd_div (pd_var 4) (pd_var 5))) (sh := s)) pda_nil)) (pda_cons (pd_callB (cd_max rfl) rfl T.b_max PyProof.Rows.boot_max (pda_cons (pd_lc (own := [("_law_number_here", 4), ("_law_under", 5)]) (t := (L2.gTup K 2 (L2.gCons (L2.gName 4) (L2.gCons (L2.gName 5) L2.gNil)))) rfl sc__law_over.nd (pdi_sq (pd_var 3)) (show blkC ["_law_low", "_law_high", "_law_whole", "_law_some", "_law_number_here", "_law_under"] (defScope s__law_over) _ _ = true by decide +kernel) (fun _ _ _ _ _ => (pgw_tup (n := 2) rfl (pgsw_cons (pgw_name (i := 4) (vs := [4, 5]) sc__law_over.nd rfl (Or.inl rfl)) (pgsw_cons (pgw_name (i := 5) (vs := [4, 5]) sc__law_over.nd rfl (Or.inl rfl)) pgsw_nil)))) (fun _ _ _ _ _ => (pd_un und_neg (pd_bin opd_div (pd_un und_neg (pd_var 4)) (pd_var 5)))) (sh := s)) pda_nil)) pda_nil))))))), ?_⟩
  intro ds R hl h; unfold sp__law_over at h; split at h
  all_goals (try exact False.elim h)
  all_goals clear hl hg hr hk pk
  rename_i c d
  obtain ⟨⟨h1, h2, h3⟩, h⟩ := h
  have lok : ∀ x y : D, LenOk [x, y] := fun _ _ => .of 2 rfl (by omega)
  simp only [startD, List.map_cons, List.map_nil, List.length_cons, List.length_nil, List.replicate, List.cons_append, List.nil_append, Nat.reduceAdd, Nat.reduceSub, Nat.zero_add]
  refine seqI (fun τ => τ = [some (D.int c), some (D.int d), some (D.int 1208925819614629174706176), none, none, none]) (fun K hK => ?_) ?_
  · simp only [startD, List.map_cons, List.map_nil, List.length_cons, List.length_nil, List.replicate, List.cons_append, List.nil_append, Nat.reduceAdd, Nat.reduceSub, Nat.zero_add, dSeq, dIfS, dOr, dAnd, dNot, dTst, dOp, dUn, dVar, dC, dB, dBK, dCons, dNil, dTup, dLst, dRet, dRetN, dNext, dNever, dAsg, dPar, dPar3, dIf, dAndV, dOrV, dNotV, dCh, dCt, cLast, cLink, tLast, tLink, dDrop, dFor, gN, gTu, gCn, gNl, gP0, gP1, gII, gIIc, gAdd, gNeg, gIx, gEq, gNe, cI1, cI2, cLen, cMax, cMin, cAll, cAny, cRepr, cSqrt, cIsi, tyN, isNon, kb_tt, kb_ii, kb_ib, kb_bi, kb_bb, kb_it, kb_bt, kb_nt, kb_ni, kb_lt, kb_li, kb_ti, kb_si, kb_st, kb_ss, atD, ordD, dSq, dRg1, dRg2, dLc, dYes, dLcGo, wipeD, boolsOf, intsOf, maxL, minL, noL, noLs, Option.map_some, Option.bind_some, List.all_cons, List.all_nil, List.any_cons, List.any_nil, id_eq, List.set_cons_zero, List.set_cons_succ, List.getElem?_cons_zero, List.getElem?_cons_succ, List.getElem?_nil, List.getD_cons_zero, List.getD_cons_succ, decide_eq_true_eq, decide_eq_false_iff_not, Bool.not_eq_true', Bool.not_true, Bool.not_false, Bool.and_true, Bool.true_and, Bool.and_false, Bool.false_and, Bool.false_eq_true, if_true, if_false, reduceIte, ite_true, ite_false, true_and, and_true, reduceCtorEq, Int.toNat_zero, Int.toNat_one, Int.cast_ofNat_Int, Int.reduceLT, Int.reduceLE, Int.reduceNeg, Int.reduceToNat, Int.reducePow, Int.reduceMul, Int.reduceAdd, Int.reduceSub, decide_true, decide_false]
    exact hK _ rfl
  rintro τ rfl
  rcases h with ⟨h5, h⟩ | ⟨h5, h⟩
  · refine seqI (fun τ => τ = [some (D.int c), some (D.int d), some (D.int 1208925819614629174706176), some (D.lst [D.tup [D.int 1208925819614629174706176, D.int c], D.tup [D.int 1208925819614629174706176, D.int d]]), none, none]) (fun K hK => ?_) ?_
    · simp only [startD, List.map_cons, List.map_nil, List.length_cons, List.length_nil, List.replicate, List.cons_append, List.nil_append, Nat.reduceAdd, Nat.reduceSub, Nat.zero_add, dSeq, dIfS, dOr, dAnd, dNot, dTst, dOp, dUn, dVar, dC, dB, dBK, dCons, dNil, dTup, dLst, dRet, dRetN, dNext, dNever, dAsg, dPar, dPar3, dIf, dAndV, dOrV, dNotV, dCh, dCt, cLast, cLink, tLast, tLink, dDrop, dFor, gN, gTu, gCn, gNl, gP0, gP1, gII, gIIc, gAdd, gNeg, gIx, gEq, gNe, cI1, cI2, cLen, cMax, cMin, cAll, cAny, cRepr, cSqrt, cIsi, tyN, isNon, kb_tt, kb_ii, kb_ib, kb_bi, kb_bb, kb_it, kb_bt, kb_nt, kb_ni, kb_lt, kb_li, kb_ti, kb_si, kb_st, kb_ss, atD, ordD, dSq, dRg1, dRg2, dLc, dYes, dLcGo, wipeD, boolsOf, intsOf, maxL, minL, noL, noLs, Option.map_some, Option.bind_some, List.all_cons, List.all_nil, List.any_cons, List.any_nil, id_eq, List.set_cons_zero, List.set_cons_succ, List.getElem?_cons_zero, List.getElem?_cons_succ, List.getElem?_nil, List.getD_cons_zero, List.getD_cons_succ, decide_eq_true_eq, decide_eq_false_iff_not, Bool.not_eq_true', Bool.not_true, Bool.not_false, Bool.and_true, Bool.true_and, Bool.and_false, Bool.false_and, Bool.false_eq_true, if_true, if_false, reduceIte, ite_true, ite_false, true_and, and_true, reduceCtorEq, Int.toNat_zero, Int.toNat_one, Int.cast_ofNat_Int, Int.reduceLT, Int.reduceLE, Int.reduceNeg, Int.reduceToNat, Int.reducePow, Int.reduceMul, Int.reduceAdd, Int.reduceSub, decide_true, decide_false]
      rw [if_pos (by omega)]
      exact hK _ rfl
    rintro τ rfl
    have q1 := div_anti (w := 1208925819614629174706176) (by omega) (show 0 < c by omega) h2
    have q2 := div_anti_neg (w := 1208925819614629174706176) (by omega) (show 0 < c by omega) h2
    simp only [startD, List.map_cons, List.map_nil, List.length_cons, List.length_nil, List.replicate, List.cons_append, List.nil_append, Nat.reduceAdd, Nat.reduceSub, Nat.zero_add, dSeq, dIfS, dOr, dAnd, dNot, dTst, dOp, dUn, dVar, dC, dB, dBK, dCons, dNil, dTup, dLst, dRet, dRetN, dNext, dNever, dAsg, dPar, dPar3, dIf, dAndV, dOrV, dNotV, dCh, dCt, cLast, cLink, tLast, tLink, dDrop, dFor, gN, gTu, gCn, gNl, gP0, gP1, gII, gIIc, gAdd, gNeg, gIx, gEq, gNe, cI1, cI2, cLen, cMax, cMin, cAll, cAny, cRepr, cSqrt, cIsi, tyN, isNon, kb_tt, kb_ii, kb_ib, kb_bi, kb_bb, kb_it, kb_bt, kb_nt, kb_ni, kb_lt, kb_li, kb_ti, kb_si, kb_st, kb_ss, atD, ordD, dSq, dRg1, dRg2, dLc, dYes, dLcGo, wipeD, boolsOf, intsOf, maxL, minL, noL, noLs, Option.map_some, Option.bind_some, List.all_cons, List.all_nil, List.any_cons, List.any_nil, id_eq, List.set_cons_zero, List.set_cons_succ, List.getElem?_cons_zero, List.getElem?_cons_succ, List.getElem?_nil, List.getD_cons_zero, List.getD_cons_succ, decide_eq_true_eq, decide_eq_false_iff_not, Bool.not_eq_true', Bool.not_true, Bool.not_false, Bool.and_true, Bool.true_and, Bool.and_false, Bool.false_and, Bool.false_eq_true, if_true, if_false, reduceIte, ite_true, ite_false, true_and, and_true, reduceCtorEq, Int.toNat_zero, Int.toNat_one, Int.cast_ofNat_Int, Int.reduceLT, Int.reduceLE, Int.reduceNeg, Int.reduceToNat, Int.reducePow, Int.reduceMul, Int.reduceAdd, Int.reduceSub, decide_true, decide_false]
    rw [Int.min_eq_right q1, Int.max_eq_left (by omega)]
    exact ⟨lok _ _, by walk_at "dl c", by walk_at "dl c", lok _ _, by walk_at "dl c", by walk_at "dl c", h⟩
  · refine seqI (fun τ => τ = [some (D.int c), some (D.int d), some (D.int 1208925819614629174706176), some (D.lst [D.tup [D.int (-1208925819614629174706176), D.int (-c)], D.tup [D.int (-1208925819614629174706176), D.int (-d)]]), none, none]) (fun K hK => ?_) ?_
    · simp only [startD, List.map_cons, List.map_nil, List.length_cons, List.length_nil, List.replicate, List.cons_append, List.nil_append, Nat.reduceAdd, Nat.reduceSub, Nat.zero_add, dSeq, dIfS, dOr, dAnd, dNot, dTst, dOp, dUn, dVar, dC, dB, dBK, dCons, dNil, dTup, dLst, dRet, dRetN, dNext, dNever, dAsg, dPar, dPar3, dIf, dAndV, dOrV, dNotV, dCh, dCt, cLast, cLink, tLast, tLink, dDrop, dFor, gN, gTu, gCn, gNl, gP0, gP1, gII, gIIc, gAdd, gNeg, gIx, gEq, gNe, cI1, cI2, cLen, cMax, cMin, cAll, cAny, cRepr, cSqrt, cIsi, tyN, isNon, kb_tt, kb_ii, kb_ib, kb_bi, kb_bb, kb_it, kb_bt, kb_nt, kb_ni, kb_lt, kb_li, kb_ti, kb_si, kb_st, kb_ss, atD, ordD, dSq, dRg1, dRg2, dLc, dYes, dLcGo, wipeD, boolsOf, intsOf, maxL, minL, noL, noLs, Option.map_some, Option.bind_some, List.all_cons, List.all_nil, List.any_cons, List.any_nil, id_eq, List.set_cons_zero, List.set_cons_succ, List.getElem?_cons_zero, List.getElem?_cons_succ, List.getElem?_nil, List.getD_cons_zero, List.getD_cons_succ, decide_eq_true_eq, decide_eq_false_iff_not, Bool.not_eq_true', Bool.not_true, Bool.not_false, Bool.and_true, Bool.true_and, Bool.and_false, Bool.false_and, Bool.false_eq_true, if_true, if_false, reduceIte, ite_true, ite_false, true_and, and_true, reduceCtorEq, Int.toNat_zero, Int.toNat_one, Int.cast_ofNat_Int, Int.reduceLT, Int.reduceLE, Int.reduceNeg, Int.reduceToNat, Int.reducePow, Int.reduceMul, Int.reduceAdd, Int.reduceSub, decide_true, decide_false]
      rw [if_neg (by omega)]
      exact hK _ rfl
    rintro τ rfl
    have q1 := div_anti (w := 1208925819614629174706176) (by omega) (show 0 < -d by omega) (show -d ≤ -c by omega)
    have q2 := div_anti_neg (w := 1208925819614629174706176) (by omega) (show 0 < -d by omega) (show -d ≤ -c by omega)
    simp only [startD, List.map_cons, List.map_nil, List.length_cons, List.length_nil, List.replicate, List.cons_append, List.nil_append, Nat.reduceAdd, Nat.reduceSub, Nat.zero_add, dSeq, dIfS, dOr, dAnd, dNot, dTst, dOp, dUn, dVar, dC, dB, dBK, dCons, dNil, dTup, dLst, dRet, dRetN, dNext, dNever, dAsg, dPar, dPar3, dIf, dAndV, dOrV, dNotV, dCh, dCt, cLast, cLink, tLast, tLink, dDrop, dFor, gN, gTu, gCn, gNl, gP0, gP1, gII, gIIc, gAdd, gNeg, gIx, gEq, gNe, cI1, cI2, cLen, cMax, cMin, cAll, cAny, cRepr, cSqrt, cIsi, tyN, isNon, kb_tt, kb_ii, kb_ib, kb_bi, kb_bb, kb_it, kb_bt, kb_nt, kb_ni, kb_lt, kb_li, kb_ti, kb_si, kb_st, kb_ss, atD, ordD, dSq, dRg1, dRg2, dLc, dYes, dLcGo, wipeD, boolsOf, intsOf, maxL, minL, noL, noLs, Option.map_some, Option.bind_some, List.all_cons, List.all_nil, List.any_cons, List.any_nil, id_eq, List.set_cons_zero, List.set_cons_succ, List.getElem?_cons_zero, List.getElem?_cons_succ, List.getElem?_nil, List.getD_cons_zero, List.getD_cons_succ, decide_eq_true_eq, decide_eq_false_iff_not, Bool.not_eq_true', Bool.not_true, Bool.not_false, Bool.and_true, Bool.true_and, Bool.and_false, Bool.false_and, Bool.false_eq_true, if_true, if_false, reduceIte, ite_true, ite_false, true_and, and_true, reduceCtorEq, Int.toNat_zero, Int.toNat_one, Int.cast_ofNat_Int, Int.reduceLT, Int.reduceLE, Int.reduceNeg, Int.reduceToNat, Int.reducePow, Int.reduceMul, Int.reduceAdd, Int.reduceSub, decide_true, decide_false]
    rw [Int.min_eq_right q2, Int.max_eq_left (by omega)]
    exact ⟨lok _ _, by walk_at "dl c", by walk_at "dl c", lok _ _, by walk_at "dl c", by walk_at "dl c", h⟩
def sp__law_number : SpD :=
  fun ds R => match ds with
  | [.pot] => ∀ n : Int, 0 ≤ n → n ≤ 1180591620717411302400 → R (.int n)
  | _ => False
theorem ok__law_number (T : Txt K mg) (D0 : Dfn K mg "_law_number" "_law_number" s__law_number ["_law_pot_here"] []) (C__law_draw : Cal P w K mg base "_law_draw" 1 2 ["_law_pot_here", "_law_many"] [] sp__law_draw) : Cal P w K mg base "_law_number" 2 1 ["_law_pot_here"] [] sp__law_number := by
  refine cal_of D0 sc__law_number fun f cdv A outer s H E p hg hk hr pk => ⟨_, (pdss_cons (pds_set (i := 1) sc__law_number.nd rfl (Or.inl rfl) (pdcC C__law_draw hg hr (pda_cons (pd_var 0) (pda_cons pd_int pda_nil))))
      (pdss_cons (pds_if (pdt_cmp (opd_eq hr.units) (pd_var 1) pd_int) (pdss_one (pds_ret (pdcC C__law_draw hg hr (pda_cons (pd_var 0) (pda_cons pd_int pda_nil))))) pdss_nil)
      (pdss_cons (pds_if (pdt_cmp (opd_eq hr.units) (pd_var 1) pd_int) (pdss_one (pds_ret (pd_bin opd_sub (pd_bin opd_sub (pd_bin opd_pow (pd_bin opd_pow pd_int pd_int) pd_int) (pd_bin opd_pow pd_int pd_int)) (pdcC C__law_draw hg hr (pda_cons (pd_var 0) (pda_cons pd_int pda_nil)))))) pdss_nil)
      (pdss_cons (pds_if (pdt_cmp (opd_eq hr.units) (pd_var 1) pd_int) (pdss_cons (pds_set (i := 2) sc__law_number.nd rfl (Or.inl rfl) (pd_bin opd_add pd_int (pdcC C__law_draw hg hr (pda_cons (pd_var 0) (pda_cons (pd_bin opd_pow pd_int pd_int) pda_nil)))))
      (pdss_one (pds_ret (pd_callB (cd_max rfl) rfl T.b_max PyProof.Rows.boot_max (pda_cons pd_int (pda_cons (pd_bin opd_sub (pd_bin opd_add (pd_bin opd_div (pd_bin opd_mul (pd_bin opd_mul (pd_var 2) (pd_var 2)) (pd_bin opd_pow pd_int pd_int)) (pd_bin opd_pow pd_int pd_int)) (pdcC C__law_draw hg hr (pda_cons (pd_var 0) (pda_cons pd_int pda_nil)))) pd_int) pda_nil)))))) pdss_nil)
      (pdss_cons (pds_if (pdt_cmp (opd_eq hr.units) (pd_var 1) pd_int) (pdss_one (pds_ret (pd_bin opd_mul (pd_bin opd_pow (pdcC C__law_draw hg hr (pda_cons (pd_var 0) (pda_cons (pd_bin opd_pow pd_int pd_int) pda_nil))) pd_int) (pd_bin opd_pow pd_int pd_int)))) pdss_nil)
      (pdss_cons (pds_set (i := 3) sc__law_number.nd rfl (Or.inl rfl) (pdcC C__law_draw hg hr (pda_cons (pd_var 0) (pda_cons (pd_bin opd_pow pd_int pd_int) pda_nil))))
      (pdss_cons (pds_for rfl PassesOwn.never (pdi_rg1 T.b_range (pda_cons (pdcC C__law_draw hg hr (pda_cons (pd_var 0) (pda_cons pd_int pda_nil))) pda_nil)) (pdg_name (i := 4) sc__law_number.nd rfl (Or.inl rfl)) (pdss_one (pds_set (i := 3) sc__law_number.nd rfl (Or.inl rfl) (pd_bin opd_mul pd_int (pd_var 3)))))
      (pdss_one (pds_ret (pd_var 3)))))))))), ?_⟩
  intro ds R hl h; unfold sp__law_number at h; split at h
  all_goals (try exact False.elim h)
  all_goals clear hl hg hr hk pk
  simp only [startD, List.map_cons, List.map_nil, List.length_cons, List.length_nil, List.replicate, List.cons_append, List.nil_append, Nat.reduceAdd, Nat.reduceSub, Nat.zero_add, dSeq, dIfS, dOr, dAnd, dNot, dTst, dOp, dUn, dVar, dC, dB, dBK, dCons, dNil, dTup, dLst, dRet, dRetN, dNext, dNever, dAsg, dPar, dPar3, dIf, dAndV, dOrV, dNotV, dCh, dCt, cLast, cLink, tLast, tLink, dDrop, dFor, gN, gTu, gCn, gNl, gP0, gP1, gII, gIIc, gAdd, gNeg, gIx, gEq, gNe, cI1, cI2, cLen, cMax, cMin, cAll, cAny, cRepr, cSqrt, cIsi, tyN, isNon, kb_tt, kb_ii, kb_ib, kb_bi, kb_bb, kb_it, kb_bt, kb_nt, kb_ni, kb_lt, kb_li, kb_ti, kb_si, kb_st, kb_ss, atD, ordD, dSq, dRg1, dRg2, dLc, dYes, dLcGo, wipeD, boolsOf, intsOf, maxL, minL, noL, noLs, Option.map_some, Option.bind_some, List.all_cons, List.all_nil, List.any_cons, List.any_nil, id_eq, List.set_cons_zero, List.set_cons_succ, List.getElem?_cons_zero, List.getElem?_cons_succ, List.getElem?_nil, List.getD_cons_zero, List.getD_cons_succ, decide_eq_true_eq, decide_eq_false_iff_not, Bool.not_eq_true', Bool.not_true, Bool.not_false, Bool.and_true, Bool.true_and, Bool.and_false, Bool.false_and, Bool.false_eq_true, if_true, if_false, reduceIte, ite_true, ite_false, true_and, and_true, reduceCtorEq, Int.toNat_zero, Int.toNat_one, Int.cast_ofNat_Int, Int.reduceLT, Int.reduceLE, Int.reduceNeg, Int.reduceToNat, Int.reducePow, Int.reduceMul, Int.reduceAdd, Int.reduceSub, decide_true, decide_false, sp__law_draw]
  intro r h0 h1
  split
  · intro q q0 q1
    exact h _ (by omega) (by omega)
  split
  · intro q q0 q1
    exact h _ (by omega) (by omega)
  split
  · intro q q0 q1
    have s1 : (1 + q) * (1 + q) ≤ 1073741824 * 1073741824 := sq_le_sq (by omega) (by omega)
    have s2 : 0 ≤ (1 + q) * (1 + q) := Int.mul_nonneg (by omega) (by omega)
    refine ⟨by walk_at "dl c", by walk_at "dl c", by walk_at "dl c", ?_⟩
    intro t t0 t1
    rw [Int.mul_ediv_cancel _ (by omega)]
    exact h _ (by omega) (by omega)
  split
  · intro q q0 q1
    have s0 : q ^ 2 = q * q := by rw [Int.pow_succ, Int.pow_succ, Int.pow_zero, Int.one_mul]
    have s1 : q * q ≤ 1048576 * 1048576 := sq_le_sq (by omega) (by omega)
    have s2 : 0 ≤ q * q := Int.mul_nonneg (by omega) (by omega)
    rw [s0]
    exact ⟨by omega, by walk_at "dl c", h _ (by omega) (by omega)⟩
  · intro q q0 q1 t t0 t1
    refine ⟨by omega, forInv (fun i τ => ∃ (f : Int) (o : Option D), τ = [some D.pot, some (D.int r), none, some (D.int f), o] ∧ 0 ≤ f ∧ f ≤ 1073741824 * 2 ^ i) _ _ ⟨q, none, rfl, q0, by omega⟩ ?_ ?_⟩
    · intro k i x τ hx hk hI
      obtain ⟨f, o, rfl, f0, f1⟩ := hI
      have hi : i < 30 := by
        have := (List.getElem?_eq_some_iff.mp hx).1
        rw [rng_len] at this
        omega
      have pw : (2 : Int) ^ i ≤ 2 ^ 30 := by
        have := Nat.pow_le_pow_right (show 0 < 2 by decide) (show i ≤ 30 by omega)
        have e : ((2 ^ i : Nat) : Int) = (2 : Int) ^ i := by simp
        have e2 : (2 : Nat) ^ 30 = 1073741824 := by decide
        have e3 : (2 : Int) ^ 30 = 1073741824 := by decide
        omega
      have e3 : (2 : Int) ^ 30 = 1073741824 := by decide
      simp only [startD, List.map_cons, List.map_nil, List.length_cons, List.length_nil, List.replicate, List.cons_append, List.nil_append, Nat.reduceAdd, Nat.reduceSub, Nat.zero_add, dSeq, dIfS, dOr, dAnd, dNot, dTst, dOp, dUn, dVar, dC, dB, dBK, dCons, dNil, dTup, dLst, dRet, dRetN, dNext, dNever, dAsg, dPar, dPar3, dIf, dAndV, dOrV, dNotV, dCh, dCt, cLast, cLink, tLast, tLink, dDrop, dFor, gN, gTu, gCn, gNl, gP0, gP1, gII, gIIc, gAdd, gNeg, gIx, gEq, gNe, cI1, cI2, cLen, cMax, cMin, cAll, cAny, cRepr, cSqrt, cIsi, tyN, isNon, kb_tt, kb_ii, kb_ib, kb_bi, kb_bb, kb_it, kb_bt, kb_nt, kb_ni, kb_lt, kb_li, kb_ti, kb_si, kb_st, kb_ss, atD, ordD, dSq, dRg1, dRg2, dLc, dYes, dLcGo, wipeD, boolsOf, intsOf, maxL, minL, noL, noLs, Option.map_some, Option.bind_some, List.all_cons, List.all_nil, List.any_cons, List.any_nil, id_eq, List.set_cons_zero, List.set_cons_succ, List.getElem?_cons_zero, List.getElem?_cons_succ, List.getElem?_nil, List.getD_cons_zero, List.getD_cons_succ, decide_eq_true_eq, decide_eq_false_iff_not, Bool.not_eq_true', Bool.not_true, Bool.not_false, Bool.and_true, Bool.true_and, Bool.and_false, Bool.false_and, Bool.false_eq_true, if_true, if_false, reduceIte, ite_true, ite_false, true_and, and_true, reduceCtorEq, Int.toNat_zero, Int.toNat_one, Int.cast_ofNat_Int, Int.reduceLT, Int.reduceLE, Int.reduceNeg, Int.reduceToNat, Int.reducePow, Int.reduceMul, Int.reduceAdd, Int.reduceSub, decide_true, decide_false, sp__law_draw]
      refine ⟨by walk_at "dl c", hk _ ⟨_, _, rfl, by omega, ?_⟩⟩
      rw [Int.pow_succ]
      omega
    · intro τ hI
      obtain ⟨f, o, rfl, f0, f1⟩ := hI
      rw [rng_len] at f1
      have pw : (2 : Int) ^ t.toNat ≤ 2 ^ 30 := by
        have := Nat.pow_le_pow_right (show 0 < 2 by decide) (show t.toNat ≤ 30 by omega)
        have e : ((2 ^ t.toNat : Nat) : Int) = (2 : Int) ^ t.toNat := by simp
        have e2 : (2 : Nat) ^ 30 = 1073741824 := by decide
        have e3 : (2 : Int) ^ 30 = 1073741824 := by decide
        omega
      have e3 : (2 : Int) ^ 30 = 1073741824 := by decide
      simp only [startD, List.map_cons, List.map_nil, List.length_cons, List.length_nil, List.replicate, List.cons_append, List.nil_append, Nat.reduceAdd, Nat.reduceSub, Nat.zero_add, dSeq, dIfS, dOr, dAnd, dNot, dTst, dOp, dUn, dVar, dC, dB, dBK, dCons, dNil, dTup, dLst, dRet, dRetN, dNext, dNever, dAsg, dPar, dPar3, dIf, dAndV, dOrV, dNotV, dCh, dCt, cLast, cLink, tLast, tLink, dDrop, dFor, gN, gTu, gCn, gNl, gP0, gP1, gII, gIIc, gAdd, gNeg, gIx, gEq, gNe, cI1, cI2, cLen, cMax, cMin, cAll, cAny, cRepr, cSqrt, cIsi, tyN, isNon, kb_tt, kb_ii, kb_ib, kb_bi, kb_bb, kb_it, kb_bt, kb_nt, kb_ni, kb_lt, kb_li, kb_ti, kb_si, kb_st, kb_ss, atD, ordD, dSq, dRg1, dRg2, dLc, dYes, dLcGo, wipeD, boolsOf, intsOf, maxL, minL, noL, noLs, Option.map_some, Option.bind_some, List.all_cons, List.all_nil, List.any_cons, List.any_nil, id_eq, List.set_cons_zero, List.set_cons_succ, List.getElem?_cons_zero, List.getElem?_cons_succ, List.getElem?_nil, List.getD_cons_zero, List.getD_cons_succ, decide_eq_true_eq, decide_eq_false_iff_not, Bool.not_eq_true', Bool.not_true, Bool.not_false, Bool.and_true, Bool.true_and, Bool.and_false, Bool.false_and, Bool.false_eq_true, if_true, if_false, reduceIte, ite_true, ite_false, true_and, and_true, reduceCtorEq, Int.toNat_zero, Int.toNat_one, Int.cast_ofNat_Int, Int.reduceLT, Int.reduceLE, Int.reduceNeg, Int.reduceToNat, Int.reducePow, Int.reduceMul, Int.reduceAdd, Int.reduceSub, decide_true, decide_false, sp__law_draw]
      exact h _ f0 (by omega)
def sp__law_interval : SpD :=
  fun ds R => match ds with
  | [.pot] => ∀ a b : Int, 0 ≤ a → a ≤ b → b ≤ 1180591620717411302400 → R (.tup [.int a, .int b])
  | _ => False
theorem ok__law_interval (T : Txt K mg) (D0 : Dfn K mg "_law_interval" "_law_interval" s__law_interval ["_law_pot_here"] []) (C__law_draw : Cal P w K mg base "_law_draw" 1 2 ["_law_pot_here", "_law_many"] [] sp__law_draw) (C__law_number : Cal P w K mg base "_law_number" 2 1 ["_law_pot_here"] [] sp__law_number) : Cal P w K mg base "_law_interval" 3 1 ["_law_pot_here"] [] sp__law_interval := by
  refine cal_of D0 sc__law_interval fun f cdv A outer s H E p hg hk hr pk => ⟨_, (pdss_cons (pds_par (i := 1) (j := 2) rfl sc__law_interval.nd rfl rfl (by decide) rfl rfl (pda_cons (pdcC C__law_number hg hr (pda_cons (pd_var 0) pda_nil)) (pda_cons (pdcC C__law_number hg hr (pda_cons (pd_var 0) pda_nil)) pda_nil)) (by rfl))
      (pdss_one (pds_ret (pd_ifx (pdt_cmp (opd_eq hr.units) (pdcC C__law_draw hg hr (pda_cons (pd_var 0) (pda_cons pd_int pda_nil))) pd_int) (pd_tup (pda_cons (pd_var 1) (pda_cons (pd_var 1) pda_nil))) (pd_tup (pda_cons (pd_callB (cd_min rfl) rfl T.b_min PyProof.Rows.boot_min (pda_cons (pd_var 1) (pda_cons (pd_var 2) pda_nil))) (pda_cons (pd_callB (cd_max rfl) rfl T.b_max PyProof.Rows.boot_max (pda_cons (pd_var 1) (pda_cons (pd_var 2) pda_nil))) pda_nil))))))), ?_⟩
  intro ds R hl h; unfold sp__law_interval at h; split at h
  all_goals (try exact False.elim h)
  all_goals clear hl hg hr hk pk
  simp only [startD, List.map_cons, List.map_nil, List.length_cons, List.length_nil, List.replicate, List.cons_append, List.nil_append, Nat.reduceAdd, Nat.reduceSub, Nat.zero_add, dSeq, dIfS, dOr, dAnd, dNot, dTst, dOp, dUn, dVar, dC, dB, dBK, dCons, dNil, dTup, dLst, dRet, dRetN, dNext, dNever, dAsg, dPar, dPar3, dIf, dAndV, dOrV, dNotV, dCh, dCt, cLast, cLink, tLast, tLink, dDrop, dFor, gN, gTu, gCn, gNl, gP0, gP1, gII, gIIc, gAdd, gNeg, gIx, gEq, gNe, cI1, cI2, cLen, cMax, cMin, cAll, cAny, cRepr, cSqrt, cIsi, tyN, isNon, kb_tt, kb_ii, kb_ib, kb_bi, kb_bb, kb_it, kb_bt, kb_nt, kb_ni, kb_lt, kb_li, kb_ti, kb_si, kb_st, kb_ss, atD, ordD, dSq, dRg1, dRg2, dLc, dYes, dLcGo, wipeD, boolsOf, intsOf, maxL, minL, noL, noLs, Option.map_some, Option.bind_some, List.all_cons, List.all_nil, List.any_cons, List.any_nil, id_eq, List.set_cons_zero, List.set_cons_succ, List.getElem?_cons_zero, List.getElem?_cons_succ, List.getElem?_nil, List.getD_cons_zero, List.getD_cons_succ, decide_eq_true_eq, decide_eq_false_iff_not, Bool.not_eq_true', Bool.not_true, Bool.not_false, Bool.and_true, Bool.true_and, Bool.and_false, Bool.false_and, Bool.false_eq_true, if_true, if_false, reduceIte, ite_true, ite_false, true_and, and_true, reduceCtorEq, Int.toNat_zero, Int.toNat_one, Int.cast_ofNat_Int, Int.reduceLT, Int.reduceLE, Int.reduceNeg, Int.reduceToNat, Int.reducePow, Int.reduceMul, Int.reduceAdd, Int.reduceSub, decide_true, decide_false, sp__law_draw, sp__law_number]
  intro a a0 a1 b b0 b1 r r0 r1
  split
  · exact h _ _ a0 (by omega) (by omega)
  · exact h _ _ (by omega) (by omega) (by omega)
def sp__law_right : SpD :=
  fun ds R => match ds with
  | [.pot] => R (.bl true)
  | _ => False
theorem ok__law_right (T : Txt K mg) (D0 : Dfn K mg "_law_right" "_law_right" s__law_right ["_law_pot_here"] []) (C_over_of : Cal P w K mg base "over_of" 4 1 ["interval"] [(["interval"], 0, [0])] sp_over_of) (C__law_over : Cal P w K mg base "_law_over" 1 2 ["_law_low", "_law_high"] [] sp__law_over) (C__law_draw : Cal P w K mg base "_law_draw" 1 2 ["_law_pot_here", "_law_many"] [] sp__law_draw) (C_root_of : Cal P w K mg base "root_of" 4 1 ["interval"] [(["interval"], 0, [0])] sp_root_of) (C__law_root_right : Cal P w K mg base "_law_root_right" 1 3 ["_law_told", "_law_low", "_law_high"] [] sp__law_root_right) (C__law_interval : Cal P w K mg base "_law_interval" 3 1 ["_law_pot_here"] [] sp__law_interval) : Cal P w K mg base "_law_right" 5 1 ["_law_pot_here"] [] sp__law_right := by
  refine cal_of D0 sc__law_right fun f cdv A outer s H E p hg hk hr pk => ⟨_, (pdss_cons (pds_for rfl PassesOwn.never (pdi_rg1 T.b_range (pda_cons pd_int pda_nil)) (pdg_name (i := 1) sc__law_right.nd rfl (Or.inl rfl)) (pdss_cons (pds_asg (pdcC C__law_interval hg hr (pda_cons (pd_var 0) pda_nil)) (pdg_tup (n := 2) rfl (pdgs_cons (pdg_name (i := 2) sc__law_right.nd rfl (Or.inl rfl)) (pdgs_cons (pdg_name (i := 3) sc__law_right.nd rfl (Or.inl rfl)) pdgs_nil))))
      (pdss_cons (pds_set (i := 4) sc__law_right.nd rfl (Or.inl rfl) (pd_ifx (pdt_cmp opd_gt (pd_var 1) pd_int) (pdcC C_root_of hg hr (pda_cons (pd_tup (pda_cons (pd_var 2) (pda_cons (pd_var 3) pda_nil))) pda_nil)) (pdcCK0 (ks := ["interval"]) (perm := [0]) C_root_of hg hr (by decide) (pdk_cons (pd_tup (pda_cons (pd_var 2) (pda_cons (pd_var 3) pda_nil))) pdk_nil))))
      (pdss_cons (pds_if (pdt_not (pdt_val (pdcC C__law_root_right hg hr (pda_cons (pd_var 4) (pda_cons (pd_var 2) (pda_cons (pd_var 3) pda_nil)))))) (pdss_one (pds_ret pd_bl)) pdss_nil)
      (pdss_cons (pds_set (i := 5) sc__law_right.nd rfl (Or.inl rfl) (pd_tup (pda_cons (pd_bin opd_add (pd_var 2) (pd_bin opd_div (pd_bin opd_sub (pd_var 3) (pd_var 2)) pd_int)) (pda_cons (pd_bin opd_sub (pd_var 3) (pd_bin opd_div (pd_bin opd_sub (pd_var 3) (pd_var 2)) pd_int)) pda_nil))))
      (pdss_cons (pds_set (i := 6) sc__law_right.nd rfl (Or.inl rfl) (pdcC C_root_of hg hr (pda_cons (pd_var 5) pda_nil)))
      (pdss_cons (pds_if (pdt_not (pdt_chainN (pd_ix (pd_var 4) pd_int) (pct_cons opd_le (pd_ix (pd_var 6) pd_int) (pct_cons opd_le (pd_ix (pd_var 6) pd_int) (pct_last opd_le (pd_ix (pd_var 4) pd_int)))))) (pdss_one (pds_ret pd_bl)) pdss_nil)
      (pdss_cons (pds_par (i := 2) (j := 3) rfl sc__law_right.nd rfl rfl (by decide) rfl rfl (pda_cons (pd_bin opd_add (pd_var 2) (pd_bin opd_pow pd_int pd_int)) (pda_cons (pd_bin opd_add (pd_var 3) (pd_bin opd_pow pd_int pd_int)) pda_nil)) (by rfl))
      (pdss_cons (pds_if (pdt_cmp (opd_eq hr.units) (pdcC C__law_draw hg hr (pda_cons (pd_var 0) (pda_cons pd_int pda_nil))) pd_int) (pdss_one (pds_par (i := 2) (j := 3) rfl sc__law_right.nd rfl rfl (by decide) rfl rfl (pda_cons (pd_un und_neg (pd_var 3)) (pda_cons (pd_un und_neg (pd_var 2)) pda_nil)) (by rfl))) pdss_nil)
      (pdss_cons (pds_set (i := 4) sc__law_right.nd rfl (Or.inl rfl) (pd_ifx (pdt_cmp opd_gt (pd_var 1) pd_int) (pdcC C_over_of hg hr (pda_cons (pd_tup (pda_cons (pd_var 2) (pda_cons (pd_var 3) pda_nil))) pda_nil)) (pdcCK0 (ks := ["interval"]) (perm := [0]) C_over_of hg hr (by decide) (pdk_cons (pd_tup (pda_cons (pd_var 2) (pda_cons (pd_var 3) pda_nil))) pdk_nil))))
      (pdss_cons (pds_if (pdt_cmp (opd_ne hr.units) (pd_callB (cd_repr hg hr.units) rfl T.b_repr PyProof.Rows.boot_repr (pda_cons (pd_var 4) pda_nil)) (pd_callB (cd_repr hg hr.units) rfl T.b_repr PyProof.Rows.boot_repr (pda_cons (pdcC C__law_over hg hr (pda_cons (pd_var 2) (pda_cons (pd_var 3) pda_nil))) pda_nil))) (pdss_one (pds_ret pd_bl)) pdss_nil)
      (pdss_one (pds_if (pdw_t (pdw_or (pdw_t (pdw_and (pdt_cmp opd_lt pd_int (pd_ix (pd_var 4) pd_int)) (pdw_and1 (pdt_cmp opd_le (pd_bin opd_pow pd_int pd_int) (pd_ix (pd_var 4) pd_int))))) (pdw_or1 (pdt_cmp opd_le (pd_ix (pd_var 4) pd_int) (pd_un und_neg (pd_bin opd_pow pd_int pd_int)))))) (pdss_cons (pds_set (i := 7) sc__law_right.nd rfl (Or.inl rfl) (pdcC C_over_of hg hr (pda_cons (pd_var 4) pda_nil)))
      (pdss_one (pds_if (pdt_not (pdt_chainN (pd_ix (pd_var 7) pd_int) (pct_cons opd_le (pd_var 2) (pct_cons opd_le (pd_var 3) (pct_last opd_le (pd_ix (pd_var 7) pd_int)))))) (pdss_one (pds_ret pd_bl)) pdss_nil))) pdss_nil)))))))))))))
      (pdss_one (pds_ret pd_bl))), ?_⟩
  intro ds R hl h; unfold sp__law_right at h; split at h
  all_goals (try exact False.elim h)
  all_goals clear hl hg hr hk pk
  simp only [startD, List.map_cons, List.map_nil, List.length_cons, List.length_nil, List.replicate, List.cons_append, List.nil_append, Nat.reduceAdd, Nat.reduceSub, Nat.zero_add, dSeq, dIfS, dOr, dAnd, dNot, dTst, dOp, dUn, dVar, dC, dB, dBK, dCons, dNil, dTup, dLst, dRet, dRetN, dNext, dNever, dAsg, dPar, dPar3, dIf, dAndV, dOrV, dNotV, dCh, dCt, cLast, cLink, tLast, tLink, dDrop, dFor, gN, gTu, gCn, gNl, gP0, gP1, gII, gIIc, gAdd, gNeg, gIx, gEq, gNe, cI1, cI2, cLen, cMax, cMin, cAll, cAny, cRepr, cSqrt, cIsi, tyN, isNon, kb_tt, kb_ii, kb_ib, kb_bi, kb_bb, kb_it, kb_bt, kb_nt, kb_ni, kb_lt, kb_li, kb_ti, kb_si, kb_st, kb_ss, atD, ordD, dSq, dRg1, dRg2, dLc, dYes, dLcGo, wipeD, boolsOf, intsOf, maxL, minL, noL, noLs, Option.map_some, Option.bind_some, List.all_cons, List.all_nil, List.any_cons, List.any_nil, id_eq, List.set_cons_zero, List.set_cons_succ, List.getElem?_cons_zero, List.getElem?_cons_succ, List.getElem?_nil, List.getD_cons_zero, List.getD_cons_succ, decide_eq_true_eq, decide_eq_false_iff_not, Bool.not_eq_true', Bool.not_true, Bool.not_false, Bool.and_true, Bool.true_and, Bool.and_false, Bool.false_and, Bool.false_eq_true, if_true, if_false, reduceIte, ite_true, ite_false, true_and, and_true, reduceCtorEq, Int.toNat_zero, Int.toNat_one, Int.cast_ofNat_Int, Int.reduceLT, Int.reduceLE, Int.reduceNeg, Int.reduceToNat, Int.reducePow, Int.reduceMul, Int.reduceAdd, Int.reduceSub, decide_true, decide_false, sp_over_of, sp__law_over, sp__law_draw, sp_root_of, sp__law_root_right, sp__law_interval]
  refine forInv (fun _ τ => ∃ o1 o2 o3 o4 o5 o6 o7, τ = [some D.pot, o1, o2, o3, o4, o5, o6, o7]) _ _ ⟨_, _, _, _, _, _, _, rfl⟩ ?_ ?_
  · intro k i x τ hx hk hI
    obtain ⟨o1, o2, o3, o4, o5, o6, o7, rfl⟩ := hI
    have hi := (List.getElem?_eq_some_iff.mp hx).1
    rw [rng_get (by rw [rng_len] at hi; exact hi)] at hx
    cases hx
    simp only [gN, List.set_cons_zero, List.set_cons_succ]
    refine seqI (fun τ => ∃ (t : Option D) (a b : Int), τ = [some D.pot, some (D.int (0 + (i : Int))), some (D.int a), some (D.int b), t, o5, o6, o7] ∧ 0 ≤ a ∧ a ≤ b ∧ b ≤ 1180591620717411302400) (fun K hK => ?_) ?_
    · simp only [startD, List.map_cons, List.map_nil, List.length_cons, List.length_nil, List.replicate, List.cons_append, List.nil_append, Nat.reduceAdd, Nat.reduceSub, Nat.zero_add, dSeq, dIfS, dOr, dAnd, dNot, dTst, dOp, dUn, dVar, dC, dB, dBK, dCons, dNil, dTup, dLst, dRet, dRetN, dNext, dNever, dAsg, dPar, dPar3, dIf, dAndV, dOrV, dNotV, dCh, dCt, cLast, cLink, tLast, tLink, dDrop, dFor, gN, gTu, gCn, gNl, gP0, gP1, gII, gIIc, gAdd, gNeg, gIx, gEq, gNe, cI1, cI2, cLen, cMax, cMin, cAll, cAny, cRepr, cSqrt, cIsi, tyN, isNon, kb_tt, kb_ii, kb_ib, kb_bi, kb_bb, kb_it, kb_bt, kb_nt, kb_ni, kb_lt, kb_li, kb_ti, kb_si, kb_st, kb_ss, atD, ordD, dSq, dRg1, dRg2, dLc, dYes, dLcGo, wipeD, boolsOf, intsOf, maxL, minL, noL, noLs, Option.map_some, Option.bind_some, List.all_cons, List.all_nil, List.any_cons, List.any_nil, id_eq, List.set_cons_zero, List.set_cons_succ, List.getElem?_cons_zero, List.getElem?_cons_succ, List.getElem?_nil, List.getD_cons_zero, List.getD_cons_succ, decide_eq_true_eq, decide_eq_false_iff_not, Bool.not_eq_true', Bool.not_true, Bool.not_false, Bool.and_true, Bool.true_and, Bool.and_false, Bool.false_and, Bool.false_eq_true, if_true, if_false, reduceIte, ite_true, ite_false, true_and, and_true, reduceCtorEq, Int.toNat_zero, Int.toNat_one, Int.cast_ofNat_Int, Int.reduceLT, Int.reduceLE, Int.reduceNeg, Int.reduceToNat, Int.reducePow, Int.reduceMul, Int.reduceAdd, Int.reduceSub, decide_true, decide_false, sp_over_of, sp__law_over, sp__law_draw, sp_root_of, sp__law_root_right, sp__law_interval]
      intro a b a0 a1 a2
      exact hK _ ⟨_, a, b, rfl, a0, a1, a2⟩
    rintro τ ⟨t, a, b, rfl, a0, a1, a2⟩
    refine seqI (fun τ => ∃ (lo hi : Int), τ = [some D.pot, some (D.int (0 + (i : Int))), some (D.int a), some (D.int b), some (D.tup [D.int lo, D.int hi]), o5, o6, o7] ∧ 0 ≤ lo ∧ lo * lo ≤ a * 1099511627776 ∧ a * 1099511627776 < (lo + 1) * (lo + 1) ∧ 0 ≤ hi ∧ b * 1099511627776 ≤ hi * hi ∧ (hi = 0 ∨ (hi - 1) * (hi - 1) < b * 1099511627776)) (fun K hK => ?_) ?_
    · simp only [startD, List.map_cons, List.map_nil, List.length_cons, List.length_nil, List.replicate, List.cons_append, List.nil_append, Nat.reduceAdd, Nat.reduceSub, Nat.zero_add, dSeq, dIfS, dOr, dAnd, dNot, dTst, dOp, dUn, dVar, dC, dB, dBK, dCons, dNil, dTup, dLst, dRet, dRetN, dNext, dNever, dAsg, dPar, dPar3, dIf, dAndV, dOrV, dNotV, dCh, dCt, cLast, cLink, tLast, tLink, dDrop, dFor, gN, gTu, gCn, gNl, gP0, gP1, gII, gIIc, gAdd, gNeg, gIx, gEq, gNe, cI1, cI2, cLen, cMax, cMin, cAll, cAny, cRepr, cSqrt, cIsi, tyN, isNon, kb_tt, kb_ii, kb_ib, kb_bi, kb_bb, kb_it, kb_bt, kb_nt, kb_ni, kb_lt, kb_li, kb_ti, kb_si, kb_st, kb_ss, atD, ordD, dSq, dRg1, dRg2, dLc, dYes, dLcGo, wipeD, boolsOf, intsOf, maxL, minL, noL, noLs, Option.map_some, Option.bind_some, List.all_cons, List.all_nil, List.any_cons, List.any_nil, id_eq, List.set_cons_zero, List.set_cons_succ, List.getElem?_cons_zero, List.getElem?_cons_succ, List.getElem?_nil, List.getD_cons_zero, List.getD_cons_succ, decide_eq_true_eq, decide_eq_false_iff_not, Bool.not_eq_true', Bool.not_true, Bool.not_false, Bool.and_true, Bool.true_and, Bool.and_false, Bool.false_and, Bool.false_eq_true, if_true, if_false, reduceIte, ite_true, ite_false, true_and, and_true, reduceCtorEq, Int.toNat_zero, Int.toNat_one, Int.cast_ofNat_Int, Int.reduceLT, Int.reduceLE, Int.reduceNeg, Int.reduceToNat, Int.reducePow, Int.reduceMul, Int.reduceAdd, Int.reduceSub, decide_true, decide_false, sp_over_of, sp__law_over, sp__law_draw, sp_root_of, sp__law_root_right, sp__law_interval]
      split
      · refine ⟨⟨a0, a1, by omega⟩, ?_⟩
        intro lo hi p1 p2 p3 p4 p5 p6
        exact hK _ ⟨lo, hi, rfl, p1, p2, p3, p4, p5, p6⟩
      · refine ⟨⟨a0, a1, by omega⟩, ?_⟩
        intro lo hi p1 p2 p3 p4 p5 p6
        exact hK _ ⟨lo, hi, rfl, p1, p2, p3, p4, p5, p6⟩
    rintro τ ⟨lo, hi, rfl, p1, p2, p3, p4, p5, p6⟩
    refine seqI (fun τ => τ = [some D.pot, some (D.int (0 + (i : Int))), some (D.int a), some (D.int b), some (D.tup [D.int lo, D.int hi]), o5, o6, o7]) (fun K hK => ?_) ?_
    · simp only [startD, List.map_cons, List.map_nil, List.length_cons, List.length_nil, List.replicate, List.cons_append, List.nil_append, Nat.reduceAdd, Nat.reduceSub, Nat.zero_add, dSeq, dIfS, dOr, dAnd, dNot, dTst, dOp, dUn, dVar, dC, dB, dBK, dCons, dNil, dTup, dLst, dRet, dRetN, dNext, dNever, dAsg, dPar, dPar3, dIf, dAndV, dOrV, dNotV, dCh, dCt, cLast, cLink, tLast, tLink, dDrop, dFor, gN, gTu, gCn, gNl, gP0, gP1, gII, gIIc, gAdd, gNeg, gIx, gEq, gNe, cI1, cI2, cLen, cMax, cMin, cAll, cAny, cRepr, cSqrt, cIsi, tyN, isNon, kb_tt, kb_ii, kb_ib, kb_bi, kb_bb, kb_it, kb_bt, kb_nt, kb_ni, kb_lt, kb_li, kb_ti, kb_si, kb_st, kb_ss, atD, ordD, dSq, dRg1, dRg2, dLc, dYes, dLcGo, wipeD, boolsOf, intsOf, maxL, minL, noL, noLs, Option.map_some, Option.bind_some, List.all_cons, List.all_nil, List.any_cons, List.any_nil, id_eq, List.set_cons_zero, List.set_cons_succ, List.getElem?_cons_zero, List.getElem?_cons_succ, List.getElem?_nil, List.getD_cons_zero, List.getD_cons_succ, decide_eq_true_eq, decide_eq_false_iff_not, Bool.not_eq_true', Bool.not_true, Bool.not_false, Bool.and_true, Bool.true_and, Bool.and_false, Bool.false_and, Bool.false_eq_true, if_true, if_false, reduceIte, ite_true, ite_false, true_and, and_true, reduceCtorEq, Int.toNat_zero, Int.toNat_one, Int.cast_ofNat_Int, Int.reduceLT, Int.reduceLE, Int.reduceNeg, Int.reduceToNat, Int.reducePow, Int.reduceMul, Int.reduceAdd, Int.reduceSub, decide_true, decide_false, sp_over_of, sp__law_over, sp__law_draw, sp_root_of, sp__law_root_right, sp__law_interval]
      exact ⟨⟨a0, a1, by omega, p1, p2, p3, p4, p5, p6⟩, hK _ rfl⟩
    rintro τ rfl
    refine seqI (fun τ => ∃ c d : Int, τ = [some D.pot, some (D.int (0 + (i : Int))), some (D.int a), some (D.int b), some (D.tup [D.int lo, D.int hi]), some (D.tup [D.int c, D.int d]), o6, o7] ∧ a ≤ c ∧ c ≤ d ∧ d ≤ b) (fun K hK => ?_) ?_
    · simp only [startD, List.map_cons, List.map_nil, List.length_cons, List.length_nil, List.replicate, List.cons_append, List.nil_append, Nat.reduceAdd, Nat.reduceSub, Nat.zero_add, dSeq, dIfS, dOr, dAnd, dNot, dTst, dOp, dUn, dVar, dC, dB, dBK, dCons, dNil, dTup, dLst, dRet, dRetN, dNext, dNever, dAsg, dPar, dPar3, dIf, dAndV, dOrV, dNotV, dCh, dCt, cLast, cLink, tLast, tLink, dDrop, dFor, gN, gTu, gCn, gNl, gP0, gP1, gII, gIIc, gAdd, gNeg, gIx, gEq, gNe, cI1, cI2, cLen, cMax, cMin, cAll, cAny, cRepr, cSqrt, cIsi, tyN, isNon, kb_tt, kb_ii, kb_ib, kb_bi, kb_bb, kb_it, kb_bt, kb_nt, kb_ni, kb_lt, kb_li, kb_ti, kb_si, kb_st, kb_ss, atD, ordD, dSq, dRg1, dRg2, dLc, dYes, dLcGo, wipeD, boolsOf, intsOf, maxL, minL, noL, noLs, Option.map_some, Option.bind_some, List.all_cons, List.all_nil, List.any_cons, List.any_nil, id_eq, List.set_cons_zero, List.set_cons_succ, List.getElem?_cons_zero, List.getElem?_cons_succ, List.getElem?_nil, List.getD_cons_zero, List.getD_cons_succ, decide_eq_true_eq, decide_eq_false_iff_not, Bool.not_eq_true', Bool.not_true, Bool.not_false, Bool.and_true, Bool.true_and, Bool.and_false, Bool.false_and, Bool.false_eq_true, if_true, if_false, reduceIte, ite_true, ite_false, true_and, and_true, reduceCtorEq, Int.toNat_zero, Int.toNat_one, Int.cast_ofNat_Int, Int.reduceLT, Int.reduceLE, Int.reduceNeg, Int.reduceToNat, Int.reducePow, Int.reduceMul, Int.reduceAdd, Int.reduceSub, decide_true, decide_false, sp_over_of, sp__law_over, sp__law_draw, sp_root_of, sp__law_root_right, sp__law_interval]
      refine ⟨by walk_at "dl c", by walk_at "dl c", hK _ ⟨_, _, rfl, by omega, by omega, by omega⟩⟩
    rintro τ ⟨c, d, rfl, c0, c1, c2⟩
    refine seqI (fun τ => ∃ (lo2 hi2 : Int), τ = [some D.pot, some (D.int (0 + (i : Int))), some (D.int a), some (D.int b), some (D.tup [D.int lo, D.int hi]), some (D.tup [D.int c, D.int d]), some (D.tup [D.int lo2, D.int hi2]), o7] ∧ lo ≤ lo2 ∧ lo2 ≤ hi2 ∧ hi2 ≤ hi) (fun K hK => ?_) ?_
    · simp only [startD, List.map_cons, List.map_nil, List.length_cons, List.length_nil, List.replicate, List.cons_append, List.nil_append, Nat.reduceAdd, Nat.reduceSub, Nat.zero_add, dSeq, dIfS, dOr, dAnd, dNot, dTst, dOp, dUn, dVar, dC, dB, dBK, dCons, dNil, dTup, dLst, dRet, dRetN, dNext, dNever, dAsg, dPar, dPar3, dIf, dAndV, dOrV, dNotV, dCh, dCt, cLast, cLink, tLast, tLink, dDrop, dFor, gN, gTu, gCn, gNl, gP0, gP1, gII, gIIc, gAdd, gNeg, gIx, gEq, gNe, cI1, cI2, cLen, cMax, cMin, cAll, cAny, cRepr, cSqrt, cIsi, tyN, isNon, kb_tt, kb_ii, kb_ib, kb_bi, kb_bb, kb_it, kb_bt, kb_nt, kb_ni, kb_lt, kb_li, kb_ti, kb_si, kb_st, kb_ss, atD, ordD, dSq, dRg1, dRg2, dLc, dYes, dLcGo, wipeD, boolsOf, intsOf, maxL, minL, noL, noLs, Option.map_some, Option.bind_some, List.all_cons, List.all_nil, List.any_cons, List.any_nil, id_eq, List.set_cons_zero, List.set_cons_succ, List.getElem?_cons_zero, List.getElem?_cons_succ, List.getElem?_nil, List.getD_cons_zero, List.getD_cons_succ, decide_eq_true_eq, decide_eq_false_iff_not, Bool.not_eq_true', Bool.not_true, Bool.not_false, Bool.and_true, Bool.true_and, Bool.and_false, Bool.false_and, Bool.false_eq_true, if_true, if_false, reduceIte, ite_true, ite_false, true_and, and_true, reduceCtorEq, Int.toNat_zero, Int.toNat_one, Int.cast_ofNat_Int, Int.reduceLT, Int.reduceLE, Int.reduceNeg, Int.reduceToNat, Int.reducePow, Int.reduceMul, Int.reduceAdd, Int.reduceSub, decide_true, decide_false, sp_over_of, sp__law_over, sp__law_draw, sp_root_of, sp__law_root_right, sp__law_interval]
      refine ⟨⟨by omega, c1, by omega⟩, ?_⟩
      intro lo2 hi2 q1 q2 q3 q4 q5 q6
      refine hK _ ⟨lo2, hi2, rfl, ?_, of_sq_le q4 (by omega), ?_⟩
      · have : lo < lo2 + 1 := of_sq_lt (by omega) (by omega)
        omega
      · rcases q6 with e | e
        · omega
        · have : hi2 - 1 < hi := of_sq_lt p4 (by omega)
          omega
    rintro τ ⟨lo2, hi2, rfl, r1, r2, r3⟩
    refine seqI (fun τ => τ = [some D.pot, some (D.int (0 + (i : Int))), some (D.int a), some (D.int b), some (D.tup [D.int lo, D.int hi]), some (D.tup [D.int c, D.int d]), some (D.tup [D.int lo2, D.int hi2]), o7]) (fun K hK => ?_) ?_
    · simp only [startD, List.map_cons, List.map_nil, List.length_cons, List.length_nil, List.replicate, List.cons_append, List.nil_append, Nat.reduceAdd, Nat.reduceSub, Nat.zero_add, dSeq, dIfS, dOr, dAnd, dNot, dTst, dOp, dUn, dVar, dC, dB, dBK, dCons, dNil, dTup, dLst, dRet, dRetN, dNext, dNever, dAsg, dPar, dPar3, dIf, dAndV, dOrV, dNotV, dCh, dCt, cLast, cLink, tLast, tLink, dDrop, dFor, gN, gTu, gCn, gNl, gP0, gP1, gII, gIIc, gAdd, gNeg, gIx, gEq, gNe, cI1, cI2, cLen, cMax, cMin, cAll, cAny, cRepr, cSqrt, cIsi, tyN, isNon, kb_tt, kb_ii, kb_ib, kb_bi, kb_bb, kb_it, kb_bt, kb_nt, kb_ni, kb_lt, kb_li, kb_ti, kb_si, kb_st, kb_ss, atD, ordD, dSq, dRg1, dRg2, dLc, dYes, dLcGo, wipeD, boolsOf, intsOf, maxL, minL, noL, noLs, Option.map_some, Option.bind_some, List.all_cons, List.all_nil, List.any_cons, List.any_nil, id_eq, List.set_cons_zero, List.set_cons_succ, List.getElem?_cons_zero, List.getElem?_cons_succ, List.getElem?_nil, List.getD_cons_zero, List.getD_cons_succ, decide_eq_true_eq, decide_eq_false_iff_not, Bool.not_eq_true', Bool.not_true, Bool.not_false, Bool.and_true, Bool.true_and, Bool.and_false, Bool.false_and, Bool.false_eq_true, if_true, if_false, reduceIte, ite_true, ite_false, true_and, and_true, reduceCtorEq, Int.toNat_zero, Int.toNat_one, Int.cast_ofNat_Int, Int.reduceLT, Int.reduceLE, Int.reduceNeg, Int.reduceToNat, Int.reducePow, Int.reduceMul, Int.reduceAdd, Int.reduceSub, decide_true, decide_false, sp_over_of, sp__law_over, sp__law_draw, sp_root_of, sp__law_root_right, sp__law_interval]
      rw [if_pos r1, if_pos r2, if_neg (by omega)]
      exact hK _ rfl
    rintro τ rfl
    refine seqI (fun τ => τ = [some D.pot, some (D.int (0 + (i : Int))), some (D.int (a + 1024)), some (D.int (b + 1024)), some (D.tup [D.int lo, D.int hi]), some (D.tup [D.int c, D.int d]), some (D.tup [D.int lo2, D.int hi2]), o7]) (fun K hK => ?_) ?_
    · simp only [startD, List.map_cons, List.map_nil, List.length_cons, List.length_nil, List.replicate, List.cons_append, List.nil_append, Nat.reduceAdd, Nat.reduceSub, Nat.zero_add, dSeq, dIfS, dOr, dAnd, dNot, dTst, dOp, dUn, dVar, dC, dB, dBK, dCons, dNil, dTup, dLst, dRet, dRetN, dNext, dNever, dAsg, dPar, dPar3, dIf, dAndV, dOrV, dNotV, dCh, dCt, cLast, cLink, tLast, tLink, dDrop, dFor, gN, gTu, gCn, gNl, gP0, gP1, gII, gIIc, gAdd, gNeg, gIx, gEq, gNe, cI1, cI2, cLen, cMax, cMin, cAll, cAny, cRepr, cSqrt, cIsi, tyN, isNon, kb_tt, kb_ii, kb_ib, kb_bi, kb_bb, kb_it, kb_bt, kb_nt, kb_ni, kb_lt, kb_li, kb_ti, kb_si, kb_st, kb_ss, atD, ordD, dSq, dRg1, dRg2, dLc, dYes, dLcGo, wipeD, boolsOf, intsOf, maxL, minL, noL, noLs, Option.map_some, Option.bind_some, List.all_cons, List.all_nil, List.any_cons, List.any_nil, id_eq, List.set_cons_zero, List.set_cons_succ, List.getElem?_cons_zero, List.getElem?_cons_succ, List.getElem?_nil, List.getD_cons_zero, List.getD_cons_succ, decide_eq_true_eq, decide_eq_false_iff_not, Bool.not_eq_true', Bool.not_true, Bool.not_false, Bool.and_true, Bool.true_and, Bool.and_false, Bool.false_and, Bool.false_eq_true, if_true, if_false, reduceIte, ite_true, ite_false, true_and, and_true, reduceCtorEq, Int.toNat_zero, Int.toNat_one, Int.cast_ofNat_Int, Int.reduceLT, Int.reduceLE, Int.reduceNeg, Int.reduceToNat, Int.reducePow, Int.reduceMul, Int.reduceAdd, Int.reduceSub, decide_true, decide_false, sp_over_of, sp__law_over, sp__law_draw, sp_root_of, sp__law_root_right, sp__law_interval]
      exact hK _ rfl
    rintro τ rfl
    refine seqI (fun τ => ∃ m n : Int, τ = [some D.pot, some (D.int (0 + (i : Int))), some (D.int m), some (D.int n), some (D.tup [D.int lo, D.int hi]), some (D.tup [D.int c, D.int d]), some (D.tup [D.int lo2, D.int hi2]), o7] ∧ m ≤ n ∧ -1180591620717411303424 ≤ m ∧ n ≤ 1180591620717411303424 ∧ (1024 ≤ m ∨ n ≤ -1024)) (fun K hK => ?_) ?_
    · simp only [startD, List.map_cons, List.map_nil, List.length_cons, List.length_nil, List.replicate, List.cons_append, List.nil_append, Nat.reduceAdd, Nat.reduceSub, Nat.zero_add, dSeq, dIfS, dOr, dAnd, dNot, dTst, dOp, dUn, dVar, dC, dB, dBK, dCons, dNil, dTup, dLst, dRet, dRetN, dNext, dNever, dAsg, dPar, dPar3, dIf, dAndV, dOrV, dNotV, dCh, dCt, cLast, cLink, tLast, tLink, dDrop, dFor, gN, gTu, gCn, gNl, gP0, gP1, gII, gIIc, gAdd, gNeg, gIx, gEq, gNe, cI1, cI2, cLen, cMax, cMin, cAll, cAny, cRepr, cSqrt, cIsi, tyN, isNon, kb_tt, kb_ii, kb_ib, kb_bi, kb_bb, kb_it, kb_bt, kb_nt, kb_ni, kb_lt, kb_li, kb_ti, kb_si, kb_st, kb_ss, atD, ordD, dSq, dRg1, dRg2, dLc, dYes, dLcGo, wipeD, boolsOf, intsOf, maxL, minL, noL, noLs, Option.map_some, Option.bind_some, List.all_cons, List.all_nil, List.any_cons, List.any_nil, id_eq, List.set_cons_zero, List.set_cons_succ, List.getElem?_cons_zero, List.getElem?_cons_succ, List.getElem?_nil, List.getD_cons_zero, List.getD_cons_succ, decide_eq_true_eq, decide_eq_false_iff_not, Bool.not_eq_true', Bool.not_true, Bool.not_false, Bool.and_true, Bool.true_and, Bool.and_false, Bool.false_and, Bool.false_eq_true, if_true, if_false, reduceIte, ite_true, ite_false, true_and, and_true, reduceCtorEq, Int.toNat_zero, Int.toNat_one, Int.cast_ofNat_Int, Int.reduceLT, Int.reduceLE, Int.reduceNeg, Int.reduceToNat, Int.reducePow, Int.reduceMul, Int.reduceAdd, Int.reduceSub, decide_true, decide_false, sp_over_of, sp__law_over, sp__law_draw, sp_root_of, sp__law_root_right, sp__law_interval]
      intro r r0 r1'
      split
      · exact hK _ ⟨_, _, rfl, by omega, by omega, by omega, by omega⟩
      · exact hK _ ⟨_, _, rfl, by omega, by omega, by omega, by omega⟩
    rintro τ ⟨m, n, rfl, m0, m1, m2, m3⟩
    refine seqI (fun τ => ∃ u v : Int, τ = [some D.pot, some (D.int (0 + (i : Int))), some (D.int m), some (D.int n), some (D.tup [D.int u, D.int v]), some (D.tup [D.int c, D.int d]), some (D.tup [D.int lo2, D.int hi2]), o7] ∧ ((1024 ≤ m ∧ u = 1208925819614629174706176 / n ∧ v = -(-1208925819614629174706176 / m)) ∨ (n ≤ -1024 ∧ u = -1208925819614629174706176 / -n ∧ v = -(1208925819614629174706176 / -m)))) (fun K hK => ?_) ?_
    · simp only [startD, List.map_cons, List.map_nil, List.length_cons, List.length_nil, List.replicate, List.cons_append, List.nil_append, Nat.reduceAdd, Nat.reduceSub, Nat.zero_add, dSeq, dIfS, dOr, dAnd, dNot, dTst, dOp, dUn, dVar, dC, dB, dBK, dCons, dNil, dTup, dLst, dRet, dRetN, dNext, dNever, dAsg, dPar, dPar3, dIf, dAndV, dOrV, dNotV, dCh, dCt, cLast, cLink, tLast, tLink, dDrop, dFor, gN, gTu, gCn, gNl, gP0, gP1, gII, gIIc, gAdd, gNeg, gIx, gEq, gNe, cI1, cI2, cLen, cMax, cMin, cAll, cAny, cRepr, cSqrt, cIsi, tyN, isNon, kb_tt, kb_ii, kb_ib, kb_bi, kb_bb, kb_it, kb_bt, kb_nt, kb_ni, kb_lt, kb_li, kb_ti, kb_si, kb_st, kb_ss, atD, ordD, dSq, dRg1, dRg2, dLc, dYes, dLcGo, wipeD, boolsOf, intsOf, maxL, minL, noL, noLs, Option.map_some, Option.bind_some, List.all_cons, List.all_nil, List.any_cons, List.any_nil, id_eq, List.set_cons_zero, List.set_cons_succ, List.getElem?_cons_zero, List.getElem?_cons_succ, List.getElem?_nil, List.getD_cons_zero, List.getD_cons_succ, decide_eq_true_eq, decide_eq_false_iff_not, Bool.not_eq_true', Bool.not_true, Bool.not_false, Bool.and_true, Bool.true_and, Bool.and_false, Bool.false_and, Bool.false_eq_true, if_true, if_false, reduceIte, ite_true, ite_false, true_and, and_true, reduceCtorEq, Int.toNat_zero, Int.toNat_one, Int.cast_ofNat_Int, Int.reduceLT, Int.reduceLE, Int.reduceNeg, Int.reduceToNat, Int.reducePow, Int.reduceMul, Int.reduceAdd, Int.reduceSub, decide_true, decide_false, sp_over_of, sp__law_over, sp__law_draw, sp_root_of, sp__law_root_right, sp__law_interval]
      rcases m3 with m3 | m3
      · split <;> exact ⟨⟨m1, m0, m2⟩, .inl ⟨m3, hK _ ⟨_, _, rfl, .inl ⟨m3, rfl, rfl⟩⟩⟩⟩
      · split <;> exact ⟨⟨m1, m0, m2⟩, .inr ⟨m3, hK _ ⟨_, _, rfl, .inr ⟨m3, rfl, rfl⟩⟩⟩⟩
    rintro τ ⟨u, v, rfl, huv⟩
    have bnd : -1180591620717411303424 ≤ u ∧ u ≤ v ∧ v ≤ 1180591620717411303424 := by
      rcases huv with ⟨z, rfl, rfl⟩ | ⟨z, rfl, rfl⟩
      · have q1 : 0 ≤ 1208925819614629174706176 / n := Int.ediv_nonneg (by omega) (by omega)
        have q3 : -1180591620717411303424 ≤ -1208925819614629174706176 / m := Int.le_ediv_of_mul_le (by omega) (by omega)
        have q4 := div_anti (w := 1208925819614629174706176) (by omega) (show 0 < m by omega) m0
        have q5 : 1208925819614629174706176 / m ≤ -(-1208925819614629174706176 / m) := by
          have e1 := Int.ediv_mul_le 1208925819614629174706176 (show m ≠ 0 by omega)
          have e2 := Int.ediv_mul_le (-1208925819614629174706176) (show m ≠ 0 by omega)
          have e3 : (1208925819614629174706176 / m + -1208925819614629174706176 / m) * m ≤ 0 := by rw [Int.add_mul]; omega
          by_cases e : 1208925819614629174706176 / m + -1208925819614629174706176 / m ≤ 0
          · omega
          · have := Int.mul_pos (show 0 < 1208925819614629174706176 / m + -1208925819614629174706176 / m by omega) (show 0 < m by omega)
            omega
        omega
      · have q1 : 0 ≤ 1208925819614629174706176 / -m := Int.ediv_nonneg (by omega) (by omega)
        have q3 : -1180591620717411303424 ≤ -1208925819614629174706176 / -n := Int.le_ediv_of_mul_le (by omega) (by omega)
        have q4 := div_anti (w := 1208925819614629174706176) (by omega) (show 0 < -n by omega) (show -n ≤ -m by omega)
        have q5 : 1208925819614629174706176 / -n ≤ -(-1208925819614629174706176 / -n) := by
          have e1 := Int.ediv_mul_le 1208925819614629174706176 (show -n ≠ 0 by omega)
          have e2 := Int.ediv_mul_le (-1208925819614629174706176) (show -n ≠ 0 by omega)
          have e3 : (1208925819614629174706176 / -n + -1208925819614629174706176 / -n) * (-n) ≤ 0 := by rw [Int.add_mul]; omega
          by_cases e : 1208925819614629174706176 / -n + -1208925819614629174706176 / -n ≤ 0
          · omega
          · have := Int.mul_pos (show 0 < 1208925819614629174706176 / -n + -1208925819614629174706176 / -n by omega) (show 0 < -n by omega)
            omega
        omega
    have rok : okR (D.tup [D.int u, D.int v]) := by
      refine ⟨rfl, ⟨small_log (by omega) (by omega), small_log (by omega) (by omega), trivial⟩, (show 1 + (1 + 0) + 1 ≤ 5000 by omega)⟩
    refine seqI (fun τ => τ = [some D.pot, some (D.int (0 + (i : Int))), some (D.int m), some (D.int n), some (D.tup [D.int u, D.int v]), some (D.tup [D.int c, D.int d]), some (D.tup [D.int lo2, D.int hi2]), o7]) (fun K hK => ?_) ?_
    · simp only [startD, List.map_cons, List.map_nil, List.length_cons, List.length_nil, List.replicate, List.cons_append, List.nil_append, Nat.reduceAdd, Nat.reduceSub, Nat.zero_add, dSeq, dIfS, dOr, dAnd, dNot, dTst, dOp, dUn, dVar, dC, dB, dBK, dCons, dNil, dTup, dLst, dRet, dRetN, dNext, dNever, dAsg, dPar, dPar3, dIf, dAndV, dOrV, dNotV, dCh, dCt, cLast, cLink, tLast, tLink, dDrop, dFor, gN, gTu, gCn, gNl, gP0, gP1, gII, gIIc, gAdd, gNeg, gIx, gEq, gNe, cI1, cI2, cLen, cMax, cMin, cAll, cAny, cRepr, cSqrt, cIsi, tyN, isNon, kb_tt, kb_ii, kb_ib, kb_bi, kb_bb, kb_it, kb_bt, kb_nt, kb_ni, kb_lt, kb_li, kb_ti, kb_si, kb_st, kb_ss, atD, ordD, dSq, dRg1, dRg2, dLc, dYes, dLcGo, wipeD, boolsOf, intsOf, maxL, minL, noL, noLs, Option.map_some, Option.bind_some, List.all_cons, List.all_nil, List.any_cons, List.any_nil, id_eq, List.set_cons_zero, List.set_cons_succ, List.getElem?_cons_zero, List.getElem?_cons_succ, List.getElem?_nil, List.getD_cons_zero, List.getD_cons_succ, decide_eq_true_eq, decide_eq_false_iff_not, Bool.not_eq_true', Bool.not_true, Bool.not_false, Bool.and_true, Bool.true_and, Bool.and_false, Bool.false_and, Bool.false_eq_true, if_true, if_false, reduceIte, ite_true, ite_false, true_and, and_true, reduceCtorEq, Int.toNat_zero, Int.toNat_one, Int.cast_ofNat_Int, Int.reduceLT, Int.reduceLE, Int.reduceNeg, Int.reduceToNat, Int.reducePow, Int.reduceMul, Int.reduceAdd, Int.reduceSub, decide_true, decide_false, sp_over_of, sp__law_over, sp__law_draw, sp_root_of, sp__law_root_right, sp__law_interval]
      refine ⟨rok, ⟨m1, m0, m2⟩, ?_⟩
      rcases huv with ⟨z, rfl, rfl⟩ | ⟨z, rfl, rfl⟩
      · refine .inl ⟨z, rok, ?_⟩
        rw [if_neg (by simp)]
        exact hK _ rfl
      · refine .inr ⟨z, rok, ?_⟩
        rw [if_neg (by simp)]
        exact hK _ rfl
    rintro τ rfl
    have done : ∀ o : Option D, k [some D.pot, some (D.int (0 + (i : Int))), some (D.int m), some (D.int n), some (D.tup [D.int u, D.int v]), some (D.tup [D.int c, D.int d]), some (D.tup [D.int lo2, D.int hi2]), o] := fun o => hk _ ⟨_, _, _, _, _, _, _, rfl⟩
    simp only [startD, List.map_cons, List.map_nil, List.length_cons, List.length_nil, List.replicate, List.cons_append, List.nil_append, Nat.reduceAdd, Nat.reduceSub, Nat.zero_add, dSeq, dIfS, dOr, dAnd, dNot, dTst, dOp, dUn, dVar, dC, dB, dBK, dCons, dNil, dTup, dLst, dRet, dRetN, dNext, dNever, dAsg, dPar, dPar3, dIf, dAndV, dOrV, dNotV, dCh, dCt, cLast, cLink, tLast, tLink, dDrop, dFor, gN, gTu, gCn, gNl, gP0, gP1, gII, gIIc, gAdd, gNeg, gIx, gEq, gNe, cI1, cI2, cLen, cMax, cMin, cAll, cAny, cRepr, cSqrt, cIsi, tyN, isNon, kb_tt, kb_ii, kb_ib, kb_bi, kb_bb, kb_it, kb_bt, kb_nt, kb_ni, kb_lt, kb_li, kb_ti, kb_si, kb_st, kb_ss, atD, ordD, dSq, dRg1, dRg2, dLc, dYes, dLcGo, wipeD, boolsOf, intsOf, maxL, minL, noL, noLs, Option.map_some, Option.bind_some, List.all_cons, List.all_nil, List.any_cons, List.any_nil, id_eq, List.set_cons_zero, List.set_cons_succ, List.getElem?_cons_zero, List.getElem?_cons_succ, List.getElem?_nil, List.getD_cons_zero, List.getD_cons_succ, decide_eq_true_eq, decide_eq_false_iff_not, Bool.not_eq_true', Bool.not_true, Bool.not_false, Bool.and_true, Bool.true_and, Bool.and_false, Bool.false_and, Bool.false_eq_true, if_true, if_false, reduceIte, ite_true, ite_false, true_and, and_true, reduceCtorEq, Int.toNat_zero, Int.toNat_one, Int.cast_ofNat_Int, Int.reduceLT, Int.reduceLE, Int.reduceNeg, Int.reduceToNat, Int.reducePow, Int.reduceMul, Int.reduceAdd, Int.reduceSub, decide_true, decide_false, sp_over_of, sp__law_over, sp__law_draw, sp_root_of, sp__law_root_right, sp__law_interval]
    rcases huv with ⟨z, eu, ev⟩ | ⟨z, eu, ev⟩
    · have u0 : 0 ≤ u := by rw [eu]; exact Int.ediv_nonneg (by omega) (by omega)
      have un : u * n ≤ 1208925819614629174706176 := by rw [eu]; exact Int.ediv_mul_le _ (by omega)
      have vm : 1208925819614629174706176 ≤ v * m := by
        have := Int.ediv_mul_le (-1208925819614629174706176) (show m ≠ 0 by omega)
        rw [ev, Int.neg_mul]
        omega
      have v0 : 0 < v := by
        by_cases e : 0 < v
        · exact e
        · have := Int.mul_nonneg (show 0 ≤ -v by omega) (show 0 ≤ m by omega)
          rw [Int.neg_mul] at this
          omega
      by_cases h1 : 0 < u
      · rw [if_pos h1]
        by_cases h2 : 1024 ≤ u
        · rw [if_pos h2]
          refine ⟨bnd, .inl ⟨h2, ?_⟩⟩
          have a1 : 1208925819614629174706176 / v ≤ m := Int.ediv_le_of_le_mul v0 (by rw [Int.mul_comm]; exact vm)
          have a2 : n ≤ -(-1208925819614629174706176 / u) := ceil_ge h1 (by rw [Int.mul_comm]; exact un)
          rw [if_pos a1, if_pos m0, if_neg (by omega)]
          exact done _
        · rw [if_neg h2, if_neg (by omega)]
          exact done _
      · rw [if_neg h1, if_neg (by omega)]
        exact done _
    · have vm : -v * -m ≤ 1208925819614629174706176 := by rw [ev, Int.neg_neg]; exact Int.ediv_mul_le _ (by omega)
      have v0 : v ≤ 0 := by
        have : 0 ≤ 1208925819614629174706176 / -m := Int.ediv_nonneg (by omega) (by omega)
        omega
      have un : 1208925819614629174706176 ≤ -u * -n := by
        have := Int.ediv_mul_le (-1208925819614629174706176) (show -n ≠ 0 by omega)
        rw [eu, Int.neg_mul]
        omega
      have u0 : u < 0 := by
        by_cases e : u < 0
        · exact e
        · have := Int.mul_nonneg (show 0 ≤ u by omega) (show 0 ≤ -n by omega)
          rw [Int.neg_mul] at un
          omega
      rw [if_neg (by omega)]
      by_cases h2 : v ≤ -1024
      · rw [if_pos h2]
        refine ⟨bnd, .inr ⟨h2, ?_⟩⟩
        have a1 : -1208925819614629174706176 / -v ≤ m := by
          have := ceil_ge (w := 1208925819614629174706176) (n := -m) (show 0 < -v by omega) (by rw [Int.mul_comm]; exact vm)
          omega
        have a2 : 1208925819614629174706176 / -u ≤ -n := Int.ediv_le_of_le_mul (by omega) (by rw [Int.mul_comm]; exact un)
        rw [if_pos a1, if_pos m0, if_neg (by omega)]
        exact done _
      · rw [if_neg h2]
        exact done _
  · rintro τ ⟨o1, o2, o3, o4, o5, o6, o7, rfl⟩
    simp only [startD, List.map_cons, List.map_nil, List.length_cons, List.length_nil, List.replicate, List.cons_append, List.nil_append, Nat.reduceAdd, Nat.reduceSub, Nat.zero_add, dSeq, dIfS, dOr, dAnd, dNot, dTst, dOp, dUn, dVar, dC, dB, dBK, dCons, dNil, dTup, dLst, dRet, dRetN, dNext, dNever, dAsg, dPar, dPar3, dIf, dAndV, dOrV, dNotV, dCh, dCt, cLast, cLink, tLast, tLink, dDrop, dFor, gN, gTu, gCn, gNl, gP0, gP1, gII, gIIc, gAdd, gNeg, gIx, gEq, gNe, cI1, cI2, cLen, cMax, cMin, cAll, cAny, cRepr, cSqrt, cIsi, tyN, isNon, kb_tt, kb_ii, kb_ib, kb_bi, kb_bb, kb_it, kb_bt, kb_nt, kb_ni, kb_lt, kb_li, kb_ti, kb_si, kb_st, kb_ss, atD, ordD, dSq, dRg1, dRg2, dLc, dYes, dLcGo, wipeD, boolsOf, intsOf, maxL, minL, noL, noLs, Option.map_some, Option.bind_some, List.all_cons, List.all_nil, List.any_cons, List.any_nil, id_eq, List.set_cons_zero, List.set_cons_succ, List.getElem?_cons_zero, List.getElem?_cons_succ, List.getElem?_nil, List.getD_cons_zero, List.getD_cons_succ, decide_eq_true_eq, decide_eq_false_iff_not, Bool.not_eq_true', Bool.not_true, Bool.not_false, Bool.and_true, Bool.true_and, Bool.and_false, Bool.false_and, Bool.false_eq_true, if_true, if_false, reduceIte, ite_true, ite_false, true_and, and_true, reduceCtorEq, Int.toNat_zero, Int.toNat_one, Int.cast_ofNat_Int, Int.reduceLT, Int.reduceLE, Int.reduceNeg, Int.reduceToNat, Int.reducePow, Int.reduceMul, Int.reduceAdd, Int.reduceSub, decide_true, decide_false, sp_over_of, sp__law_over, sp__law_draw, sp_root_of, sp__law_root_right, sp__law_interval]
    exact h
end
section
variable {P : Program} {w : World} {K : PySem.W.Frag} {mg : Str → Option Value} {base : Heap}
def spPot (K : PySem.W.Frag) : Sp := fun vs H Q _ => ∃ (a : Addr) (ns : List Int), vs = [.ref a, .int 0] ∧ SqL K H a (ns.map V.int) ∧
  ∀ (p : Addr) (x y : Int), H p = none → 0 ≤ x → 0 ≤ y → y < 4294967296 → Q (.ref p) (upd H p (.lst [.int x, .int y]))
def spLaw (K : PySem.W.Frag) : Sp := fun vs H Q _ => ∃ (a : Addr) (ns : List Int), vs = [.ref a] ∧ SqL K H a (ns.map V.int) ∧ ∀ H', Q (.bl true) H'
theorem raw_pot {f : Addr} {fd : FuncData} (T : Txt K mg) (F : Fun K "_law_pot" "_law_pot" s__law_pot f fd) : FnG P w K mg base CX0 1 f fd ["_law_script", "_law_k"] (spPot K) := by
  refine funG F sc__law_pot (fun vs H Q E h => ?_) fun cdv A outer s H vs Q E hg hk hr h => ?_
  · obtain ⟨a, ns, rfl, _⟩ := h
    rfl
  obtain ⟨a, ns, rfl, hS, k⟩ := h
  refine ⟨_, pss_cons (ps_set (i := 2) sc__law_pot.nd rfl (Or.inl rfl) (pe_ifExp (pt_cmpR op_lt (pv 1) (pe_callB call_len_seq (by rfl) T.b_len PySem.boot_len (pa_cons (pv 0) pa_nil)) (nomark _))
      (pe_callB call_abs (by rfl) T.b_abs PyProof.Rows.boot_abs (pa_cons (pe_ix ix_list (pv 0) (pv 1) (fun _ _ => rfl)) pa_nil)) (pe_op op_add (pe_op op_mul pe_int (pv 1)) pe_int)))
    (pss_one (ps_ret (pe_lst (pa_cons (pe_callB (call_max2 rfl) (by rfl) T.b_max PyProof.Rows.boot_max (pa_cons pe_int (pa_cons (pe_op op_sub (pv 2) (pe_op op_pow pe_int pe_int)) pa_nil)))
      (pa_cons (pe_op op_add (pe_op op_mod (pe_callTy call_int1 (by rfl) T.b_int PyProof.Rows.boot_int (pa_cons (pe_op op_add (pe_op op_add (pe_op op_mul (pe_op op_mod (pe_callTy call_int1 (by rfl) T.b_int PyProof.Rows.boot_int (pa_cons (pv 2) pa_nil)) pe_int) pe_int) (pe_op op_mul pe_int (pv 1))) pe_int) pa_nil)) pe_int) pe_int) pa_nil))))), ?_⟩
  refine ⟨_, rfl, _, rfl, a, _, rfl, .inl hS, _, _, rfl, rfl, _, rfl, ?_⟩
  refine ite2 (fun h0 => ?_) (fun h0 => ?_)
  · have h1 : 0 < (ns.map V.int).length := by have := of_decide_eq_true h0; omega
    obtain ⟨n, hn⟩ : ∃ n : Int, (ns.map V.int)[0]? = some (V.int n) := by
      cases ns with
      | nil => simp at h1
      | cons n ns => exact ⟨n, rfl⟩
    refine ⟨_, rfl, _, rfl, a, _, 0, V.int n, rfl, rfl, hS, atI_nat hn, n, rfl, ?_⟩
    refine ⟨_, rfl, _, _, rfl, rfl, ⟨by decide, by decide, by decide⟩, _, _, rfl, rfl, _, _, rfl, ?_⟩
    refine ⟨_, rfl, .inl ⟨_, rfl, ?_⟩⟩
    refine ⟨_, _, rfl, rfl, (by show (0 : Int) < 2147483549; decide), _, _, rfl, rfl, .inr ⟨by decide, by decide⟩, _, rfl, _, _, rfl, rfl, .inl ⟨by decide, by decide⟩, _, _, rfl, rfl, _, _, rfl, rfl, .inl ⟨_, rfl, ?_⟩⟩
    refine ⟨_, _, rfl, rfl, (by show (0 : Int) < 2147483563; decide), _, _, rfl, rfl, (by show 2 ≤ sizeLine; decide), fun p hp => k p _ _ hp (by split <;> omega) ?_ ?_⟩
    · have := em0 (a := ((if n < 0 then -n else n) % 2147483549 * 48271 + 27952 * 0 + 941)) (n := 2147483563) (by decide)
      omega
    · have := em1 (a := ((if n < 0 then -n else n) % 2147483549 * 48271 + 27952 * 0 + 941)) (n := 2147483563) (by decide)
      omega
  · refine ⟨_, rfl, _, _, rfl, rfl, .inl ⟨by decide, by decide⟩, _, _, rfl, rfl, ?_⟩
    refine ⟨_, rfl, _, _, rfl, rfl, ⟨by decide, by decide, by decide⟩, _, _, rfl, rfl, _, _, rfl, ?_⟩
    refine ⟨_, rfl, .inl ⟨_, rfl, ?_⟩⟩
    refine ⟨_, _, rfl, rfl, (by show (0 : Int) < 2147483549; decide), _, _, rfl, rfl, .inr ⟨by decide, by decide⟩, _, rfl, _, _, rfl, rfl, .inl ⟨by decide, by decide⟩, _, _, rfl, rfl, _, _, rfl, rfl, .inl ⟨_, rfl, ?_⟩⟩
    refine ⟨_, _, rfl, rfl, (by show (0 : Int) < 2147483563; decide), _, _, rfl, rfl, (by show 2 ≤ sizeLine; decide), fun p hp => k p _ _ hp (by split <;> omega) ?_ ?_⟩
    · have := em0 (a := ((1187 * 0 + 1031) % 2147483549 * 48271 + 27952 * 0 + 941)) (n := 2147483563) (by decide)
      omega
    · have := em1 (a := ((1187 * 0 + 1031) % 2147483549 * 48271 + 27952 * 0 + 941)) (n := 2147483563) (by decide)
      omega
theorem raw_law {f : Addr} {fd : FuncData} {f1 : Addr} {fd1 : FuncData} (F : Fun K "law" "law" s_law f fd) (F1 : FnG P w K mg base CX0 1 f1 fd1 ["_law_script", "_law_k"] (spPot K)) (b1 : Binds K fd1 ["_law_script", "_law_k"] []) (m1 : mg "_law_pot" = some (.ref f1)) (k1 : PySem.W.keepIn K (.ref f1) = true)
    (C : Cal P w K mg base "_law_right" 5 1 ["_law_pot_here"] [] sp__law_right) : FnG P w K mg base CX0 (5 + 1) f fd ["_law_script"] (spLaw K) := by
  obtain ⟨f2, fd2, F2, m2, k2, b2, _⟩ := C.ex
  refine funG F sc_law (fun vs H Q E h => ?_) fun cdv A outer s H vs Q E hg hk hr h => ?_
  · obtain ⟨a, ns, rfl, _⟩ := h
    rfl
  obtain ⟨a, ns, rfl, hS, k⟩ := h
  refine ⟨_, pss_one (ps_ret (pe_callG F2 hg hr pass0 (by rfl) m2 k2 b2 (pa_cons (pe_callG F1 hg (hr.mono (by decide)) pass0 (by rfl) m1 k1 b1 (pa_cons (pv 0) (pa_cons pe_int pa_nil))) pa_nil))), ?_⟩
  refine ⟨_, rfl, a, ns, rfl, hS, fun p x y hp h0 h1 h2 => ?_⟩
  refine ⟨rfl, p, [.pot], fun d => d = .bl true, ⟨x, y, h0, h1, h2, upd_same⟩, .cons .pot .nil, rfl, fun z v H' _ i e => ?_⟩
  subst e
  cases i
  exact k H'
end

theorem kb_over_of {K : PySem.W.Frag} {f : Addr} (fd : FuncData) (F : Fun K "over_of" "over_of" s_over_of f fd) : ∀ q ∈ ([(["interval"], 0, [0])] : List (List Str × Nat × List Nat)), BindK K fd ["interval"] q.1 q.2.1 q.2.2 := by
  intro q hq
  have e := List.mem_singleton.mp hq
  subst e
  exact bindK_of F fun kV doc pm an cdv ct us ws h1 h2 => match us, ws, h1, h2 with
      | [], [w0], _, _ => ⟨[w0], rfl, rfl, rfl, fun i j e => by
        match i, e with
        | 0, e => cases e; exact ⟨rfl, by simp⟩
        | (t + 1), e => simp at e⟩
theorem kb_root_of {K : PySem.W.Frag} {f : Addr} (fd : FuncData) (F : Fun K "root_of" "root_of" s_root_of f fd) : ∀ q ∈ ([(["interval"], 0, [0])] : List (List Str × Nat × List Nat)), BindK K fd ["interval"] q.1 q.2.1 q.2.2 := by
  intro q hq
  have e := List.mem_singleton.mp hq
  subst e
  exact bindK_of F fun kV doc pm an cdv ct us ws h1 h2 => match us, ws, h1, h2 with
      | [], [w0], _, _ => ⟨[w0], rfl, rfl, rfl, fun i j e => by
        match i, e with
        | 0, e => cases e; exact ⟨rfl, by simp⟩
        | (t + 1), e => simp at e⟩
theorem all_mk {l : PySem.W.OpenLaw} {w : World} {K : PySem.W.Frag} {h : Heap} {mg : Str → Option Value} {fa : Addr} (X : K.In h) (G : h.Ns mainGlobals mg) (hfa : mg "law" = some (.ref fa))
    {f0 f1 f2 f3 f4 f5 f6 f7 f8 f9 f10 f11 f12 f13 f14 f15 : Addr} {od0 an0 od1 an1 od2 an2 od3 an3 od4 an4 od5 an5 od6 an6 od7 an7 od8 an8 od9 an9 od10 an10 od11 an11 od12 an12 od13 an13 od14 an14 od15 an15 : Option Addr} {sl0 sl1 sl2 sl3 sl4 sl5 sl6 sl7 sl8 sl9 sl10 sl11 sl12 sl13 sl14 sl15 : Array (Option Value)} {oc0 kV0 dc0 pm0 cd0 ct0 oc1 kV1 dc1 pm1 cd1 ct1 oc2 kV2 dc2 pm2 cd2 ct2 oc3 kV3 dc3 pm3 cd3 ct3 oc4 kV4 dc4 pm4 cd4 ct4 oc5 kV5 dc5 pm5 cd5 ct5 oc6 kV6 dc6 pm6 cd6 ct6 oc7 kV7 dc7 pm7 cd7 ct7 oc8 kV8 dc8 pm8 cd8 ct8 oc9 kV9 dc9 pm9 cd9 ct9 oc10 kV10 dc10 pm10 cd10 ct10 oc11 kV11 dc11 pm11 cd11 ct11 oc12 kV12 dc12 pm12 cd12 ct12 oc13 kV13 dc13 pm13 cd13 ct13 oc14 kV14 dc14 pm14 cd14 ct14 oc15 kV15 dc15 pm15 cd15 ct15 : Value}
    {t_MOST_GRAINS t_ONE : Tok}
    {a_WHOLE : Addr} {t_WHOLE u_WHOLE : Tok} {d_WHOLE : Option Addr} {m_WHOLE : Nat} {s_WHOLE : Array (Option Value)}
    (a0 : PySem.W.nsIn K mainGlobals "in_bounds" = some (some (.ref f0))) (l0 : K.lookup f0 = some ⟨oc0, od0, .func (PySem.W.fnOf "in_bounds" "in_bounds" (defArgs s_in_bounds) (defBody s_in_bounds) (defScope s_in_bounds) .none kV0 dc0 pm0 an0 cd0 ct0), sl0⟩) (c0 : PySem.W.codeIn K cd0 "in_bounds" = true) (k0 : PySem.W.keepIn K (.ref f0) = true)
    (a1 : PySem.W.nsIn K mainGlobals "is_integer" = some (some (.ref f1))) (l1 : K.lookup f1 = some ⟨oc1, od1, .func (PySem.W.fnOf "is_integer" "is_integer" (defArgs s_is_integer) (defBody s_is_integer) (defScope s_is_integer) .none kV1 dc1 pm1 an1 cd1 ct1), sl1⟩) (c1 : PySem.W.codeIn K cd1 "is_integer" = true) (k1 : PySem.W.keepIn K (.ref f1) = true)
    (a2 : PySem.W.nsIn K mainGlobals "_law_draw" = some (some (.ref f2))) (l2 : K.lookup f2 = some ⟨oc2, od2, .func (PySem.W.fnOf "_law_draw" "_law_draw" (defArgs s__law_draw) (defBody s__law_draw) (defScope s__law_draw) .none kV2 dc2 pm2 an2 cd2 ct2), sl2⟩) (c2 : PySem.W.codeIn K cd2 "_law_draw" = true) (k2 : PySem.W.keepIn K (.ref f2) = true)
    (a3 : PySem.W.nsIn K mainGlobals "grain_over" = some (some (.ref f3))) (l3 : K.lookup f3 = some ⟨oc3, od3, .func (PySem.W.fnOf "grain_over" "grain_over" (defArgs s_grain_over) (defBody s_grain_over) (defScope s_grain_over) .none kV3 dc3 pm3 an3 cd3 ct3), sl3⟩) (c3 : PySem.W.codeIn K cd3 "grain_over" = true) (k3 : PySem.W.keepIn K (.ref f3) = true)
    (a4 : PySem.W.nsIn K mainGlobals "is_interval" = some (some (.ref f4))) (l4 : K.lookup f4 = some ⟨oc4, od4, .func (PySem.W.fnOf "is_interval" "is_interval" (defArgs s_is_interval) (defBody s_is_interval) (defScope s_is_interval) .none kV4 dc4 pm4 an4 cd4 ct4), sl4⟩) (c4 : PySem.W.codeIn K cd4 "is_interval" = true) (k4 : PySem.W.keepIn K (.ref f4) = true)
    (a5 : PySem.W.nsIn K mainGlobals "check_interval" = some (some (.ref f5))) (l5 : K.lookup f5 = some ⟨oc5, od5, .func (PySem.W.fnOf "check_interval" "check_interval" (defArgs s_check_interval) (defBody s_check_interval) (defScope s_check_interval) .none kV5 dc5 pm5 an5 cd5 ct5), sl5⟩) (c5 : PySem.W.codeIn K cd5 "check_interval" = true) (k5 : PySem.W.keepIn K (.ref f5) = true)
    (a6 : PySem.W.nsIn K mainGlobals "_root_above" = some (some (.ref f6))) (l6 : K.lookup f6 = some ⟨oc6, od6, .func (PySem.W.fnOf "_root_above" "_root_above" (defArgs s__root_above) (defBody s__root_above) (defScope s__root_above) .none kV6 dc6 pm6 an6 cd6 ct6), sl6⟩) (c6 : PySem.W.codeIn K cd6 "_root_above" = true) (k6 : PySem.W.keepIn K (.ref f6) = true)
    (a7 : PySem.W.nsIn K mainGlobals "root_of" = some (some (.ref f7))) (l7 : K.lookup f7 = some ⟨oc7, od7, .func (PySem.W.fnOf "root_of" "root_of" (defArgs s_root_of) (defBody s_root_of) (defScope s_root_of) .none kV7 dc7 pm7 an7 cd7 ct7), sl7⟩) (c7 : PySem.W.codeIn K cd7 "root_of" = true) (k7 : PySem.W.keepIn K (.ref f7) = true)
    (a8 : PySem.W.nsIn K mainGlobals "over_of" = some (some (.ref f8))) (l8 : K.lookup f8 = some ⟨oc8, od8, .func (PySem.W.fnOf "over_of" "over_of" (defArgs s_over_of) (defBody s_over_of) (defScope s_over_of) .none kV8 dc8 pm8 an8 cd8 ct8), sl8⟩) (c8 : PySem.W.codeIn K cd8 "over_of" = true) (k8 : PySem.W.keepIn K (.ref f8) = true)
    (a9 : PySem.W.nsIn K mainGlobals "_law_root_right" = some (some (.ref f9))) (l9 : K.lookup f9 = some ⟨oc9, od9, .func (PySem.W.fnOf "_law_root_right" "_law_root_right" (defArgs s__law_root_right) (defBody s__law_root_right) (defScope s__law_root_right) .none kV9 dc9 pm9 an9 cd9 ct9), sl9⟩) (c9 : PySem.W.codeIn K cd9 "_law_root_right" = true) (k9 : PySem.W.keepIn K (.ref f9) = true)
    (a10 : PySem.W.nsIn K mainGlobals "_law_over" = some (some (.ref f10))) (l10 : K.lookup f10 = some ⟨oc10, od10, .func (PySem.W.fnOf "_law_over" "_law_over" (defArgs s__law_over) (defBody s__law_over) (defScope s__law_over) .none kV10 dc10 pm10 an10 cd10 ct10), sl10⟩) (c10 : PySem.W.codeIn K cd10 "_law_over" = true) (k10 : PySem.W.keepIn K (.ref f10) = true)
    (a11 : PySem.W.nsIn K mainGlobals "_law_number" = some (some (.ref f11))) (l11 : K.lookup f11 = some ⟨oc11, od11, .func (PySem.W.fnOf "_law_number" "_law_number" (defArgs s__law_number) (defBody s__law_number) (defScope s__law_number) .none kV11 dc11 pm11 an11 cd11 ct11), sl11⟩) (c11 : PySem.W.codeIn K cd11 "_law_number" = true) (k11 : PySem.W.keepIn K (.ref f11) = true)
    (a12 : PySem.W.nsIn K mainGlobals "_law_interval" = some (some (.ref f12))) (l12 : K.lookup f12 = some ⟨oc12, od12, .func (PySem.W.fnOf "_law_interval" "_law_interval" (defArgs s__law_interval) (defBody s__law_interval) (defScope s__law_interval) .none kV12 dc12 pm12 an12 cd12 ct12), sl12⟩) (c12 : PySem.W.codeIn K cd12 "_law_interval" = true) (k12 : PySem.W.keepIn K (.ref f12) = true)
    (a13 : PySem.W.nsIn K mainGlobals "_law_right" = some (some (.ref f13))) (l13 : K.lookup f13 = some ⟨oc13, od13, .func (PySem.W.fnOf "_law_right" "_law_right" (defArgs s__law_right) (defBody s__law_right) (defScope s__law_right) .none kV13 dc13 pm13 an13 cd13 ct13), sl13⟩) (c13 : PySem.W.codeIn K cd13 "_law_right" = true) (k13 : PySem.W.keepIn K (.ref f13) = true)
    (a14 : PySem.W.nsIn K mainGlobals "_law_pot" = some (some (.ref f14))) (l14 : K.lookup f14 = some ⟨oc14, od14, .func (PySem.W.fnOf "_law_pot" "_law_pot" (defArgs s__law_pot) (defBody s__law_pot) (defScope s__law_pot) .none kV14 dc14 pm14 an14 cd14 ct14), sl14⟩) (c14 : PySem.W.codeIn K cd14 "_law_pot" = true) (k14 : PySem.W.keepIn K (.ref f14) = true)
    (a15 : PySem.W.nsIn K mainGlobals "law" = some (some (.ref f15))) (l15 : K.lookup f15 = some ⟨oc15, od15, .func (PySem.W.fnOf "law" "law" (defArgs s_law) (defBody s_law) (defScope s_law) .none kV15 dc15 pm15 an15 cd15 ct15), sl15⟩) (c15 : PySem.W.codeIn K cd15 "law" = true) (k15 : PySem.W.keepIn K (.ref f15) = true)
    (z_abs : PySem.W.nsIn K mainGlobals "abs" = some none)
    (z_all : PySem.W.nsIn K mainGlobals "all" = some none)
    (z_bool : PySem.W.nsIn K mainGlobals "bool" = some none)
    (z_divmod : PySem.W.nsIn K mainGlobals "divmod" = some none)
    (z_int : PySem.W.nsIn K mainGlobals "int" = some none)
    (z_isinstance : PySem.W.nsIn K mainGlobals "isinstance" = some none)
    (z_len : PySem.W.nsIn K mainGlobals "len" = some none)
    (z_max : PySem.W.nsIn K mainGlobals "max" = some none)
    (z_min : PySem.W.nsIn K mainGlobals "min" = some none)
    (z_range : PySem.W.nsIn K mainGlobals "range" = some none)
    (z_repr : PySem.W.nsIn K mainGlobals "repr" = some none)
    (z_tuple : PySem.W.nsIn K mainGlobals "tuple" = some none)
    (n_isqrt : PySem.W.nsIn K mainGlobals "isqrt" = some (some (.builtin "math.isqrt")))
    (n_MOST_GRAINS : PySem.W.nsIn K mainGlobals "MOST_GRAINS" = some (some (.int 1180591620717411303424 t_MOST_GRAINS)))
    (n_ONE : PySem.W.nsIn K mainGlobals "ONE" = some (some (.int 1099511627776 t_ONE)))
    (n_WHOLE : PySem.W.nsIn K mainGlobals "WHOLE" = some (some (.ref a_WHOLE))) (q_WHOLE : K.lookup a_WHOLE = some ⟨.type "tuple", d_WHOLE, .seq #[.int 1099511627776 t_WHOLE, .int 1099511627776 u_WHOLE] m_WHOLE, s_WHOLE⟩)
    : ∃ fd : FuncData, (∀ (s : Shared) (v : Value), BindsTo s fd ⟨[v], []⟩ [("_law_script", v)]) ∧ ∀ base : Heap, K.In base → base.Ns mainGlobals mg → FnG l.prog w K mg base CX0 6 fa fd ["_law_script"] (spLaw K) := by
  have e := hfa.symm.trans (PySem.W.mg_of X G a15)
  cases e
  have T : Txt K mg := { b_abs := PySem.W.mg_none_of X G z_abs, b_all := PySem.W.mg_none_of X G z_all, b_bool := PySem.W.mg_none_of X G z_bool, b_divmod := PySem.W.mg_none_of X G z_divmod, b_int := PySem.W.mg_none_of X G z_int, b_isinstance := PySem.W.mg_none_of X G z_isinstance, b_len := PySem.W.mg_none_of X G z_len, b_max := PySem.W.mg_none_of X G z_max, b_min := PySem.W.mg_none_of X G z_min, b_range := PySem.W.mg_none_of X G z_range, b_repr := PySem.W.mg_none_of X G z_repr, b_tuple := PySem.W.mg_none_of X G z_tuple, t_MOST_GRAINS := t_MOST_GRAINS, m_MOST_GRAINS := PySem.W.mg_of X G n_MOST_GRAINS, t_ONE := t_ONE, m_ONE := PySem.W.mg_of X G n_ONE, a_WHOLE := a_WHOLE, o_WHOLE := _, m_WHOLE := PySem.W.mg_of X G n_WHOLE, l_WHOLE := q_WHOLE, k_WHOLE := ktup2 q_WHOLE, m_isqrt := PySem.W.mg_of X G n_isqrt }
  have D_in_bounds : Dfn K mg "in_bounds" "in_bounds" s_in_bounds ["low", "high"] [] := dfn_of X G a0 l0 c0 k0 (fun _ _ _ _ _ _ us hl => match us, hl with | [_, _], _ => rfl) (fun _ _ q hq => absurd hq List.not_mem_nil)
  have D_is_integer : Dfn K mg "is_integer" "is_integer" s_is_integer ["value"] [] := dfn_of X G a1 l1 c1 k1 (fun _ _ _ _ _ _ us hl => match us, hl with | [_], _ => rfl) (fun _ _ q hq => absurd hq List.not_mem_nil)
  have D__law_draw : Dfn K mg "_law_draw" "_law_draw" s__law_draw ["_law_pot_here", "_law_many"] [] := dfn_of X G a2 l2 c2 k2 (fun _ _ _ _ _ _ us hl => match us, hl with | [_, _], _ => rfl) (fun _ _ q hq => absurd hq List.not_mem_nil)
  have D_grain_over : Dfn K mg "grain_over" "grain_over" s_grain_over ["one", "other"] [] := dfn_of X G a3 l3 c3 k3 (fun _ _ _ _ _ _ us hl => match us, hl with | [_, _], _ => rfl) (fun _ _ q hq => absurd hq List.not_mem_nil)
  have D_is_interval : Dfn K mg "is_interval" "is_interval" s_is_interval ["value"] [] := dfn_of X G a4 l4 c4 k4 (fun _ _ _ _ _ _ us hl => match us, hl with | [_], _ => rfl) (fun _ _ q hq => absurd hq List.not_mem_nil)
  have D_check_interval : Dfn K mg "check_interval" "check_interval" s_check_interval ["interval"] [] := dfn_of X G a5 l5 c5 k5 (fun _ _ _ _ _ _ us hl => match us, hl with | [_], _ => rfl) (fun _ _ q hq => absurd hq List.not_mem_nil)
  have D__root_above : Dfn K mg "_root_above" "_root_above" s__root_above ["number"] [] := dfn_of X G a6 l6 c6 k6 (fun _ _ _ _ _ _ us hl => match us, hl with | [_], _ => rfl) (fun _ _ q hq => absurd hq List.not_mem_nil)
  have D_root_of : Dfn K mg "root_of" "root_of" s_root_of ["interval"] [(["interval"], 0, [0])] := dfn_of X G a7 l7 c7 k7 (fun _ _ _ _ _ _ us hl => match us, hl with | [_], _ => rfl) (kb_root_of)
  have D_over_of : Dfn K mg "over_of" "over_of" s_over_of ["interval"] [(["interval"], 0, [0])] := dfn_of X G a8 l8 c8 k8 (fun _ _ _ _ _ _ us hl => match us, hl with | [_], _ => rfl) (kb_over_of)
  have D__law_root_right : Dfn K mg "_law_root_right" "_law_root_right" s__law_root_right ["_law_told", "_law_low", "_law_high"] [] := dfn_of X G a9 l9 c9 k9 (fun _ _ _ _ _ _ us hl => match us, hl with | [_, _, _], _ => rfl) (fun _ _ q hq => absurd hq List.not_mem_nil)
  have D__law_over : Dfn K mg "_law_over" "_law_over" s__law_over ["_law_low", "_law_high"] [] := dfn_of X G a10 l10 c10 k10 (fun _ _ _ _ _ _ us hl => match us, hl with | [_, _], _ => rfl) (fun _ _ q hq => absurd hq List.not_mem_nil)
  have D__law_number : Dfn K mg "_law_number" "_law_number" s__law_number ["_law_pot_here"] [] := dfn_of X G a11 l11 c11 k11 (fun _ _ _ _ _ _ us hl => match us, hl with | [_], _ => rfl) (fun _ _ q hq => absurd hq List.not_mem_nil)
  have D__law_interval : Dfn K mg "_law_interval" "_law_interval" s__law_interval ["_law_pot_here"] [] := dfn_of X G a12 l12 c12 k12 (fun _ _ _ _ _ _ us hl => match us, hl with | [_], _ => rfl) (fun _ _ q hq => absurd hq List.not_mem_nil)
  have D__law_right : Dfn K mg "_law_right" "_law_right" s__law_right ["_law_pot_here"] [] := dfn_of X G a13 l13 c13 k13 (fun _ _ _ _ _ _ us hl => match us, hl with | [_], _ => rfl) (fun _ _ q hq => absurd hq List.not_mem_nil)
  have F14 := fun_mk (st := s__law_pot) l14 c14 k14
  have b14 := F14.binds (ps := ["_law_script", "_law_k"]) fun _ _ _ _ _ _ us hl => match us, hl with | [_, _], _ => rfl
  refine ⟨PySem.W.fnOf "law" "law" (defArgs s_law) (defBody s_law) (defScope s_law) .none kV15 dc15 pm15 an15 cd15 ct15, fun s v => .of_eq rfl, fun base _ _ => ?_⟩
  have C_in_bounds := ok_in_bounds (P := l.prog) (w := w) (base := base) T D_in_bounds
  have C_is_integer := ok_is_integer (P := l.prog) (w := w) (base := base) T D_is_integer
  have C__law_draw := ok__law_draw (P := l.prog) (w := w) (base := base) T D__law_draw
  have C_grain_overpos := ok_grain_overpos (P := l.prog) (w := w) (base := base) T D_grain_over C_in_bounds
  have C_grain_over := ok_grain_over (P := l.prog) (w := w) (base := base) T D_grain_over C_in_bounds C_grain_overpos
  have C_is_interval := ok_is_interval (P := l.prog) (w := w) (base := base) T D_is_interval C_is_integer
  have C_check_interval := ok_check_interval (P := l.prog) (w := w) (base := base) T D_check_interval C_is_interval
  have C__root_above := ok__root_above (P := l.prog) (w := w) (base := base) T D__root_above
  have C_root_of := ok_root_of (P := l.prog) (w := w) (base := base) T D_root_of C_in_bounds C__root_above C_check_interval
  have C_over_of := ok_over_of (P := l.prog) (w := w) (base := base) T D_over_of C_grain_over C_check_interval
  have C__law_root_right := ok__law_root_right (P := l.prog) (w := w) (base := base) T D__law_root_right
  have C__law_over := ok__law_over (P := l.prog) (w := w) (base := base) T D__law_over
  have C__law_number := ok__law_number (P := l.prog) (w := w) (base := base) T D__law_number C__law_draw
  have C__law_interval := ok__law_interval (P := l.prog) (w := w) (base := base) T D__law_interval C__law_draw C__law_number
  have C__law_right := ok__law_right (P := l.prog) (w := w) (base := base) T D__law_right C_over_of C__law_over C__law_draw C_root_of C__law_root_right C__law_interval
  exact raw_law (fun_mk (st := s_law) l15 c15 k15) (raw_pot T F14) b14 (PySem.W.mg_of X G a14) k14 C__law_right
theorem walk {l : PySem.W.OpenLaw} {q : Program} {loose : List Str} {XP : (Str → Option Value) → Heap → Prop} {YP : World → Heap → Prop} {d : DefRec} {K : Params → PySem.W.Frag} (hn : l.most = some 63) (hdf : d.params.defaults = [])
    (hY : ∀ (w : World) (h : Heap), YP w h → (K w.params).In h)
    (F : ∀ (w : World) (mg : Str → Option Value) (fa : Addr) (h : Heap), (K w.params).In h → h.Ns mainGlobals mg → mg d.name = some (.ref fa) →
      ∃ fd : FuncData, (∀ (s : Shared) (u : Value), BindsTo s fd ⟨[u], []⟩ [("_law_script", u)]) ∧ ∀ base : Heap, (K w.params).In base → base.Ns mainGlobals mg → FnG l.prog w (K w.params) mg base CX0 6 fa fd ["_law_script"] (spLaw (K w.params))) :
    PySem.W.WalkO q loose XP YP l.row.toRowW d [] (fun f vs => PySem.call f vs) :=
  walkG (n := 63) hn (by decide) hdf ⟨rfl, by decide, by decide⟩ hY F fun K H a ns hl _ hS => ⟨a, ns, rfl, hS, fun _ => rfl⟩
end LW
open PySem PySem.W PyProof.Rows in
set_option maxRecDepth 100000 in
set_option maxHeartbeats 0 in
theorem PySem.Challenge.cw_truecourse_k34_whole_roots_and_quotients_holds : PySem.Challenge.rw_truecourse_k34_whole_roots_and_quotients.Holds := by
  w_on; o_law; k_head; (case hw => w_witness2)
  k_fill
  refine LW.walk (l := PySem.Challenge.rw_truecourse_k34_whole_roots_and_quotients) rfl rfl (fun w h Y => PySem.W.kIn_of Y) ?F
  case F =>
    intro w mg fa h KX G hmg
    refine' LW.all_mk KX G hmg ?a0 ?l0 ?c0 ?k0 ?a1 ?l1 ?c1 ?k1 ?a2 ?l2 ?c2 ?k2 ?a3 ?l3 ?c3 ?k3 ?a4 ?l4 ?c4 ?k4 ?a5 ?l5 ?c5 ?k5 ?a6 ?l6 ?c6 ?k6 ?a7 ?l7 ?c7 ?k7 ?a8 ?l8 ?c8 ?k8 ?a9 ?l9 ?c9 ?k9 ?a10 ?l10 ?c10 ?k10 ?a11 ?l11 ?c11 ?k11 ?a12 ?l12 ?c12 ?k12 ?a13 ?l13 ?c13 ?k13 ?a14 ?l14 ?c14 ?k14 ?a15 ?l15 ?c15 ?k15 ?z_abs ?z_all ?z_bool ?z_divmod ?z_int ?z_isinstance ?z_len ?z_max ?z_min ?z_range ?z_repr ?z_tuple ?n_isqrt ?n_MOST_GRAINS ?n_ONE ?n_WHOLE ?q_WHOLE
    (case a0 => k_is)
    (case l0 => k_is)
    (case c0 => k_is)
    (case k0 => k_is)
    (case a1 => k_is)
    (case l1 => k_is)
    (case c1 => k_is)
    (case k1 => k_is)
    (case a2 => k_is)
    (case l2 => k_is)
    (case c2 => k_is)
    (case k2 => k_is)
    (case a3 => k_is)
    (case l3 => k_is)
    (case c3 => k_is)
    (case k3 => k_is)
    (case a4 => k_is)
    (case l4 => k_is)
    (case c4 => k_is)
    (case k4 => k_is)
    (case a5 => k_is)
    (case l5 => k_is)
    (case c5 => k_is)
    (case k5 => k_is)
    (case a6 => k_is)
    (case l6 => k_is)
    (case c6 => k_is)
    (case k6 => k_is)
    (case a7 => k_is)
    (case l7 => k_is)
    (case c7 => k_is)
    (case k7 => k_is)
    (case a8 => k_is)
    (case l8 => k_is)
    (case c8 => k_is)
    (case k8 => k_is)
    (case a9 => k_is)
    (case l9 => k_is)
    (case c9 => k_is)
    (case k9 => k_is)
    (case a10 => k_is)
    (case l10 => k_is)
    (case c10 => k_is)
    (case k10 => k_is)
    (case a11 => k_is)
    (case l11 => k_is)
    (case c11 => k_is)
    (case k11 => k_is)
    (case a12 => k_is)
    (case l12 => k_is)
    (case c12 => k_is)
    (case k12 => k_is)
    (case a13 => k_is)
    (case l13 => k_is)
    (case c13 => k_is)
    (case k13 => k_is)
    (case a14 => k_is)
    (case l14 => k_is)
    (case c14 => k_is)
    (case k14 => k_is)
    (case a15 => k_is)
    (case l15 => k_is)
    (case c15 => k_is)
    (case k15 => k_is)
    (case z_abs => k_is)
    (case z_all => k_is)
    (case z_bool => k_is)
    (case z_divmod => k_is)
    (case z_int => k_is)
    (case z_isinstance => k_is)
    (case z_len => k_is)
    (case z_max => k_is)
    (case z_min => k_is)
    (case z_range => k_is)
    (case z_repr => k_is)
    (case z_tuple => k_is)
    (case n_isqrt => k_is)
    (case n_MOST_GRAINS => k_is)
    (case n_ONE => k_is)
    (case n_WHOLE => k_is)
    (case q_WHOLE => k_is)
