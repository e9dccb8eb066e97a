import PyProof.Rows.All
import Wide.All
import OpenK.AllK
import Wide.FinOn
import HandS.ForMost
import HandS.AnyAll
import HandS.GenList
import HandS.Wide
import HandS.WideBits
import HandS.IsInst
import HandS.Gcd
import HandS.TupAny
import HandS.Zip
import HandS.RaiseMore
import PyProof.ReprRoads
import Flt.RightSqrt
import HandS.Style
import KE.KMathG
import PyProof.ReprText
import HandS.Deep
import HandS.EndBits
import KE.KNestM
import KE.DatumOrd
import HandS.CallLocal
import KE.GoesEnum
import KE.GoesNew
import HandS.TupMul
import PySem.Challenge.RW_truecourse_k14_whole_boxes
set_option Elab.async false
set_option linter.all false
set_option maxRecDepth 100000
set_option autoImplicit false
/-! all and any of a generator expression, whatever its element does. -/
namespace GA
open PySem PySem.Spec PyProof.Rows L2 GxR

/-- a generator expression's scope: its own names (with their places), or captured ones -/
structure GxOk (N : List Str) (sc scope : Scope) (own : List (Str × Nat)) : Prop where
  blk : BlkOk N sc scope own
  co : scope.isCoroutine = false
  cell : ∀ y ∈ scope.names, y.2 ≠ .cell
  dot : scope.names.lookup (".0" : Str) = some NameKind.local
def gxC (N : List Str) (sc scope : Scope) (own : List (Str × Nat)) : Bool :=
  blkC N sc scope own && (!scope.isCoroutine) && (scope.names.all fun y => match y.2 with | .cell => false | _ => true) && (match scope.names.lookup (".0" : Str) with | some .local => true | _ => false)
theorem gxOk_by {N : List Str} {sc scope : Scope} {own : List (Str × Nat)} (h : gxC N sc scope own = true) : GxOk N sc scope own := by
  unfold gxC at h
  simp only [Bool.and_eq_true] at h
  obtain ⟨⟨⟨h1, h2⟩, h3⟩, h4⟩ := h
  refine ⟨blkOk_by h1, by simpa using h2, fun y hy e => ?_, ?_⟩
  · have := List.all_eq_true.mp h3 y hy
    rw [e] at this
    exact nomatch this
  · split at h4
    · assumption
    · exact nomatch h4

/-- the context of the generator's code -/
abbrev gx (X : Cx) (s : Shared) (H : Hp) (ge : Env) (fp : List Addr) : Cx :=
  { X with A := X.A.in1.in1.deeper ge, s_0 := s, H_0 := H, env := ge, outer := X.stack, stack := ge :: X.stack, ex := fp, fn := fun _ => false, calm := true, pn := [], xe := fun _ _ => False }
section
variable {X : Cx} {pins : List (Addr × Obj)} {σ : L2.St} {H : Hp} {s : Shared}
theorem gx_start {scope : Scope} {own : List (Str × Nat)} {fp : List Addr} {code it : Value} {h' : Heap} {g' : Array GenState} {t' : Nat} {go : Obj} (I : Inv X pins σ H s) (hc : X.calm = true) (ok : GxOk X.N X.env.scope scope own) (hN : X.N.Nodup)
    (hfp : ∀ b ∈ fp, FpOk X pins H b ∧ b < s.heap.objs.size) (hn : h'.Ns s.heap.objs.size (fun y => if y = ".0" then some it else none)) (sb : Heap.SameBut s.heap.objs.size (s.heap.push { cls := .type "frame", data := .dict #[] }) h') (hg : AllBare g') (hgo : ∀ v, go.data ≠ .cell v) (hgf : go.isFreed = false) (hh : h'.objs.size = s.heap.objs.size + 1) :
    Inv (gx X s H (genEnv scope (cloFrom X.env.cells scope.names []) s.heap.objs.size code builtinsNs X.env) fp) [(h'.objs.size, go)] (wipe σ (own.map (·.2))) H { s with gens := g', toks := t', heap := h'.push go } := by
  have hfree : ∀ y ∈ scope.names, y.2 = .free → ∃ c, X.env.cells.lookup y.1 = some c := fun y hy e => by
    rcases ok.blk.free y hy e with k | k
    · exact I.ok.has _ (.inl k)
    · exact I.ok.has _ (.inr k)
  have kp1 : ∀ b o, s.heap.get? b = some o → h'.get? b = some o := fun b o e => sb.extBut b o (Nat.ne_of_lt (Heap.lt_size e)) (Heap.get?_push_of_some _ e)
  have kp : ∀ b o, s.heap.get? b = some o → (h'.push go).get? b = some o := fun b o e => Heap.get?_push_of_some _ (kp1 b o e)
  have cm : ∀ {y c}, (y, c) ∈ cloFrom X.env.cells scope.names [] → X.env.cells.lookup y = some c ∧ c < s.heap.objs.size := fun {y c} hm => by
    rcases cloFrom_mem hm with hm | ⟨h1, rfl⟩
    · cases hm
    · obtain ⟨c, hc⟩ := hfree _ h1 rfl
      rw [hc]
      obtain ⟨w, z⟩ := I.cell _ _ hc
      exact ⟨rfl, z.lt⟩
  have mem : ∀ {y c}, (cloFrom X.env.cells scope.names []).lookup y = some c → X.env.cells.lookup y = some c ∧ c < s.heap.objs.size := fun e => cm (PySem.mem_of_lookup e)
  have look : ∀ {y}, scope.names.lookup y = some .free → ∃ c, (cloFrom X.env.cells scope.names []).lookup y = some c ∧ X.env.cells.lookup y = some c := fun {y} hl => by
    obtain ⟨c', e'⟩ := mem_lookup (cloFrom_has (cells := X.env.cells) (acc := []) (PySem.mem_of_lookup hl))
    exact ⟨c', e', (mem e').1⟩
  generalize hcl : cloFrom X.env.cells scope.names [] = cl at mem look
  have okB : (gx X s H (genEnv scope cl s.heap.objs.size code builtinsNs X.env) fp).Ok := by
    refine ⟨I.ok.mod, ok.blk.kind, I.ok.glob, rfl, Nat.le_refl _, fun y z c e1 e2 => I.ok.inj y z c (mem e1).1 (mem e2).1, fun y hy => ?_, fun y c z => (Bool.false_ne_true z).elim, fun _ => I.ok.hd hc, ?_, .inr ⟨rfl, rfl⟩, fun b hb => ⟨?_, fun y c e z => ?_⟩, I.bs, Nat.le_trans I.ok.bsz I.sz, fun b o e hb => ?_, fun b hb z => ?_, I.stack, I.stkFree⟩
    · rcases hy with hy | hy
      · exact absurd rfl (ok.cell _ (PySem.mem_of_lookup hy))
      · obtain ⟨c, h1, _⟩ := look hy
        exact ⟨c, h1⟩
    · show Option.map _ X.A.frames = _
      rw [I.ok.frames]
      rfl
    · exact Nat.ne_of_lt (hfp b hb).2
    · exact (hfp b hb).1.2.2.2.2.1 y c (mem e).1 z
    · rcases (hfp b hb).1.2.2.2.1 with z | z
      · exact I.ok.noex b o e z
      · exact absurd (Nat.lt_of_lt_of_le (Heap.lt_size e) (Nat.le_trans I.ok.bsz z)) (Nat.lt_irrefl _)
    · rcases List.mem_cons.mp (I.stkSub b z) with z | z
      · exact (hfp b hb).1.2.1 z
      · exact (hfp b hb).1.2.2.1 z
  refine ⟨okB, rfl, hg, Un.kept kp, ⟨_, hn.push _, fun i y av e1 e2 e3 => ?_⟩, fun y c e => ?_, I.hok.fresh (Nat.le_refl _), fun y c e => I.freeC y c (mem e).1, fun p hp => ?_, I.hok.kept kp, by rw [wipe_length]; exact I.len⟩
  · obtain ⟨e2, hne⟩ := wipe_some e2
    have own_no : ∀ k, scope.names.lookup y = some k → k = .local ∨ k = .cell → False := fun k e hh => by
      rcases ok.blk.own _ (PySem.mem_of_lookup e) hh with e' | e'
      · obtain ⟨p, hp, hpy⟩ := List.mem_map.mp e'
        have e3 := ok.blk.ix p hp
        have : p.1 = y := hpy
        rw [this] at e3
        exact hne (List.mem_map.mpr ⟨p, hp, nodup_ix hN e3 e1⟩)
      · exact e' (List.mem_of_getElem? e1)
    have hl : scope.names.lookup y = some .free := by
      rcases e3 with e3 | e3 | e3
      · exact (own_no _ e3 (.inl rfl)).elim
      · exact (own_no _ e3 (.inr rfl)).elim
      · exact e3
    obtain ⟨m, hn, hlk⟩ := I.loc
    have hvis : Vis X.env.scope y := (ok.blk.free _ (PySem.mem_of_lookup hl) rfl).elim (fun k => .inr (.inl k)) (fun k => .inr (.inr k))
    obtain ⟨w, r, q⟩ := hlk i y av e1 e2 hvis
    refine ⟨w, r, .inr ⟨.inr hl, ?_⟩⟩
    obtain ⟨c, h1, h2⟩ := look hl
    rcases q with ⟨k, _⟩ | ⟨_, c', e', z⟩
    · have k : X.env.scope.names.lookup y = some .local := k
      rcases ok.blk.free _ (PySem.mem_of_lookup hl) rfl with k' | k' <;> rw [show X.env.scope.names.lookup y = _ from k'] at k <;> cases k
    · rw [h2] at e'
      cases e'
      exact ⟨c, h1, z.keeps kp⟩
  · obtain ⟨w, z⟩ := I.cell y c (mem e).1
    exact ⟨w, z.keeps kp⟩
  · have e : p = (h'.objs.size, go) := by simpa using (show p ∈ ([] : List (Addr × Obj)) ++ [(h'.objs.size, go)] from hp)
    subst e
    refine ⟨Heap.get?_push_size _ hgf, I.hok.fresh (by show s.heap.objs.size ≤ h'.objs.size; omega), by show h'.objs.size ≠ s.heap.objs.size; omega, fun z => ?_, hgo⟩
    have := I.stkSub _ z
    rcases List.mem_cons.mp this with z | z
    · have q : X.env.locals < s.heap.objs.size := I.lt
      have z' : h'.objs.size = X.env.locals := z
      have z2 : s.heap.objs.size + 1 = X.env.locals := hh.symm.trans z'
      have q2 : s.heap.objs.size + 1 < s.heap.objs.size := by rw [z2]; exact q
      exact absurd q2 (by omega)
    · exact I.nofs (show s.heap.objs.size ≤ h'.objs.size by omega) z
end

theorem over_gx {A : Around} {elt : Expr} {gs : List Comprehension} {scope : Scope} {pos : Pos} {it acc : Value} {ge : Env} : A.over (.compLoop (.GeneratorExp elt gs scope pos) 0 it acc ge) [] = A.deeper ge := by
  obtain ⟨hd, d, fr, gd, u⟩ := A
  simp [Around.over, Around.deeper, marksOver, frameCount, unitsOf, envsOf, guardsOf, pushEnvs, pushGuards, Code.envs, Code.env?, Code.isFrame, Code.guards, Code.isGuard, Code.weight, Code.frames, Code.isCreation, Code.isCaller, Code.cUnits]
theorem over_gx0 {A : Around} {elt : Expr} {gs : List Comprehension} {scope : Scope} {pos : Pos} {it acc : Value} {ge : Env} : A.over (.compStart (.GeneratorExp elt gs scope pos) 0 it acc ge) [] = A.deeper ge := by
  obtain ⟨hd, d, fr, gd, u⟩ := A
  simp [Around.over, Around.deeper, marksOver, frameCount, unitsOf, envsOf, guardsOf, pushEnvs, pushGuards, Code.envs, Code.env?, Code.isFrame, Code.guards, Code.isGuard, Code.weight, Code.frames, Code.isCreation, Code.isCaller, Code.cUnits]

section
variable {X : Cx} {pg : List (Addr × Obj)} {σw : L2.St} {s4 : Shared} {H4 : Hp} {ge : Env} {fp : List Addr}
/-- what a turn is to reach; c: the answer with which it goes on -/
def Turns (J : It) (g : TG) (te : TE) (vs : List Nat) (σw : L2.St) (c : Bool) (Qt Qf : Hp → Prop) (W : Nat → Nat → Hp → Prop) : Prop :=
  ∀ i m H, W i m H → (J.stop i H ∧ Qt H) ∨ (J.go i H ∧ ∀ x H', J.yld i H x H' → g x σw H' fun σ2 H2 => wipe σ2 vs = σw ∧ te σ2 H2 fun y H3 => ∃ b, y = .bl b ∧ if b = c then ∃ m', m' < m ∧ W (i + 1) m' H3 else Qf H3)
def gY (Z : Cx) (pg : List (Addr × Obj)) (σw : L2.St) (c : Bool) (Qf : Hp → Prop) : Protocol := fun _ _ v s kap =>
  ∃ b H', v = .bool b ∧ Inv Z pg σw H' s ∧ if b = c then ∀ s'' : Shared, s''.heap = s.heap → s''.os = s.os → AllBare s''.gens → kap (.send .none) s'' else Qf H'
def gR (Z : Cx) (pg : List (Addr × Obj)) (σw : L2.St) (Qt : Hp → Prop) : Shared → Prop := fun s => ∃ H', Inv Z pg σw H' s ∧ Qt H'
theorem inv_gens {Z : Cx} {pins : List (Addr × Obj)} {σ : L2.St} {H : Hp} {s s' : Shared} (I : Inv Z pins σ H s) (h : s'.heap = s.heap) (o : s'.os = s.os) (g : AllBare s'.gens) : Inv Z pins σ H s' := by
  obtain ⟨hh, gg, dd, tt, oo⟩ := s'
  have h' : hh = s.heap := h
  have o' : oo = s.os := o
  subst h'
  subst o'
  exact ⟨I.ok, I.os, g, I.base, I.loc, I.cell, I.free, I.freeC, I.pin, I.hok, I.len⟩
theorem seg_loop {elt tg iter : Expr} {scope : Scope} {gpos : Pos} {J : It} {it : Addr} {tn : Nat → Heap → Prop} {g : TG} {te : TE} {vs : List Nat} {c : Bool} {Qt Qf : Hp → Prop} {W : Nat → Nat → Hp → Prop}
    (T : Turn X.prog X.w X.K tg J fp it tn) (pgo : PG (gx X s4 H4 ge fp) tg g) (pe : PE (gx X s4 H4 ge fp) elt te) (hco : ge.scope.isCoroutine = false) (hpg : ∀ p ∈ pg, p.1 ∉ fp) (turns : Turns J g te vs σw c Qt Qf W) (hwl : ∀ σ2, wipe σ2 vs = σw → σw.length = σ2.length) :
    ∀ (n m i : Nat) (s₀ s : Shared) (H' : Hp), m < n → Inv (gx X s4 H4 ge fp) pg σw H' s → tn i s.heap → (∀ b ∈ fp, H' b = none) → W i m H' →
      Seg (model X.prog X.w) X.A.in1.in1 (fun n s₀ r s₁ => r = .ok .next ∧ gR (gx X s4 H4 ge fp) pg σw Qt s₁) (gY (gx X s4 H4 ge fp) pg σw c Qf) n s₀ (.compLoop (.GeneratorExp elt [⟨tg, iter, [], 0⟩] scope gpos) 0 (.ref it) .none ge)
        ((model X.prog X.w).den (.compLoop (.GeneratorExp elt [⟨tg, iter, [], 0⟩] scope gpos) 0 (.ref it) .none ge)) [] s := by
  have ov : ∀ {elt2 : Expr} {gs : List Comprehension} {sc2 : Scope} {p2 : Pos} {a b : Value}, X.A.in1.in1.over (.compLoop (.GeneratorExp elt2 gs sc2 p2) 0 a b ge) [] = (gx X s4 H4 ge fp).A := over_gx
  have stat : ∀ {σ' : L2.St} {H' : Hp} {s' : Shared}, Inv (gx X s4 H4 ge fp) pg σ' H' s' → (∀ b ∈ fp, H' b = none) → ∀ b ∈ fp, FpOk (gx X s4 H4 ge fp) pg H' b := fun {σ' H' s'} I' hn b hb =>
    ⟨hn b hb, (I'.ok.exf b hb).1, I'.ok.exfs b hb, .inl hb, fun x c e => (I'.ok.exf b hb).2 x c e, fun p hp => fun z => by
      have hp : p ∈ pg := by simpa using (show p ∈ ([] : List (Addr × Obj)) ++ pg from hp)
      exact hpg p hp (by rw [z]; exact hb)⟩
  intro n
  induction n with
  | zero => intro m i s₀ s H' hm; omega
  | succ n ih =>
    intro m i s₀ s H' hm I st nf w
    show Seg _ X.A.in1.in1 _ _ _ s₀ _ ((compTurn (.GeneratorExp elt [⟨tg, iter, [], 0⟩] scope gpos) 0 (.ref it) .none ge).onRaise (leaving ge)) [] s
    rw [compTurn_gen, Sem.onRaise_eq_wrap]
    refine seg_bind_wrap (wpAny_standAt ?_)
    rcases turns i m H' w with ⟨stop, q⟩ | ⟨go, step⟩
    · refine seg_bind_wrap ?_
      rw [ov]
      refine thnF (T.done (gx X s4 H4 ge fp) rfl rfl rfl rfl i pg s σw H' (fun _ _ => False) I (stat I nf) st stop) fun r s6 ⟨hr, I6⟩ => ?_
      subst hr
      exact seg_end (.ok .next) ⟨rfl, H', I6, q⟩
    · refine seg_bind_wrap ?_
      rw [ov]
      refine thnF (T.item (gx X s4 H4 ge fp) rfl rfl rfl rfl i pg s σw H' (fun _ _ => False) I (stat I nf) st go) fun r s6 ⟨u, hr, h6⟩ => ?_
      subst hr
      refine seg_bind_wrap ?_
      rw [ov]
      refine thnF h6 fun _ s7 ⟨x, H7, I7, r7, y7, st7, n7⟩ => ?_
      have I7' := I7.pinned (stat I7 n7) (T.obj _ _ st7)
      refine seg_bind_wrap ?_
      rw [ov]
      refine thnF (pgo.run _ s7 _ H7 x u _ I7' r7 (step x H7 y7)) fun _ s8 ⟨σ8, H8, I8, hw8, q8⟩ => ?_
      refine seg_bind_wrap ?_
      rw [ov]
      refine wpAny_tests_nil ?_
      simp only [if_true]
      have hy : ∀ v, yieldOut ge v = yieldValue v := fun v => by simp only [yieldOut, hco, Bool.false_eq_true, if_false]
      simp only [hy]
      rw [Sem.bind_eq_wrap', Sem.bind_eq_wrap', Sem.wrap_wrap, Sem.wrap_wrap]
      refine seg_wrap ?_
      rw [ov]
      refine thnF (pe.run _ s8 σ8 H8 _ I8 q8) fun z s9 ⟨yv, H9, I9, r9, b, eb, q9⟩ => ?_
      subst eb
      cases r9
      have pin' : ∀ b ∈ fp, ∀ o, s7.heap.get? b = some o → s9.heap.get? b = some o ∧ H9 b = none := fun b hb o e =>
        let z := I9.pin (b, o) (List.mem_append_right _ (List.mem_append_right _ (mem_pinsAt hb e)))
        ⟨z.1, z.2.1⟩
      have J9 : Inv (gx X s4 H4 ge fp) pg σw H9 s9 := (I9.unpinned (pins := pg)).weak (hwl σ8 hw8) fun j v e => by
        rw [← hw8] at e
        exact (wipe_some e).1
      have st9 : tn (i + 1) s9.heap := T.keep _ _ _ st7 fun b hb o e => (pin' b hb o e).1
      have n9 : ∀ b ∈ fp, H9 b = none := fun b hb => by
        obtain ⟨o, e, _⟩ := T.obj _ _ st7 b hb
        exact (pin' b hb o e).2
      refine seg_at (seg_yield rfl rfl rfl ⟨b, H9, rfl, J9, ?_⟩)
      by_cases hbc : b = c
      · rw [if_pos hbc] at q9 ⊢
        obtain ⟨m', hm', w'⟩ := q9
        intro s'' e1 e2 e3
        refine seg_again rfl (ih m' (i + 1) s'' s'' H9 (by omega) (inv_gens J9 e1 e2 e3) (by rw [e1]; exact st9) n9 w')
      · rw [if_neg hbc] at q9 ⊢
        exact q9
theorem seg_start {elt tg iter : Expr} {scope : Scope} {gpos : Pos} {J : It} {it : Addr} {tn : Nat → Heap → Prop} {Y : Protocol} {R : GenEnd} {n : Nat} {s₀ s : Shared}
    (T : Turn X.prog X.w X.K tg J fp it tn) (st : tn 0 s.heap)
    (loop : Seg (model X.prog X.w) X.A.in1.in1 R Y n s₀ (.compLoop (.GeneratorExp elt [⟨tg, iter, [], 0⟩] scope gpos) 0 (.ref it) .none ge)
        ((model X.prog X.w).den (.compLoop (.GeneratorExp elt [⟨tg, iter, [], 0⟩] scope gpos) 0 (.ref it) .none ge)) [] s) :
      Seg (model X.prog X.w) X.A.in1.in1 R Y n s₀ (.compStart (.GeneratorExp elt [⟨tg, iter, [], 0⟩] scope gpos) 0 (.ref it) .none ge)
        ((model X.prog X.w).den (.compStart (.GeneratorExp elt [⟨tg, iter, [], 0⟩] scope gpos) 0 (.ref it) .none ge)) [] s := by
  show Seg _ X.A.in1.in1 _ _ _ s₀ _ ((compStart (.GeneratorExp elt [⟨tg, iter, [], 0⟩] scope gpos) 0 (.ref it) .none ge).onRaise (leaving ge)) [] s
  unfold compStart
  rw [Sem.onRaise_eq_wrap]
  show Seg _ X.A.in1.in1 _ _ _ s₀ _ ((ask >>= _).wrap _ _ _ _) [] s
  refine seg_bind_wrap (wpAny_askSetting ?_)
  split
  · exact seg_again rfl loop
  · first
      | exact seg_bind_wrap (wpAny_rule (seg_bind_wrap (wpAny_standAt (seg_bind_wrap (T.self _ 0 s _ _ st (seg_again rfl loop))))))
      | (refine seg_bind_wrap (wpAny_rule ?_); show Seg _ X.A.in1.in1 _ _ _ s₀ _ ((standAt iter.pos >>= _).wrap _ _ _ _) [] s; exact seg_bind_wrap (wpAny_standAt (seg_bind_wrap (T.self _ 0 s _ _ st (seg_again rfl loop)))))

/-- the consumer between two pulls -/
structure Cons (Z : Cx) (M : Model) (A : Around) (pg : List (Addr × Obj)) (σw : L2.St) (c : Bool) (Qt Qf : Hp → Prop) (a : Addr) (g n : Nat) (s : Shared) : Prop where
  lt : g < s.gens.size
  bare : AllBare s.gens
  lim : s.heap.NoLimit
  gen : s.heap.IsGen a g
  go : ∃ gs, s.gens[g]? = some gs ∧ gs.Goes M A.in1.in1 (fun _ _ r s₁ => r = .ok .next ∧ gR Z pg σw Qt s₁) (gY Z pg σw c Qf) n (.send .none) (s.setGen g .running)
theorem setGen_heap (s : Shared) (g : Nat) (x : GenState) : (s.setGen g x).heap = s.heap := rfl
theorem setGen_os (s : Shared) (g : Nat) (x : GenState) : (s.setGen g x).os = s.os := rfl
/-- one pull -/
theorem pull {Z : Cx} {prog : Program} {w : World} {A : Around} {c : Bool} {Qt Qf : Hp → Prop} {a : Addr} {g n : Nat} {go : Obj} {s : Shared} {Q : Option Value → Shared → Prop} {E : Value → Shared → Prop} (hh : A.handled = none) (hd : A.depth < recursionLimit) (hpg : (a, go) ∈ pg)
    (hgen : ∀ h : Heap, h.get? a = some go → h.IsGen a g) (C : Cons Z (model prog w) A pg σw c Qt Qf a g n s)
    (h1 : ∀ s' m, n = m + 1 → Cons Z (model prog w) A pg σw c Qt Qf a g m s' → Q (some (.bool c)) s')
    (h2 : ∀ s' H', Inv Z pg σw H' s' → Qf H' → Q (some (.bool (!c))) s') (h3 : ∀ s' H', Inv Z pg σw H' s' → Qt H' → Q none s') :
    wpAny (model prog w) A.in1 (pyNext (.ref a)) Q E s := by
  obtain ⟨gs, hgs, hgo⟩ := C.go
  refine GenW.wpAny_gsz (n := g + 1) C.lt (wpAny_pyNext_genexpQ (A := A.in1) (P := fun _ _ s₁ => gR Z pg σw Qt s₁) hh C.lim hd C.gen hgs hgo (fun v s₁ gs' hb hv hsz => ?_) fun s₁ hp h' hk hsz => ?_)
  · obtain ⟨b, H', rfl, I, q⟩ := hv
    have hsz' : g < s₁.gens.size := by
      have h9 : g + 1 ≤ (s₁.setGen g gs').gens.size := hsz
      rw [GenW.setGen_size] at h9
      exact h9
    have bare1 : AllBare (s₁.setGen g gs').gens := allBare_setGen I.bare hb
    by_cases hbc : b = c
    · subst hbc
      rw [if_pos rfl] at q
      cases n with
      | zero =>
        exact absurd (q s₁ rfl rfl I.bare) (fun z => z)
      | succ m =>
        refine h1 _ m rfl ⟨by rw [GenW.setGen_size]; exact hsz', bare1, I.nolimit, hgen _ (I.pin (a, go) (List.mem_append_right _ hpg)).1, gs', setGen_at hsz', ?_⟩
        exact q ((s₁.setGen g gs').setGen g .running) rfl rfl (allBare_setGen bare1 rfl)
    · rw [if_neg hbc] at q
      have e : b = !c := by cases b <;> cases c <;> first | rfl | exact absurd rfl hbc
      subst e
      exact h2 _ H' (inv_gens I rfl rfl bare1) q
  · obtain ⟨H', I, q⟩ := hp
    have bare1 : AllBare (s₁.setGen g .finished).gens := allBare_setGen I.bare rfl
    have I2 : Inv Z pg σw H' (s₁.setGen g .finished) := inv_gens I rfl rfl bare1
    exact h3 _ H' (I2.kept (h' := h') (t' := (s₁.setGen g .finished).toks) hk) q
theorem all_loop {Z : Cx} {prog : Program} {w : World} {A : Around} {Qt Qf : Hp → Prop} {a : Addr} {g : Nat} {go : Obj} {R : Result → Shared → Prop} (hh : A.handled = none) (hd : A.depth < recursionLimit) (hpg : (a, go) ∈ pg) (hgen : ∀ h : Heap, h.get? a = some go → h.IsGen a g)
    (ht : ∀ s' H', Inv Z pg σw H' s' → Qt H' → R (.ok (.ret (.bool true))) s') (hf : ∀ s' H', Inv Z pg σw H' s' → Qf H' → R (.ok (.ret (.bool false))) s') :
    ∀ (n : Nat) (s : Shared), Cons Z (model prog w) A pg σw true Qt Qf a g n s → codeAny (model prog w) A (.builtin "all.loop" ⟨[.ref a], []⟩) R s := by
  intro n
  induction n with
  | zero =>
    intro s C
    refine codeAny_builtin F.entry_all_loop ?_
    rw [Around.under_plainId F.plain_all_loop _]
    show wpAny _ A.in1 (pyNext (.ref a) >>= _) _ _ s
    refine wpAny_bind (pull hh hd hpg hgen C (fun s' m e => by omega) (fun s' H' I q => ?_) fun s' H' I q => ?_)
    · refine wpAny_bind (wpAny_holding (wpAny_truthy_bool ?_))
      refine wpAny_bind (wpAny_letGo ?_)
      simp only [Bool.not_true, Bool.false_eq_true, if_false]
      exact wpAny_bind (wpAny_rule (wpAny_pure (hf s' H' I q)))
    · exact wpAny_bind (wpAny_rule (wpAny_pure (ht s' H' I q)))
  | succ n ih =>
    intro s C
    refine codeAny_builtin F.entry_all_loop ?_
    rw [Around.under_plainId F.plain_all_loop _]
    show wpAny _ A.in1 (pyNext (.ref a) >>= _) _ _ s
    refine wpAny_bind (pull hh hd hpg hgen C (fun s' m e C' => ?_) (fun s' H' I q => ?_) fun s' H' I q => ?_)
    · have e' : n = m := by omega
      subst e'
      refine wpAny_bind (wpAny_holding (wpAny_truthy_bool ?_))
      refine wpAny_bind (wpAny_letGo ?_)
      simp only [if_true]
      exact wpAny_pure ⟨plainId_quiet F.plain_all_loop _, ih s' C'⟩
    · refine wpAny_bind (wpAny_holding (wpAny_truthy_bool ?_))
      refine wpAny_bind (wpAny_letGo ?_)
      simp only [Bool.not_true, Bool.false_eq_true, if_false]
      exact wpAny_bind (wpAny_rule (wpAny_pure (hf s' H' I q)))
    · exact wpAny_bind (wpAny_rule (wpAny_pure (ht s' H' I q)))
theorem any_loop {Z : Cx} {prog : Program} {w : World} {A : Around} {Qt Qf : Hp → Prop} {a : Addr} {g : Nat} {go : Obj} {R : Result → Shared → Prop} (hh : A.handled = none) (hd : A.depth < recursionLimit) (hpg : (a, go) ∈ pg) (hgen : ∀ h : Heap, h.get? a = some go → h.IsGen a g)
    (ht : ∀ s' H', Inv Z pg σw H' s' → Qt H' → R (.ok (.ret (.bool false))) s') (hf : ∀ s' H', Inv Z pg σw H' s' → Qf H' → R (.ok (.ret (.bool true))) s') :
    ∀ (n : Nat) (s : Shared), Cons Z (model prog w) A pg σw false Qt Qf a g n s → codeAny (model prog w) A (.builtin "any.loop" ⟨[.ref a], []⟩) R s := by
  intro n
  induction n with
  | zero =>
    intro s C
    refine codeAny_builtin F.entry_any_loop ?_
    rw [Around.under_plainId F.plain_any_loop _]
    show wpAny _ A.in1 (pyNext (.ref a) >>= _) _ _ s
    refine wpAny_bind (pull hh hd hpg hgen C (fun s' m e => by omega) (fun s' H' I q => ?_) fun s' H' I q => ?_)
    · refine wpAny_bind (wpAny_holding (wpAny_truthy_bool ?_))
      refine wpAny_bind (wpAny_letGo ?_)
      simp only [Bool.not_false, if_true]
      exact wpAny_bind (wpAny_rule (wpAny_pure (hf s' H' I q)))
    · exact wpAny_bind (wpAny_rule (wpAny_pure (ht s' H' I q)))
  | succ n ih =>
    intro s C
    refine codeAny_builtin F.entry_any_loop ?_
    rw [Around.under_plainId F.plain_any_loop _]
    show wpAny _ A.in1 (pyNext (.ref a) >>= _) _ _ s
    refine wpAny_bind (pull hh hd hpg hgen C (fun s' m e C' => ?_) (fun s' H' I q => ?_) fun s' H' I q => ?_)
    · have e' : n = m := by omega
      subst e'
      refine wpAny_bind (wpAny_holding (wpAny_truthy_bool ?_))
      refine wpAny_bind (wpAny_letGo ?_)
      simp only [Bool.false_eq_true, if_false]
      exact wpAny_pure ⟨plainId_quiet F.plain_any_loop _, ih s' C'⟩
    · refine wpAny_bind (wpAny_holding (wpAny_truthy_bool ?_))
      refine wpAny_bind (wpAny_letGo ?_)
      simp only [Bool.not_false, if_true]
      exact wpAny_bind (wpAny_rule (wpAny_pure (hf s' H' I q)))
    · exact wpAny_bind (wpAny_rule (wpAny_pure (ht s' H' I q)))
end
section
variable {X : Cx} {pins : List (Addr × Obj)} {σ : L2.St} {H : Hp} {s : Shared}
/-- the generator is made -/
theorem gen_make {c P : Addr} {elt tg iter : Expr} {gpos : Pos} {scope : Scope} {own : List (Str × Nat)} {wi : TI} {k : Nat} {Q' : Value → Shared → Prop} {R : It → Hp → Prop}
    (hr : Room k X.A) (TB : TabB X.base X.mg c P) (hcode : X.env.code = .ref c) (hc : X.calm = true) (hN : X.N.Nodup) (ok : GxOk X.N X.env.scope scope own) (hi : PI X tg iter wi)
    (hs : ∀ v, genFold iter X.env v = pure v) (I : Inv X pins σ H s) (h : wi σ H fun J H1 => TabG H1 P ∧ R J H1)
    (hQ : ∀ (J : It) (H1 H2 : Hp) (it : Addr) (fp : List Addr) (tn : Nat → Heap → Prop) (s4 s5 : Shared) (cd : Value) (a g : Addr) (go : Obj), R J H1 → Tabbed P H1 H2 → Inv X pins σ H2 s4 → Turn X.prog X.w X.K tg J fp it tn → (∀ b ∈ fp, FpOk X pins H2 b ∧ b < s4.heap.objs.size) →
      Inv (gx X s4 H2 (genEnv scope (cloFrom X.env.cells scope.names []) s4.heap.objs.size cd builtinsNs X.env) fp) [(a, go)] (wipe σ (own.map (·.2))) H2 s5 → tn 0 s5.heap → a ∉ fp → (∀ h : Heap, h.get? a = some go → h.IsGen a g) →
      s5.gens[g]? = some (.fresh (.compStart (.GeneratorExp elt [⟨tg, iter, [], 0⟩] scope gpos) 0 (.ref it) .none (genEnv scope (cloFrom X.env.cells scope.names []) s4.heap.objs.size cd builtinsNs X.env))) → Q' (.ref a) s5) :
    wpAny (model X.prog X.w) X.A (eval (.GeneratorExp elt [⟨tg, iter, [], 0⟩] scope gpos) X.env) Q' X.xe s := by
  have hfree : ∀ y ∈ scope.names, y.2 = .free → ∃ c, X.env.cells.lookup y.1 = some c := fun y hy e => by
    rcases ok.blk.free y hy e with k | k
    · exact I.ok.has _ (.inl k)
    · exact I.ok.has _ (.inr k)
  refine wpAny_GeneratorExp_make ok.co (closure_ok hfree) ok.cell ok.dot ok.blk.kind hr.depth ?_ hs
  refine thn (hi.run pins s σ H _ I h) fun xv s1 hx => thn hx fun itv s2 h2 => ?_
  obtain ⟨it, fp, tn, J, H1, e, I1, T, st1, f1, ⟨ps, hP, ht⟩, hR⟩ := h2
  subst e
  have hPs : s2.heap.get? P = some { cls := .none, data := .fields ps } := I1.hok P _ hP
  have cd : PySem.W.CodeHd s2.heap c P := TB.code.keeps fun b u e => I1.bk b u e
  have fin : ∀ (code : Value) (h3 : Heap) (tk : Nat) (more : Array Value), (∀ b o, b ≠ P → s2.heap.get? b = some o → h3.get? b = some o) → s2.heap.objs.size ≤ h3.objs.size → h3.get? P = some { cls := .none, data := .fields (ps ++ more) } → TriplesOk (ps ++ more).toList →
      wpAny (model X.prog X.w) X.A (builtinsFor X.env.globals X.env.builtins) (fun bi s₄ => ∀ h' : Heap, h'.Ns s₄.heap.objs.size (fun y => if y = ".0" then some (.ref it) else none) → Heap.SameBut s₄.heap.objs.size (s₄.heap.push { cls := .type "frame", data := .dict #[] }) h' →
          Q' (.ref h'.objs.size) { s₄ with
            gens := s₄.gens.push (.fresh (.compStart (.GeneratorExp elt [⟨tg, iter, [], 0⟩] scope gpos) 0 (.ref it) .none (genEnv scope (cloFrom X.env.cells scope.names []) s₄.heap.objs.size code bi X.env))),
            toks := s₄.toks + 1 + 1 + 1,
            heap := h'.push { cls := .type "generator", data := .fields #[.int s₄.gens.size 0, .str "<genexpr>" (s₄.toks + 1), .str (X.env.qual ++ "<genexpr>") (s₄.toks + 1 + 1)] } }) X.xe { s2 with heap := h3, toks := tk } := by
    intro code h3 tk more hk hsz hP3 ht3
    have I3 : Inv X pins σ (upd H1 P (.tbl (ps ++ more))) { s2 with heap := h3, gens := s2.gens, drawn := s2.drawn, toks := tk } := inv_tab I1 hP hk hP3 I1.bare
    obtain ⟨bm, ob, e1, e2, e3, e4, e5, e6, e7, e8⟩ := TB.bm
    refine wpAny_builtinsFor (m := X.mg) (by rw [I3.ok.glob]; exact I3.mod.glob.keeps I3.bk) e1 e2 (I3.bk _ _ e5) e6 e7 e8 ?_
    intro h' hn' sb
    have hs' : h'.objs.size = h3.objs.size + 1 := by rw [sb.1, Heap.size_push]
    have fpl : ∀ b ∈ fp, b < s2.heap.objs.size := fun b hb => by
      obtain ⟨o, e, _⟩ := T.obj _ _ st1 b hb
      exact Heap.lt_size e
    have nfP : ∀ b ∈ fp, b ≠ P := fun b hb z => by
      have := (f1 b hb).1
      rw [z, hP] at this
      cases this
    have st3 : tn 0 h3 := T.keep _ _ _ st1 fun b hb o e => hk b o (nfP b hb) e
    have kp' : ∀ b o, h3.get? b = some o → h'.get? b = some o := fun b o e => sb.extBut b o (Nat.ne_of_lt (Heap.lt_size e)) (Heap.get?_push_of_some _ e)
    have f3 : ∀ b ∈ fp, FpOk X pins (upd H1 P (.tbl (ps ++ more))) b ∧ b < h3.objs.size := fun b hb => ⟨⟨by rw [upd_ne (nfP b hb)]; exact (f1 b hb).1, (f1 b hb).2⟩, Nat.lt_of_lt_of_le (fpl b hb) hsz⟩
    have bare' : AllBare (s2.gens.push (.fresh (.compStart (.GeneratorExp elt [⟨tg, iter, [], 0⟩] scope gpos) 0 (.ref it) .none (genEnv scope (cloFrom X.env.cells scope.names []) h3.objs.size code builtinsNs X.env)))) := AllBare.push I1.bare rfl
    have J5 := gx_start (code := code) (it := .ref it) (t' := tk + 1 + 1 + 1) (go := { cls := .type "generator", data := .fields #[.int s2.gens.size 0, .str "<genexpr>" (tk + 1), .str (X.env.qual ++ "<genexpr>") (tk + 1 + 1)] }) I3 hc ok hN f3 hn' sb bare' (fun v z => nomatch z) rfl hs'
    refine hQ J H1 (upd H1 P (.tbl (ps ++ more))) it fp tn { s2 with heap := h3, toks := tk } _ code h'.objs.size s2.gens.size _ hR ⟨⟨ps ++ more, upd_same, ht3⟩, fun b hb => upd_ne hb⟩ I3 T f3 J5 (T.keep _ _ _ st3 fun b _ o e => Heap.get?_push_of_some _ (kp' b o e)) (fun z => ?_) (fun h e => ⟨_, _, _, e, rfl, rfl, rfl⟩) (Array.getElem?_push_size ..)
    have q1 := Nat.lt_of_lt_of_le (fpl _ z) hsz
    have q2 : h'.objs.size < h3.objs.size := q1
    omega
  refine ⟨I1.nolimit, ?_⟩
  cases hf : codeAmong gpos ps.toList with
  | none =>
    refine wpAny_genexprCodeX hcode (cd.code hPs ht) (cd.tab hPs) hf fun c' h' tk hx hge hlt hco' _ htab' _ => ?_
    obtain ⟨o1, vs, f1, tf, fl, tgg, inF, tx, tt, op, _, _, _, _, _, _, _, _, _, htr, _⟩ := hco'
    exact fin _ h' tk _ (fun b o hb e => hx b o hb e) (Nat.le_trans hge (Nat.le_of_lt hlt)) htab'.2 htr
  | some cv =>
    refine wpAny_genexprCode_hit hcode (cd.code hPs ht) hf ?_
    exact fin cv s2.heap s2.toks #[] (fun b o _ e => e) (Nat.le_refl _) (by simpa using hPs) (by simpa using ht)
/-- all(..) where c is true, any(..) where c is false -/
def tGen (P : Addr) (wi : TI) (g : TG) (te : TE) (vs : List Nat) (c : Bool) : TE := fun σ H Q => wi σ H fun J H1 => TabG H1 P ∧ ∀ H2, Tabbed P H1 H2 → ∃ W : Nat → Nat → Hp → Prop, (∃ m, W 0 m H2) ∧ Turns J g te vs (wipe σ vs) c (Q (.bl c)) (Q (.bl (!c))) W
theorem gen_cons {c0 P : Addr} {elt tg iter : Expr} {gpos : Pos} {scope : Scope} {own : List (Str × Nat)} {wi : TI} {g : TG} {te : TE} {k : Nat} {c : Bool} {Q : VK} {Q' : Value → Shared → Prop}
    (hr : Room k X.A) (TB : TabB X.base X.mg c0 P) (hcode : X.env.code = .ref c0) (hc : X.calm = true) (hN : X.N.Nodup) (ok : GxOk X.N X.env.scope scope own) (hi : PI X tg iter wi)
    (hg : ∀ (s : Shared) (H : Hp) (cl : List (Str × Addr)) (C : Addr) (cd : Value) (fp : List Addr), PG (gx X s H (genEnv scope cl C cd builtinsNs X.env) fp) tg g)
    (he : ∀ (s : Shared) (H : Hp) (cl : List (Str × Addr)) (C : Addr) (cd : Value) (fp : List Addr), PE (gx X s H (genEnv scope cl C cd builtinsNs X.env) fp) elt te)
    (hs : ∀ v, genFold iter X.env v = pure v) (I : Inv X pins σ H s) (h : tGen P wi g te (own.map (·.2)) c σ H Q)
    (hQ : ∀ (Z : Cx) (pg : List (Addr × Obj)) (σw : L2.St) (a gn n : Addr) (go : Obj) (s5 : Shared), (a, go) ∈ pg → (∀ h : Heap, h.get? a = some go → h.IsGen a gn) → Cons Z (model X.prog X.w) X.A pg σw c (Q (.bl c)) (Q (.bl (!c))) a gn n s5 →
      (∀ s' H', Inv Z pg σw H' s' → Inv X pins σ H' s') → Q' (.ref a) s5) :
    wpAny (model X.prog X.w) X.A (eval (.GeneratorExp elt [⟨tg, iter, [], 0⟩] scope gpos) X.env) Q' X.xe s := by
  unfold tGen at h
  refine gen_make hr TB hcode hc hN ok hi hs I h ?_
  intro J H1 H2 it fp tn s4 s5 cd a gn go hR hT I4 T f4 I5 st5 hafp hgen hgs
  obtain ⟨W, ⟨m, w0⟩, turns⟩ := hR H2 hT
  have lt : gn < s5.gens.size := (Array.getElem?_eq_some_iff.mp hgs).1
  have wl : ∀ σ2 : L2.St, wipe σ2 (own.map (·.2)) = wipe σ (own.map (·.2)) → (wipe σ (own.map (·.2))).length = σ2.length := fun σ2 e => by rw [← e, wipe_length]
  refine hQ (gx X s4 H2 (genEnv scope (cloFrom X.env.cells scope.names []) s4.heap.objs.size cd builtinsNs X.env) fp) [(a, go)] (wipe σ (own.map (·.2))) a gn (m + 1) go s5 List.mem_cons_self hgen ⟨lt, I5.bare, I5.nolimit, hgen _ (I5.pin (a, go) (List.mem_append_right _ List.mem_cons_self)).1, _, hgs, rfl, ?_⟩ fun s' H' I' => ?_
  · refine seg_start T st5 (seg_loop T (hg s4 H2 _ _ cd fp) (he s4 H2 _ _ cd fp) ok.co (fun p hp => ?_) turns wl (m + 1) m 0 _ _ H2 (Nat.lt_succ_self m) (inv_gens I5 rfl rfl (allBare_setGen I5.bare rfl)) st5 (fun b hb => (f4 b hb).1.1) w0)
    rw [List.mem_singleton] at hp
    rw [hp]
    exact hafp
  · exact I4.call' (ch := fp) I'.os I'.base I'.hok I'.bare fun b hb => ⟨(f4 b hb).1.2.2.2.1, (f4 b hb).1.2.1, (f4 b hb).1.2.2.2.2.1, (f4 b hb).1.2.2.2.2.2⟩
end
section
variable {X : Cx}
theorem pe_allG {c0 P : Addr} {elt tg iter : Expr} {p pos gpos : Pos} {scope : Scope} {own : List (Str × Nat)} {wi : TI} {g : TG} {te : TE} {k : Nat}
    (hr : Room k X.A) (hgl : Gl X "all") (hm : X.mg "all" = none) (hb : bootBuiltins "all" = some (.builtin "all")) (TB : TabB X.base X.mg c0 P) (hcode : X.env.code = .ref c0) (hc : X.calm = true) (hN : X.N.Nodup) (ok : GxOk X.N X.env.scope scope own) (hi : PI X tg iter wi)
    (hg : ∀ (s : Shared) (H : Hp) (cl : List (Str × Addr)) (C : Addr) (cd : Value) (fp : List Addr), PG (gx X s H (genEnv scope cl C cd builtinsNs X.env) fp) tg g)
    (he' : ∀ (s : Shared) (H : Hp) (cl : List (Str × Addr)) (C : Addr) (cd : Value) (fp : List Addr), PE (gx X s H (genEnv scope cl C cd builtinsNs X.env) fp) elt te)
    (hs : ∀ v, genFold iter X.env v = pure v := by intro _; rfl)
    (he : starEach [.GeneratorExp elt [⟨tg, iter, [], 0⟩] scope gpos] X.env = (false, eval (.GeneratorExp elt [⟨tg, iter, [], 0⟩] scope gpos) X.env) :: starEach [] X.env := by rfl) :
    PE X (.Call (.Name "all" p) [.GeneratorExp elt [⟨tg, iter, [], 0⟩] scope gpos] [] pos) (tGen P wi g te (own.map (·.2)) true) := by
  refine ⟨fun pins s σ H Q I h => ?_⟩
  refine wpAny_Call_Name_kw (ld_blt I hgl hm hb ?_)
  refine PyProof.Rows.callWith_builtin1 ?_ he (by rfl)
  rw [he]
  show wpAny _ _ (spliced ((false, eval (.GeneratorExp elt [⟨tg, iter, [], 0⟩] scope gpos) X.env) :: backTo pos (starEach [] X.env))) _ _ s
  refine Calls.spliced_cons (gen_cons hr TB hcode hc hN ok hi hg he' hs I h fun Z pg σw a gn n go s5 hpg hgen C back => ?_)
  refine Calls.spliced_nil ?_
  refine call_function_tree F.kind_all F.plain_all F.entry_all (F.args_all1 _) ?_
  unfold Builtin.«all»
  refine wpAny_bind (m := oneArg "all" _) (wpAny_pure ?_)
  refine wpAny_bind (wpAny_pyIter_gen C.gen ?_)
  exact wpAny_pure ⟨plainId_quiet F.plain_all_loop _, all_loop (I.ok.hd hc) hr.depth hpg hgen (fun s' H' I' q => ⟨.bl true, H', back s' H' I', rfl, q⟩) (fun s' H' I' q => ⟨.bl false, H', back s' H' I', rfl, q⟩) n s5 C⟩
theorem pe_anyG {c0 P : Addr} {elt tg iter : Expr} {p pos gpos : Pos} {scope : Scope} {own : List (Str × Nat)} {wi : TI} {g : TG} {te : TE} {k : Nat}
    (hr : Room k X.A) (hgl : Gl X "any") (hm : X.mg "any" = none) (TB : TabB X.base X.mg c0 P) (hcode : X.env.code = .ref c0) (hc : X.calm = true) (hN : X.N.Nodup) (ok : GxOk X.N X.env.scope scope own) (hi : PI X tg iter wi)
    (hg : ∀ (s : Shared) (H : Hp) (cl : List (Str × Addr)) (C : Addr) (cd : Value) (fp : List Addr), PG (gx X s H (genEnv scope cl C cd builtinsNs X.env) fp) tg g)
    (he' : ∀ (s : Shared) (H : Hp) (cl : List (Str × Addr)) (C : Addr) (cd : Value) (fp : List Addr), PE (gx X s H (genEnv scope cl C cd builtinsNs X.env) fp) elt te)
    (hs : ∀ v, genFold iter X.env v = pure v := by intro _; rfl)
    (he : starEach [.GeneratorExp elt [⟨tg, iter, [], 0⟩] scope gpos] X.env = (false, eval (.GeneratorExp elt [⟨tg, iter, [], 0⟩] scope gpos) X.env) :: starEach [] X.env := by rfl) :
    PE X (.Call (.Name "any" p) [.GeneratorExp elt [⟨tg, iter, [], 0⟩] scope gpos] [] pos) (tGen P wi g te (own.map (·.2)) false) := by
  refine ⟨fun pins s σ H Q I h => ?_⟩
  refine wpAny_Call_Name_kw (ld_blt I hgl hm boot_any ?_)
  refine PyProof.Rows.callWith_builtin1 ?_ he (by rfl)
  rw [he]
  show wpAny _ _ (spliced ((false, eval (.GeneratorExp elt [⟨tg, iter, [], 0⟩] scope gpos) X.env) :: backTo pos (starEach [] X.env))) _ _ s
  refine Calls.spliced_cons (gen_cons hr TB hcode hc hN ok hi hg he' hs I h fun Z pg σw a gn n go s5 hpg hgen C back => ?_)
  refine Calls.spliced_nil ?_
  refine call_function_tree F.kind_any F.plain_any F.entry_any (F.args_any1 _) ?_
  unfold Builtin.«any»
  refine wpAny_bind (m := oneArg "any" _) (wpAny_pure ?_)
  refine wpAny_bind (wpAny_pyIter_gen C.gen ?_)
  exact wpAny_pure ⟨plainId_quiet F.plain_any_loop _, any_loop (I.ok.hd hc) hr.depth hpg hgen (fun s' H' I' q => ⟨.bl false, H', back s' H' I', rfl, q⟩) (fun s' H' I' q => ⟨.bl true, H', back s' H' I', rfl, q⟩) n s5 C⟩
end
end GA
/-! A layer over HandS: values as plain data D, slots as lists of data, readings without a heap. -/
namespace DL
open PySem PySem.Spec L2

inductive D where
  | non | bl (b : Bool) | int (i : Int) | str (x : Str) | ty (n : String) | fn (x : Str) | tup (l : List D) | lst (l : List D) | pot
  /-- a list that this def has made and may change -/
  | own (l : List D)


/-- the tables, and the top's functions by their names -/
structure Tf where
  tabs : List Addr
  fns : Str → Option Value
structure Qt where
  pot : Addr
  tf : Tf
abbrev Qt.tabs (p : Qt) : List Addr := p.tf.tabs
/-- what a def's frame stands on: the addresses that are not its to hand out, those of others that it may change, the heap at its entry -/
structure Gd where
  F0 : List Addr
  B : List Addr
  H0 : Hp
def NoT (o : HO) : Prop := ∀ ps, o ≠ .tbl ps

mutual
inductive Is (K : PySem.W.Frag) (p : Qt) (F : List Addr) (H : Hp) : V → D → Prop
  | non : Is K p F H .non .non
  | bl (b : Bool) : Is K p F H (.bl b) (.bl b)
  | int (i : Int) : Is K p F H (.int i) (.int i)
  | str (x : Str) : Is K p F H (.str x) (.str x)
  | ty (n : String) : Is K p F H (.ty n) (.ty n)
  | fn {x : Str} {f : Addr} : p.tf.fns x = some (.ref f) → Is K p F H (.ref f) (.fn x)
  | tup {a : Addr} {vs : List V} {l : List D} : SqT K H a vs → a ≠ p.pot → IsL K p F H vs l → Is K p F H (.ref a) (.tup l)
  | lst {a : Addr} {vs : List V} {l : List D} : Rd H a (.lst vs) → a ≠ p.pot ∧ a ∉ F → IsL K p F H vs l → Is K p F H (.ref a) (.lst l)
  | pot : Is K p F H (.ref p.pot) .pot
inductive IsL (K : PySem.W.Frag) (p : Qt) (F : List Addr) (H : Hp) : List V → List D → Prop
  | nil : IsL K p F H [] []
  | cons {v : V} {d : D} {vs : List V} {l : List D} : Is K p F H v d → IsL K p F H vs l → IsL K p F H (v :: vs) (d :: l)
end

/-- the pot stands: two counts, the second one small; so do the tables -/
structure Pk (p : Qt) (H : Hp) : Prop where
  at_ : ∃ a b : Int, 0 ≤ a ∧ 0 ≤ b ∧ b < 4294967296 ∧ H p.pot = some (.lst [.int a, .int b])
  tb : ∀ t ∈ p.tabs, GxR.TabG H t
/-- all but the pot is as it was; tables may grow -/
structure Ex (p : Qt) (H H' : Hp) : Prop where
  kp : ∀ b o, b ≠ p.pot → NoT o → H b = some o → H' b = some o
  pk : Pk p H'

section
variable {K : PySem.W.Frag} {p : Qt} {F G : List Addr} {H H1 H2 : Hp}
theorem SqT.keep {a : Addr} {vs : List V} (h : SqT K H a vs) (n : a ≠ p.pot) (e : ∀ b o, b ≠ p.pot → NoT o → H b = some o → H1 b = some o) : SqT K H1 a vs := by
  rcases h with (h | ⟨o, h⟩) | h
  · exact .inl (.inl (e _ _ n (fun _ z => nomatch z) h))
  · exact .inl (.inr ⟨o, e _ _ n (fun _ z => nomatch z) h⟩)
  · exact .inr h
theorem Rdl.keep {a : Addr} {vs : List V} (h : Rd H a (.lst vs)) (n : a ≠ p.pot) (e : ∀ b o, b ≠ p.pot → NoT o → H b = some o → H1 b = some o) : Rd H1 a (.lst vs) := by
  rcases h with h | ⟨o, h⟩
  · exact .inl (e _ _ n (fun _ z => nomatch z) h)
  · exact .inr ⟨o, e _ _ n (fun _ z => nomatch z) h⟩
theorem Rdl.sq {a : Addr} {vs : List V} (h : Rd H a (.lst vs)) : SqL K H a vs := .inl h
theorem Rdl.noT {a : Addr} {vs : List V} (h : Rd H a (.lst vs)) : ∃ o, NoT o ∧ H a = some o := by
  rcases h with h | ⟨o, h⟩
  · exact ⟨.lst vs, fun ps z => HO.noConfusion z, h⟩
  · exact ⟨.frz o (.lst vs), fun ps z => HO.noConfusion z, h⟩
theorem Is.mono {v : V} {d : D} (h : Is K p F H v d) (e : ∀ b o, b ≠ p.pot → NoT o → H b = some o → H1 b = some o) : Is K p F H1 v d :=
  Is.rec (motive_1 := fun v d _ => Is K p F H1 v d) (motive_2 := fun vs l _ => IsL K p F H1 vs l) .non .bl .int .str .ty .fn
    (fun h n _ ih => .tup (SqT.keep h n e) n ih) (fun h n _ ih => .lst (Rdl.keep h n.1 e) n ih) .pot .nil (fun _ _ i1 i2 => .cons i1 i2) h
theorem IsL.mono {vs : List V} {l : List D} (h : IsL K p F H vs l) (e : ∀ b o, b ≠ p.pot → NoT o → H b = some o → H1 b = some o) : IsL K p F H1 vs l :=
  IsL.rec (motive_1 := fun v d _ => Is K p F H1 v d) (motive_2 := fun vs l _ => IsL K p F H1 vs l) .non .bl .int .str .ty .fn
    (fun h n _ ih => .tup (SqT.keep h n e) n ih) (fun h n _ ih => .lst (Rdl.keep h n.1 e) n ih) .pot .nil (fun _ _ i1 i2 => .cons i1 i2) h
/-- fewer addresses shut out -/
theorem Is.less {v : V} {d : D} (h : Is K p F H v d) (e : ∀ b ∈ G, b ∈ F) : Is K p G H v d :=
  Is.rec (motive_1 := fun v d _ => Is K p G H v d) (motive_2 := fun vs l _ => IsL K p G H vs l) .non .bl .int .str .ty .fn
    (fun h n _ ih => .tup h n ih) (fun h n _ ih => .lst h ⟨n.1, fun z => n.2 (e _ z)⟩ ih) .pot .nil (fun _ _ i1 i2 => .cons i1 i2) h
theorem IsL.less {vs : List V} {l : List D} (h : IsL K p F H vs l) (e : ∀ b ∈ G, b ∈ F) : IsL K p G H vs l :=
  IsL.rec (motive_1 := fun v d _ => Is K p G H v d) (motive_2 := fun vs l _ => IsL K p G H vs l) .non .bl .int .str .ty .fn
    (fun h n _ ih => .tup h n ih) (fun h n _ ih => .lst h ⟨n.1, fun z => n.2 (e _ z)⟩ ih) .pot .nil (fun _ _ i1 i2 => .cons i1 i2) h
/-- further addresses shut out, at which nothing stood -/
theorem Is.more {v : V} {d : D} (h : Is K p F H v d) (n : ∀ b ∈ G, b ∈ F ∨ ∀ o, NoT o → H b ≠ some o) : Is K p G H v d :=
  Is.rec (motive_1 := fun v d _ => Is K p G H v d) (motive_2 := fun vs l _ => IsL K p G H vs l) .non .bl .int .str .ty .fn
    (fun h n _ ih => .tup h n ih) (fun h m _ ih => .lst h ⟨m.1, fun z => by
      rcases n _ z with q | q
      · exact m.2 q
      · obtain ⟨o, h1, h2⟩ := Rdl.noT h
        exact q o h1 h2⟩ ih) .pot .nil (fun _ _ i1 i2 => .cons i1 i2) h
theorem IsL.more {vs : List V} {l : List D} (h : IsL K p F H vs l) (n : ∀ b ∈ G, b ∈ F ∨ ∀ o, NoT o → H b ≠ some o) : IsL K p G H vs l :=
  IsL.rec (motive_1 := fun v d _ => Is K p G H v d) (motive_2 := fun vs l _ => IsL K p G H vs l) .non .bl .int .str .ty .fn
    (fun h n _ ih => .tup h n ih) (fun h m _ ih => .lst h ⟨m.1, fun z => by
      rcases n _ z with q | q
      · exact m.2 q
      · obtain ⟨o, h1, h2⟩ := Rdl.noT h
        exact q o h1 h2⟩ ih) .pot .nil (fun _ _ i1 i2 => .cons i1 i2) h
theorem IsL.len : ∀ {vs : List V} {l : List D}, IsL K p F H vs l → vs.length = l.length
  | [], _, h => by cases h; rfl
  | v :: vs, _, h => by
    cases h with
    | cons h1 h2 => simp [IsL.len h2]
theorem IsL.get : ∀ {vs : List V} {l : List D} {i : Nat} {v : V}, IsL K p F H vs l → vs[i]? = some v → ∃ d, l[i]? = some d ∧ Is K p F H v d
  | [], _, _, _, h, e => by simp at e
  | w :: vs, _, 0, v, h, e => by
    cases h with
    | cons h1 h2 =>
      have q : w = v := by simpa using e
      subst q
      exact ⟨_, rfl, h1⟩
  | w :: vs, _, i + 1, v, h, e => by
    cases h with
    | cons h1 h2 =>
      obtain ⟨d, e1, e2⟩ := IsL.get (i := i) (v := v) h2 (by simpa using e)
      exact ⟨d, by simpa using e1, e2⟩
theorem IsL.getD : ∀ {vs : List V} {l : List D} {i : Nat} {d : D}, IsL K p F H vs l → l[i]? = some d → ∃ v, vs[i]? = some v ∧ Is K p F H v d
  | _, [], _, _, h, e => by simp at e
  | _, w :: l, 0, d, h, e => by
    cases h with
    | cons h1 h2 =>
      have q : w = d := by simpa using e
      subst q
      exact ⟨_, rfl, h1⟩
  | _, w :: l, i + 1, d, h, e => by
    cases h with
    | cons h1 h2 =>
      obtain ⟨v, e1, e2⟩ := IsL.getD (i := i) (d := d) h2 (by simpa using e)
      exact ⟨v, by simpa using e1, e2⟩
theorem IsL.app : ∀ {vs ws : List V} {l m : List D}, IsL K p F H vs l → IsL K p F H ws m → IsL K p F H (vs ++ ws) (l ++ m)
  | [], _, _, _, h, h' => by cases h; exact h'
  | v :: vs, _, _, _, h, h' => by
    cases h with
    | cons h1 h2 => exact .cons h1 (IsL.app h2 h')
theorem IsL.drop : ∀ {vs : List V} {l : List D} (n : Nat), IsL K p F H vs l → IsL K p F H (vs.drop n) (l.drop n)
  | _, _, 0, h => h
  | [], _, n + 1, h => by cases h; exact .nil
  | v :: vs, _, n + 1, h => by
    cases h with
    | cons h1 h2 => exact IsL.drop n h2
theorem IsL.take : ∀ {vs : List V} {l : List D} (n : Nat), IsL K p F H vs l → IsL K p F H (vs.take n) (l.take n)
  | _, _, 0, h => .nil
  | [], _, n + 1, h => by cases h; exact .nil
  | v :: vs, _, n + 1, h => by
    cases h with
    | cons h1 h2 => exact .cons h1 (IsL.take n h2)
theorem IsL.ints : ∀ {vs : List V} {ns : List Int}, IsL K p F H vs (ns.map D.int) → vs = ns.map V.int
  | vs, [], h => by cases h; rfl
  | vs, n :: ns, h => by
    cases h with
    | cons h1 h2 =>
      cases h1
      rw [IsL.ints h2]
      rfl
theorem IsL.bools : ∀ {vs : List V} {ns : List Bool}, IsL K p F H vs (ns.map D.bl) → vs = ns.map V.bl
  | vs, [], h => by cases h; rfl
  | vs, n :: ns, h => by
    cases h with
    | cons h1 h2 =>
      cases h1
      rw [IsL.bools h2]
      rfl
theorem Ex.refl (h : Pk p H) : Ex p H H := ⟨fun _ _ _ _ e => e, h⟩
theorem Ex.trans (a : Ex p H H1) (b : Ex p H1 H2) : Ex p H H2 := ⟨fun c o n t e => b.kp c o n t (a.kp c o n t e), b.pk⟩
theorem Pk.ne {a : Addr} (h : Pk p H) (n : H a = none) : a ≠ p.pot := by
  rintro rfl
  obtain ⟨_, _, _, _, _, e⟩ := h.at_
  rw [n] at e
  cases e
theorem TabG.upd {a t : Addr} {o : HO} (h : GxR.TabG H t) (n : a ≠ t) : GxR.TabG (upd H a o) t := by
  obtain ⟨ps, e, r⟩ := h
  exact ⟨ps, by rw [upd_ne (Ne.symm n)]; exact e, r⟩
theorem TabG.ne {a t : Addr} (h : GxR.TabG H t) (n : H a = none) : a ≠ t := by
  rintro rfl
  obtain ⟨_, e, _⟩ := h
  rw [n] at e
  cases e
theorem Ex.new {a : Addr} {o : HO} (h : Pk p H) (n : H a = none) : Ex p H (upd H a o) := by
  refine ⟨fun b u _ _ e => ?_, ?_, fun t ht => TabG.upd (h.tb t ht) (TabG.ne (h.tb t ht) n)⟩
  · rw [upd_ne (ne_of_none e n)]
    exact e
  · obtain ⟨x, y, h1, h2, h3, e⟩ := h.at_
    exact ⟨x, y, h1, h2, h3, by rw [upd_ne (ne_of_none e n)]; exact e⟩
theorem Ex.tabbed {t : Addr} (h : Pk p H) (ht : t ∈ p.tabs) (e : GxR.Tabbed t H H1) : Ex p H H1 := by
  obtain ⟨ps, h1, _⟩ := h.tb t ht
  refine ⟨fun b u nb nt q => ?_, ?_, fun u hu => ?_⟩
  · by_cases hb : b = t
    · subst hb
      rw [h1] at q
      cases q
      exact absurd rfl (nt ps)
    · rw [e.2 b hb]
      exact q
  · obtain ⟨x, y, g1, g2, g3, g4⟩ := h.at_
    refine ⟨x, y, g1, g2, g3, ?_⟩
    rw [e.2 _ (fun z => by rw [z, h1] at g4; cases g4)]
    exact g4
  · by_cases hb : u = t
    · subst hb
      exact e.1
    · obtain ⟨qs, q1, q2⟩ := h.tb u hu
      exact ⟨qs, by rw [e.2 u hb]; exact q1, q2⟩
end

/-- what may be changed -/
def isMut : HO → Prop
  | .lst _ => True
  | .dK _ => True
  | .dT _ => True
  | _ => False
theorem isMut.noT {o : HO} (h : isMut o) : NoT o := fun ps e => by subst e; exact h
structure PkF (p : Qt) (F : List Addr) (H : Hp) : Prop where
  pk : Pk p H
  al : ∀ b ∈ F, b ≠ p.pot ∧ ∃ o, H b = some o ∧ isMut o
theorem PkF.ne {p : Qt} {F : List Addr} {H : Hp} (h : PkF p F H) {a : Addr} (n : H a = none) : a ≠ p.pot := h.pk.ne n
theorem PkF.nF {p : Qt} {F : List Addr} {H : Hp} (h : PkF p F H) {a : Addr} (n : H a = none) : a ≠ p.pot ∧ a ∉ F := ⟨h.pk.ne n, fun z => by
  obtain ⟨_, o, h, _⟩ := h.al a z
  rw [n] at h
  cases h⟩

/-! ### slots -/
abbrev Sl := List (Option D)
-- no list in it, and not the pot
mutual
def noL : D → Bool
  | .lst _ => false
  | .own _ => false
  | .pot => false
  | .tup l => noLs l
  | _ => true
def noLs : List D → Bool
  | [] => true
  | d :: l => noL d && noLs l
end
theorem Is.noL {K : PySem.W.Frag} {p : Qt} {F G : List Addr} {H : Hp} {v : V} {d : D} (h : Is K p F H v d) : noL d = true → Is K p G H v d :=
  Is.rec (motive_1 := fun v d _ => DL.noL d = true → Is K p G H v d) (motive_2 := fun vs l _ => noLs l = true → IsL K p G H vs l)
    (fun _ => .non) (fun b _ => .bl b) (fun i _ => .int i) (fun x _ => .str x) (fun n _ => .ty n) (fun h _ => .fn h)
    (fun h n _ ih z => .tup h n (ih z)) (fun _ _ _ _ z => nomatch z) (fun z => nomatch z) (fun _ => .nil)
    (fun _ _ i1 i2 z => by
      have z' := Bool.and_eq_true_iff.mp z
      exact .cons (i1 z'.1) (i2 z'.2)) h
def isOwn : D → Bool
  | .own _ => true
  | _ => false
structure Rel (K : PySem.W.Frag) (p : Qt) (g : Gd) (F : List Addr) (σ : St) (H : Hp) (τ : Sl) : Prop where
  pk : Pk p H
  kp : ∀ b o, b ≠ p.pot → b ∉ g.B → NoT o → g.H0 b = some o → H b = some o
  sub : ∀ b ∈ g.F0, b ∈ F
  al : ∀ b ∈ F, b ≠ p.pot ∧ ∃ o, H b = some o ∧ isMut o
  fo : ∀ b ∈ F, b ∈ g.F0 ∨ b ∈ g.B ∨ ∀ o, NoT o → g.H0 b ≠ some o
  sl : ∀ (i : Nat) (d : D), τ[i]? = some (some d) → isOwn d = false → ∃ v, σ[i]? = some (some v) ∧ Is K p F H v d
  ow : ∀ (i : Nat) (l : List D), τ[i]? = some (some (.own l)) → ∃ a vs, σ[i]? = some (some (.ref a)) ∧ H a = some (.lst vs) ∧ a ∈ F ∧ a ∉ g.F0 ∧ IsL K p F H vs l
  un : ∀ (i j : Nat) (l l' : List D) (a : Addr), τ[i]? = some (some (.own l)) → τ[j]? = some (some (.own l')) → σ[i]? = some (some (.ref a)) → σ[j]? = some (some (.ref a)) → i = j
  len : τ.length = σ.length
section
variable {K : PySem.W.Frag} {p : Qt} {g : Gd} {F : List Addr} {H H1 : Hp} {σ : St} {τ : Sl}
theorem Rel.st (r : Rel K p g F σ H τ) (e : Ex p H H1) : Rel K p g F σ H1 τ where
  pk := e.pk
  kp := fun b o n nb t q => e.kp b o n t (r.kp b o n nb t q)
  sub := r.sub
  al := fun b hb => let ⟨n, o, h1, h2⟩ := r.al b hb; ⟨n, o, e.kp b o n h2.noT h1, h2⟩
  fo := r.fo
  sl := fun i d h n => let ⟨v, h1, h2⟩ := r.sl i d h n; ⟨v, h1, h2.mono e.kp⟩
  ow := fun i l h => by
    obtain ⟨a, vs, h1, h2, h3, h4, h6⟩ := r.ow i l h
    exact ⟨a, vs, h1, e.kp _ _ (r.al a h3).1 (fun _ z => nomatch z) h2, h3, h4, h6.mono e.kp⟩
  un := r.un
  len := r.len
theorem Rel.pkf (r : Rel K p g F σ H τ) : PkF p F H := ⟨r.pk, r.al⟩
theorem Rel.notF (r : Rel K p g F σ H τ) {a : Addr} (n : H a = none) : a ≠ p.pot ∧ a ∉ F := r.pkf.nF n
theorem set_get {α : Type} {τ : List (Option α)} {i j : Nat} {x : Option α} {e : α} (q : (τ.set i x)[j]? = some (some e)) : (i = j ∧ x = some e ∧ i < τ.length) ∨ (i ≠ j ∧ τ[j]? = some (some e)) := by
  by_cases hj : i = j
  · subst hj
    by_cases hl : i < τ.length
    · rw [List.getElem?_set_self hl] at q
      cases q
      exact .inl ⟨rfl, rfl, hl⟩
    · rw [List.getElem?_eq_none (by simpa using hl)] at q
      cases q
  · rw [List.getElem?_set_ne hj] at q
    exact .inr ⟨hj, q⟩
theorem Is.noOwn {v : V} {d : D} (h : Is K p F H v d) : isOwn d = false := by cases h <;> rfl
theorem Rel.set (r : Rel K p g F σ H τ) {i : Nat} {v : V} {d : D} (h : Is K p F H v d) : Rel K p g F (σ.set i (some v)) H (τ.set i (some d)) := by
  have no : ∀ l, d ≠ .own l := fun l e => by subst e; cases h
  have ownj : ∀ (j : Nat) (l : List D), (τ.set i (some d))[j]? = some (some (.own l)) → i ≠ j ∧ τ[j]? = some (some (.own l)) := fun j l q => by
    rcases set_get q with ⟨rfl, e2, hl⟩ | q
    · cases e2
      exact absurd rfl (no l)
    · exact q
  refine ⟨r.pk, r.kp, r.sub, r.al, r.fo, fun j e q n => ?_, fun j l q => ?_, fun a b l l' c q1 q2 s1 s2 => ?_, by simp [r.len]⟩
  · rcases set_get q with ⟨rfl, e2, hl⟩ | ⟨hj, q⟩
    · cases e2
      exact ⟨v, by rw [List.getElem?_set_self (by rw [← r.len]; exact hl)], h⟩
    · obtain ⟨u, h1, h2⟩ := r.sl j e q n
      exact ⟨u, by rw [List.getElem?_set_ne hj]; exact h1, h2⟩
  · obtain ⟨hj, q⟩ := ownj j l q
    obtain ⟨a, vs, h1, h2⟩ := r.ow j l q
    exact ⟨a, vs, by rw [List.getElem?_set_ne hj]; exact h1, h2⟩
  · obtain ⟨n1, q1⟩ := ownj a l q1
    obtain ⟨n2, q2⟩ := ownj b l' q2
    rw [List.getElem?_set_ne n1] at s1
    rw [List.getElem?_set_ne n2] at s2
    exact r.un a b l l' c q1 q2 s1 s2
/-- a slot forgotten -/
theorem Rel.out (r : Rel K p g F σ H τ) {i : Nat} : Rel K p g F (σ.set i none) H (τ.set i none) := by
  have oth : ∀ (j : Nat) (d : D), (τ.set i none)[j]? = some (some d) → i ≠ j ∧ τ[j]? = some (some d) := fun j l q => by
    rcases set_get q with ⟨rfl, e2, hl⟩ | q
    · cases e2
    · exact q
  refine ⟨r.pk, r.kp, r.sub, r.al, r.fo, fun j e q n => ?_, fun j l q => ?_, fun a b l l' c q1 q2 s1 s2 => ?_, by simp [r.len]⟩
  · obtain ⟨hj, q⟩ := oth j e q
    obtain ⟨u, h1, h2⟩ := r.sl j e q n
    exact ⟨u, by rw [List.getElem?_set_ne hj]; exact h1, h2⟩
  · obtain ⟨hj, q⟩ := oth j _ q
    obtain ⟨a, vs, h1, h2⟩ := r.ow j l q
    exact ⟨a, vs, by rw [List.getElem?_set_ne hj]; exact h1, h2⟩
  · obtain ⟨n1, q1⟩ := oth a _ q1
    obtain ⟨n2, q2⟩ := oth b _ q2
    rw [List.getElem?_set_ne n1] at s1
    rw [List.getElem?_set_ne n2] at s2
    exact r.un a b l l' c q1 q2 s1 s2
def wipeD (τ : Sl) : List Nat → Sl
  | [] => τ
  | v :: vs => (wipeD τ vs).set v none
theorem Rel.wipe (r : Rel K p g F σ H τ) : ∀ vs : List Nat, Rel K p g F (wipe σ vs) H (wipeD τ vs)
  | [] => r
  | v :: vs => (Rel.wipe r vs).out
end

/-! ### expressions -/
abbrev DE := Sl → (D → Prop) → Prop
abbrev DT := Sl → (Bool → Prop) → Prop
abbrev DA := Sl → (List D → Prop) → Prop
structure PD (X : Cx) (p : Qt) (e : Expr) (d : DE) : Prop where
  run : ∃ t, PE X e t ∧ ∀ (g0 : Gd) (F : List Addr) (σ : St) (H : Hp) (τ : Sl) (Q : VK) (R : D → Prop), Rel X.K p g0 F σ H τ → d τ R → (∀ x v H', Ex p H H' → Is X.K p F H' v x → R x → Q v H') → t σ H Q
structure PDT (X : Cx) (p : Qt) (e : Expr) (d : DT) : Prop where
  run : ∃ t, PT X e t ∧ ∀ (g0 : Gd) (F : List Addr) (σ : St) (H : Hp) (τ : Sl) (Q : Bool → Hp → Prop) (R : Bool → Prop), Rel X.K p g0 F σ H τ → d τ R → (∀ b H', Ex p H H' → R b → Q b H') → t σ H Q
structure PDW (X : Cx) (p : Qt) (e : Expr) (d : DT) : Prop where
  run : ∃ t, PW X e t ∧ ∀ (g0 : Gd) (F : List Addr) (σ : St) (H : Hp) (τ : Sl) (Q : Bool → Hp → Prop) (R : Bool → Prop), Rel X.K p g0 F σ H τ → d τ R → (∀ b H', Ex p H H' → R b → Q b H') → t σ H Q
structure PDA (X : Cx) (p : Qt) (es : List Expr) (d : DA) : Prop where
  run : ∃ t, PA X es t ∧ ∀ (g0 : Gd) (F : List Addr) (σ : St) (H : Hp) (τ : Sl) (Q : List V → Hp → Prop) (R : List D → Prop), Rel X.K p g0 F σ H τ → d τ R → (∀ xs vs H', Ex p H H' → IsL X.K p F H' vs xs → vs.length = es.length → R xs → Q vs H') → t σ H Q

def OpD (X : Cx) (p : Qt) (f : Value → Value → Sem Value) (g : D → D → (D → Prop) → Prop) : Prop :=
  ∃ r, OpR X f r ∧ ∀ (F : List Addr) (H : Hp) (x y : D) (v u : V) (Q : VK) (R : D → Prop), PkF p F H → Is X.K p F H v x → Is X.K p F H u y → g x y R → (∀ z v' H', Ex p H H' → Is X.K p F H' v' z → R z → Q v' H') → r v u H Q
def UnD (X : Cx) (p : Qt) (f : Value → Sem Value) (g : D → (D → Prop) → Prop) : Prop :=
  ∃ r, UnR X f r ∧ ∀ (F : List Addr) (H : Hp) (x : D) (v : V) (Q : VK) (R : D → Prop), PkF p F H → Is X.K p F H v x → g x R → (∀ z v' H', Ex p H H' → Is X.K p F H' v' z → R z → Q v' H') → r v H Q
def CallD (X : Cx) (p : Qt) (f : Value) (g : List D → (D → Prop) → Prop) : Prop :=
  ∃ r, CallR X f r ∧ ∀ (F : List Addr) (H : Hp) (xs : List D) (vs : List V) (Q : VK) (R : D → Prop), PkF p F H → IsL X.K p F H vs xs → g xs R → (∀ z v' H', Ex p H H' → Is X.K p F H' v' z → R z → Q v' H') → r vs H Q
theorem OpR.or {X : Cx} {f : Value → Value → Sem Value} {r r' : R2} (h : OpR X f r) (h' : OpR X f r') : OpR X f (fun x y H Q => r x y H Q ∨ r' x y H Q) :=
  fun pins s σ H x y v u Q I rx ry q => q.elim (h pins s σ H x y v u Q I rx ry) (h' pins s σ H x y v u Q I rx ry)
theorem CallR.or {X : Cx} {f : Value} {r r' : List V → Hp → VK → Prop} (h : CallR X f r) (h' : CallR X f r') : CallR X f (fun x H Q => r x H Q ∨ r' x H Q) :=
  fun pins s σ H xs us Q I rx q => q.elim (h pins s σ H xs us Q I rx) (h' pins s σ H xs us Q I rx)

def dVar (i : Nat) : DE := fun τ R => match τ[i]? with
  | some (some (.own _)) => False
  | some (some d) => R d
  | _ => False
def dC (d : D) : DE := fun _ R => R d
def dOp (g : D → D → (D → Prop) → Prop) (da db : DE) : DE := fun τ R => da τ fun x => db τ fun y => g x y R
def dUn (g : D → (D → Prop) → Prop) (da : DE) : DE := fun τ R => da τ fun x => g x R
def dTst (d : DE) : DT := fun τ R => d τ fun x => match x with
  | .bl b => R b
  | _ => False
def dChain (g g' : D → D → (D → Prop) → Prop) (da db dc : DE) : DE := fun τ R => da τ fun x => db τ fun y => g x y fun z => match z with
  | .bl k => if k = true then dc τ fun w => g' y w R else R (.bl false)
  | _ => False
def dAnd (t u : DT) : DT := fun τ R => t τ fun c => if c = true then u τ R else R false
def dOr (t u : DT) : DT := fun τ R => t τ fun c => if c = true then R true else u τ R
def dNot (t : DT) : DT := fun τ R => t τ fun c => R (!c)
def dAndV (da db : DE) : DE := fun τ R => da τ fun x => match x with
  | .bl c => if c = true then db τ R else R (.bl false)
  | _ => False
def dOrV (da db : DE) : DE := fun τ R => da τ fun x => match x with
  | .bl c => if c = true then R (.bl true) else db τ R
  | _ => False
def dNotV (da : DE) : DE := fun τ R => da τ fun x => match x with
  | .bl c => R (.bl (!c))
  | _ => False
def dIf (t : DT) (da db : DE) : DE := fun τ R => t τ fun c => if c = true then da τ R else db τ R
def dNil : DA := fun _ R => R []
def dCons (da : DE) (dr : DA) : DA := fun τ R => da τ fun x => dr τ fun xs => R (x :: xs)
def dTup (t : DA) : DE := fun τ R => t τ fun xs => R (.tup xs)
def dLst (t : DA) : DE := fun τ R => t τ fun xs => R (.lst xs)
def dB (g : List D → (D → Prop) → Prop) (t : DA) : DE := fun τ R => t τ fun xs => g xs R

section
variable {X : Cx} {p : Qt} {a b c : Expr} {da db dc : DE} {pos : Pos}
theorem pd_var (i : Nat) {x : Str} {pos : Pos} (hN : X.N[i]? = some x := by rfl) (hv : Vis X.env.scope x := by first | exact Or.inl rfl | exact Or.inr (Or.inl rfl) | exact Or.inr (Or.inr rfl)) (hd : (x == ("__debug__" : Str)) = false := by decide)
    (hcd : (x == ("__classdict__" : Str)) = false := by decide) : PD X p (.Name x pos) (dVar i) := by
  refine ⟨tVar i, pe_var hN hv hd hcd, fun g0 F σ H τ Q R rel h q => ?_⟩
  unfold dVar at h
  split at h
  · exact h.elim
  · rename_i d n e
    obtain ⟨v, h1, h2⟩ := rel.sl i d e (by cases d <;> first | rfl | exact (n _ rfl).elim)
    exact ⟨v, h1, q d v H (.refl rel.pk) h2 h⟩
  · exact h.elim
theorem pd_int {i j pos} : PD X p (.Constant (.int i) j pos) (dC (.int i)) := ⟨_, pe_int, fun g0 F σ H τ Q R rel h q => q _ _ H (.refl rel.pk) (.int i) h⟩
theorem pd_bl {b j pos} : PD X p (.Constant (.bool b) j pos) (dC (.bl b)) := ⟨_, pe_bl, fun g0 F σ H τ Q R rel h q => q _ _ H (.refl rel.pk) (.bl b) h⟩
theorem pd_non {j pos} : PD X p (.Constant .none j pos) (dC .non) := ⟨_, pe_non, fun g0 F σ H τ Q R rel h q => q _ _ H (.refl rel.pk) .non h⟩
theorem pd_str {x j pos} : PD X p (.Constant (.str x) j pos) (dC (.str x)) := ⟨_, pe_str, fun g0 F σ H τ Q R rel h q => q _ _ H (.refl rel.pk) (.str x) h⟩
/-- a constant of the module's top: an int -/
theorem pd_gint {x : Str} {i : Int} {t : Tok} {pos : Pos} (hg : Gl X x) (hm : X.mg x = some (.int i t)) (hd : (x == ("__debug__" : Str)) = false := by decide) : PD X p (.Name x pos) (dC (.int i)) :=
  ⟨_, pe_glob (v := .int i) hg hm ⟨t, rfl⟩ hd, fun g0 F σ H τ Q R rel h q => q _ _ H (.refl rel.pk) (.int i) h⟩
/-- a tuple of the module's top, by its data -/
def KTup (K : PySem.W.Frag) (a : Addr) (d : D) : Prop := ∀ (p : Qt) (F : List Addr) (H : Hp), a ≠ p.pot → Is K p F H (.ref a) d
theorem pd_gtup {x : Str} {a : Addr} {d : D} {pos : Pos} (hg : Gl X x) (hm : X.mg x = some (.ref a)) (hk : KTup X.K a d) (ne : a ≠ p.pot) (hd : (x == ("__debug__" : Str)) = false := by decide) : PD X p (.Name x pos) (dC d) :=
  ⟨_, pe_glob (v := .ref a) hg hm rfl hd, fun g0 F σ H τ Q R rel h q => q _ _ H (.refl rel.pk) (hk p F H ne) h⟩
/-- a built-in type as a value -/
theorem pd_ty {x : Str} {n : String} {pos : Pos} (hg : Gl X x) (hm : X.mg x = none) (hv : bootBuiltins x = some (.type n)) (hn : x ≠ "__name__" := by decide) (hd : (x == ("__debug__" : Str)) = false := by decide) : PD X p (.Name x pos) (dC (.ty n)) :=
  ⟨_, pe_bltn (v := .ty n) hg hm hv rfl hn hd, fun g0 F σ H τ Q R rel h q => q _ _ H (.refl rel.pk) (.ty n) h⟩

/-- the run of two expressions and an operation -/
theorem op_run {r : R2} {ta tb : TE} {g : D → D → (D → Prop) → Prop}
    (hr : ∀ (F : List Addr) (H : Hp) (x y : D) (v u : V) (Q : VK) (R : D → Prop), PkF p F H → Is X.K p F H v x → Is X.K p F H u y → g x y R → (∀ z v' H', Ex p H H' → Is X.K p F H' v' z → R z → Q v' H') → r v u H Q)
    (ka : ∀ (g0 : Gd) (F : List Addr) (σ : St) (H : Hp) (τ : Sl) (Q : VK) (R : D → Prop), Rel X.K p g0 F σ H τ → da τ R → (∀ x v H', Ex p H H' → Is X.K p F H' v x → R x → Q v H') → ta σ H Q)
    (kb : ∀ (g0 : Gd) (F : List Addr) (σ : St) (H : Hp) (τ : Sl) (Q : VK) (R : D → Prop), Rel X.K p g0 F σ H τ → db τ R → (∀ x v H', Ex p H H' → Is X.K p F H' v x → R x → Q v H') → tb σ H Q)
    (g0 : Gd) (F : List Addr) (σ : St) (H : Hp) (τ : Sl) (Q : VK) (R : D → Prop) (rel : Rel X.K p g0 F σ H τ) (h : dOp g da db τ R) (q : ∀ x v H', Ex p H H' → Is X.K p F H' v x → R x → Q v H') : tOp r ta tb σ H Q := by
  refine ka g0 F σ H τ _ _ rel h fun x v H1 e1 i1 h1 => ?_
  refine kb g0 F σ H1 τ _ _ (rel.st e1) h1 fun y u H2 e2 i2 h2 => ?_
  exact hr F H2 x y v u Q R (rel.st (e1.trans e2)).pkf (i1.mono e2.kp) i2 h2 fun z v' H' e3 i3 r3 => q z v' H' ((e1.trans e2).trans e3) i3 r3
theorem pd_bin {op : Operator} {g} (ho : OpD X p (binaryOp op) g) (ha : PD X p a da) (hb : PD X p b db) : PD X p (.BinOp a op b pos) (dOp g da db) := by
  obtain ⟨r, h1, h2⟩ := ho
  obtain ⟨ta, a1, a2⟩ := ha.run
  obtain ⟨tb, b1, b2⟩ := hb.run
  exact ⟨_, pe_op h1 a1 b1, op_run h2 a2 b2⟩
theorem pd_cmp {op : CmpOp} {g} (ho : OpD X p (compareOp op) g) (ha : PD X p a da) (hb : PD X p b db) (hm : behindInMarks op b = false := by first | exact nomark _ | rfl) : PD X p (.Compare a [op] [b] pos) (dOp g da db) := by
  obtain ⟨r, h1, h2⟩ := ho
  obtain ⟨ta, a1, a2⟩ := ha.run
  obtain ⟨tb, b1, b2⟩ := hb.run
  exact ⟨_, pe_cmpR h1 a1 b1 hm, op_run h2 a2 b2⟩
theorem tst_run {ta : TE} (ka : ∀ (g0 : Gd) (F : List Addr) (σ : St) (H : Hp) (τ : Sl) (Q : VK) (R : D → Prop), Rel X.K p g0 F σ H τ → da τ R → (∀ x v H', Ex p H H' → Is X.K p F H' v x → R x → Q v H') → ta σ H Q)
    (g0 : Gd) (F : List Addr) (σ : St) (H : Hp) (τ : Sl) (Q : Bool → Hp → Prop) (R : Bool → Prop) (rel : Rel X.K p g0 F σ H τ) (h : dTst da τ R) (q : ∀ b H', Ex p H H' → R b → Q b H') : ta σ H fun x H' => ∃ k, x = .bl k ∧ Q k H' := by
  refine ka g0 F σ H τ _ _ rel h fun x v H1 e1 i1 h1 => ?_
  cases i1 with
  | bl b => exact ⟨b, rfl, q b H1 e1 h1⟩
  | _ => exact h1.elim
theorem pdt_cmp {op : CmpOp} {g} (ho : OpD X p (compareOp op) g) (ha : PD X p a da) (hb : PD X p b db) (hm : behindInMarks op b = false := by first | exact nomark _ | rfl) : PDT X p (.Compare a [op] [b] pos) (dTst (dOp g da db)) := by
  obtain ⟨r, h1, h2⟩ := ho
  obtain ⟨ta, a1, a2⟩ := ha.run
  obtain ⟨tb, b1, b2⟩ := hb.run
  exact ⟨_, pt_cmpR h1 a1 b1 hm, tst_run (op_run h2 a2 b2)⟩
theorem chain_run {r r' : R2} {ta tb tc : TE} {g g' : D → D → (D → Prop) → Prop}
    (hr : ∀ (F : List Addr) (H : Hp) (x y : D) (v u : V) (Q : VK) (R : D → Prop), PkF p F H → Is X.K p F H v x → Is X.K p F H u y → g x y R → (∀ z v' H', Ex p H H' → Is X.K p F H' v' z → R z → Q v' H') → r v u H Q)
    (hr' : ∀ (F : List Addr) (H : Hp) (x y : D) (v u : V) (Q : VK) (R : D → Prop), PkF p F H → Is X.K p F H v x → Is X.K p F H u y → g' x y R → (∀ z v' H', Ex p H H' → Is X.K p F H' v' z → R z → Q v' H') → r' v u H Q)
    (ka : ∀ (g0 : Gd) (F : List Addr) (σ : St) (H : Hp) (τ : Sl) (Q : VK) (R : D → Prop), Rel X.K p g0 F σ H τ → da τ R → (∀ x v H', Ex p H H' → Is X.K p F H' v x → R x → Q v H') → ta σ H Q)
    (kb : ∀ (g0 : Gd) (F : List Addr) (σ : St) (H : Hp) (τ : Sl) (Q : VK) (R : D → Prop), Rel X.K p g0 F σ H τ → db τ R → (∀ x v H', Ex p H H' → Is X.K p F H' v x → R x → Q v H') → tb σ H Q)
    (kc : ∀ (g0 : Gd) (F : List Addr) (σ : St) (H : Hp) (τ : Sl) (Q : VK) (R : D → Prop), Rel X.K p g0 F σ H τ → dc τ R → (∀ x v H', Ex p H H' → Is X.K p F H' v x → R x → Q v H') → tc σ H Q)
    (g0 : Gd) (F : List Addr) (σ : St) (H : Hp) (τ : Sl) (Q : VK) (R : D → Prop) (rel : Rel X.K p g0 F σ H τ) (h : dChain g g' da db dc τ R) (q : ∀ x v H', Ex p H H' → Is X.K p F H' v x → R x → Q v H') : tChain r r' ta tb tc σ H Q := by
  refine ka g0 F σ H τ _ _ rel h fun x v H1 e1 i1 h1 => ?_
  refine kb g0 F σ H1 τ _ _ (rel.st e1) h1 fun y u H2 e2 i2 h2 => ?_
  refine hr F H2 x y v u _ _ (rel.st (e1.trans e2)).pkf (i1.mono e2.kp) i2 h2 fun z v' H3 e3 i3 h3 => ?_
  cases i3 with
  | bl k =>
    refine ⟨k, rfl, ?_⟩
    cases k with
    | true =>
      rw [if_pos rfl]
      refine kc g0 F σ H3 τ _ _ (rel.st ((e1.trans e2).trans e3)) h3 fun w u' H4 e4 i4 h4 => ?_
      exact hr' F H4 y w u u' Q R (rel.st (((e1.trans e2).trans e3).trans e4)).pkf (i2.mono (e3.trans e4).kp) i4 h4 fun z v' H' e5 i5 r5 => q z v' H' ((((e1.trans e2).trans e3).trans e4).trans e5) i5 r5
    | false =>
      rw [if_neg Bool.false_ne_true]
      exact q _ _ H3 ((e1.trans e2).trans e3) (.bl false) h3
  | _ => exact h3.elim
theorem pd_chain {op op' : CmpOp} {g g'} (ho : OpD X p (compareOp op) g) (ho' : OpD X p (compareOp op') g') (ha : PD X p a da) (hb : PD X p b db) (hc : PD X p c dc) (hm : lastMarks [op, op'] [b, c] = false := by with_unfolding_all rfl) : PD X p (.Compare a [op, op'] [b, c] pos) (dChain g g' da db dc) := by
  obtain ⟨r, h1, h2⟩ := ho
  obtain ⟨r', h1', h2'⟩ := ho'
  obtain ⟨ta, a1, a2⟩ := ha.run
  obtain ⟨tb, b1, b2⟩ := hb.run
  obtain ⟨tc, c1, c2⟩ := hc.run
  exact ⟨_, pe_chain h1 h1' a1 b1 c1 hm, chain_run h2 h2' a2 b2 c2⟩
theorem pdt_chain {op op' : CmpOp} {g g'} (ho : OpD X p (compareOp op) g) (ho' : OpD X p (compareOp op') g') (ha : PD X p a da) (hb : PD X p b db) (hc : PD X p c dc) (hm : lastMarks [op, op'] [b, c] = false := by with_unfolding_all rfl) : PDT X p (.Compare a [op, op'] [b, c] pos) (dTst (dChain g g' da db dc)) := by
  obtain ⟨r, h1, h2⟩ := ho
  obtain ⟨r', h1', h2'⟩ := ho'
  obtain ⟨ta, a1, a2⟩ := ha.run
  obtain ⟨tb, b1, b2⟩ := hb.run
  obtain ⟨tc, c1, c2⟩ := hc.run
  exact ⟨_, pt_chain h1 h1' a1 b1 c1 hm, tst_run (chain_run h2 h2' a2 b2 c2)⟩
/-- a value that is a bool, as a test -/
theorem pdt_val (ha : PD X p a da) (he : ∀ whole, isTrue a X.env whole = (do let v ← whole; standAt a.pos; holding [v] (truthy v)) := by intro _; rfl) : PDT X p a (dTst da) := by
  obtain ⟨ta, a1, a2⟩ := ha.run
  exact ⟨_, pt_val a1 he, tst_run a2⟩
variable {ta tb : DT} {rest : List Expr}
theorem pdw_t (h : PDW X p a ta) : PDT X p a ta := by
  obtain ⟨t, h1, h2⟩ := h.run
  exact ⟨t, h1.pt, h2⟩
theorem pdw_and1 (ha : PDT X p a ta) : PDW X p (.BoolOp .And [a] pos) ta := by
  obtain ⟨t, h1, h2⟩ := ha.run
  exact ⟨t, pw_and1 h1, h2⟩
theorem pdw_or1 (ha : PDT X p a ta) : PDW X p (.BoolOp .Or [a] pos) ta := by
  obtain ⟨t, h1, h2⟩ := ha.run
  exact ⟨t, pw_or1 h1, h2⟩
theorem pdw_and (ha : PDT X p a ta) (hb : PDW X p (.BoolOp .And (b :: rest) pos) tb) : PDW X p (.BoolOp .And (a :: b :: rest) pos) (dAnd ta tb) := by
  obtain ⟨t, h1, h2⟩ := ha.run
  obtain ⟨u, k1, k2⟩ := hb.run
  refine ⟨_, pw_and h1 k1, fun g0 F σ H τ Q R rel h q => ?_⟩
  refine h2 g0 F σ H τ _ _ rel h fun b H1 e1 h1 => ?_
  cases b with
  | true => exact k2 g0 F σ H1 τ Q R (rel.st e1) h1 fun b H' e r => q b H' (e1.trans e) r
  | false => exact q false H1 e1 h1
theorem pdw_or (ha : PDT X p a ta) (hb : PDW X p (.BoolOp .Or (b :: rest) pos) tb) : PDW X p (.BoolOp .Or (a :: b :: rest) pos) (dOr ta tb) := by
  obtain ⟨t, h1, h2⟩ := ha.run
  obtain ⟨u, k1, k2⟩ := hb.run
  refine ⟨_, pw_or h1 k1, fun g0 F σ H τ Q R rel h q => ?_⟩
  refine h2 g0 F σ H τ _ _ rel h fun b H1 e1 h1 => ?_
  cases b with
  | false => exact k2 g0 F σ H1 τ Q R (rel.st e1) h1 fun b H' e r => q b H' (e1.trans e) r
  | true => exact q true H1 e1 h1
theorem pdt_not (ha : PDT X p a ta) : PDT X p (.UnaryOp .Not a pos) (dNot ta) := by
  obtain ⟨t, h1, h2⟩ := ha.run
  exact ⟨_, pt_not h1, fun g0 F σ H τ Q R rel h q => h2 g0 F σ H τ _ _ rel h fun b H1 e1 h1 => q _ H1 e1 h1⟩
theorem pd_one {op} (h : PD X p a da) : PD X p (.BoolOp op [a] pos) da := by
  obtain ⟨t, h1, h2⟩ := h.run
  exact ⟨t, pe_one h1, h2⟩
theorem pd_and (ha : PD X p a da) (hb : PD X p (.BoolOp .And (b :: rest) pos) db) : PD X p (.BoolOp .And (a :: b :: rest) pos) (dAndV da db) := by
  obtain ⟨t, h1, h2⟩ := ha.run
  obtain ⟨u, k1, k2⟩ := hb.run
  refine ⟨_, pe_and h1 k1, fun g0 F σ H τ Q R rel h q => ?_⟩
  refine h2 g0 F σ H τ _ _ rel h fun x v H1 e1 i1 h1 => ?_
  cases i1 with
  | bl c =>
    refine ⟨c, rfl, ?_⟩
    cases c with
    | true => exact k2 g0 F σ H1 τ Q R (rel.st e1) h1 fun x v H' e i r => q x v H' (e1.trans e) i r
    | false => exact q _ _ H1 e1 (.bl false) h1
  | _ => exact h1.elim
theorem pd_or (ha : PD X p a da) (hb : PD X p (.BoolOp .Or (b :: rest) pos) db) : PD X p (.BoolOp .Or (a :: b :: rest) pos) (dOrV da db) := by
  obtain ⟨t, h1, h2⟩ := ha.run
  obtain ⟨u, k1, k2⟩ := hb.run
  refine ⟨_, pe_or h1 k1, fun g0 F σ H τ Q R rel h q => ?_⟩
  refine h2 g0 F σ H τ _ _ rel h fun x v H1 e1 i1 h1 => ?_
  cases i1 with
  | bl c =>
    refine ⟨c, rfl, ?_⟩
    cases c with
    | false => exact k2 g0 F σ H1 τ Q R (rel.st e1) h1 fun x v H' e i r => q x v H' (e1.trans e) i r
    | true => exact q _ _ H1 e1 (.bl true) h1
  | _ => exact h1.elim
theorem pd_not (ha : PD X p a da) : PD X p (.UnaryOp .Not a pos) (dNotV da) := by
  obtain ⟨t, h1, h2⟩ := ha.run
  refine ⟨_, pe_not h1, fun g0 F σ H τ Q R rel h q => ?_⟩
  refine h2 g0 F σ H τ _ _ rel h fun x v H1 e1 i1 h1 => ?_
  cases i1 with
  | bl c => exact ⟨c, rfl, q _ _ H1 e1 (.bl _) h1⟩
  | _ => exact h1.elim
theorem pd_ifx (hc : PDT X p c ta) (ha : PD X p a da) (hb : PD X p b db) : PD X p (.IfExp c a b pos) (dIf ta da db) := by
  obtain ⟨t, h1, h2⟩ := hc.run
  obtain ⟨u, k1, k2⟩ := ha.run
  obtain ⟨w, l1, l2⟩ := hb.run
  refine ⟨_, pe_ifExp h1 k1 l1, fun g0 F σ H τ Q R rel h q => ?_⟩
  refine h2 g0 F σ H τ _ _ rel h fun b H1 e1 h1 => ?_
  cases b with
  | true => exact k2 g0 F σ H1 τ Q R (rel.st e1) h1 fun x v H' e i r => q x v H' (e1.trans e) i r
  | false => exact l2 g0 F σ H1 τ Q R (rel.st e1) h1 fun x v H' e i r => q x v H' (e1.trans e) i r
theorem pd_un {op : UnaryOp} {g} (ho : UnD X p (unaryOp op) g) (ha : PD X p a da) : PD X p (.UnaryOp op a pos) (dUn g da) := by
  obtain ⟨r, h1, h2⟩ := ho
  obtain ⟨t, a1, a2⟩ := ha.run
  refine ⟨_, pe_un h1 a1, fun g0 F σ H τ Q R rel h q => ?_⟩
  refine a2 g0 F σ H τ _ _ rel h fun x v H1 e1 i1 h1 => ?_
  exact h2 F H1 x v Q R (rel.st e1).pkf i1 h1 fun z v' H' e i r => q z v' H' (e1.trans e) i r
variable {es : List Expr} {ds : DA}
theorem pda_nil : PDA X p [] dNil := ⟨_, pa_nil, fun g0 F σ H τ Q R rel h q => q [] [] H (.refl rel.pk) .nil rfl h⟩
theorem pda_cons (ha : PD X p a da) (hr : PDA X p es ds) (hs : starEach (a :: es) X.env = (false, eval a X.env) :: starEach es X.env := by rfl) : PDA X p (a :: es) (dCons da ds) := by
  obtain ⟨t, h1, h2⟩ := ha.run
  obtain ⟨u, k1, k2⟩ := hr.run
  refine ⟨_, pa_cons h1 k1 hs, fun g0 F σ H τ Q R rel h q => ?_⟩
  refine h2 g0 F σ H τ _ _ rel h fun x v H1 e1 i1 h1 => ?_
  refine k2 g0 F σ H1 τ _ _ (rel.st e1) h1 fun xs vs H2 e2 i2 l2 h2 => ?_
  exact q _ _ H2 (e1.trans e2) (.cons (i1.mono e2.kp) i2) (by simp [l2]) h2
theorem pd_tup {k : Nat} (h : PDA X p es ds) (hl : es.length ≤ 1000 := by decide) : PD X p (.Tuple es k pos) (dTup ds) := by
  obtain ⟨t, h1, h2⟩ := h.run
  refine ⟨_, pe_tup h1, fun g0 F σ H τ Q R rel h q => ?_⟩
  refine h2 g0 F σ H τ _ _ rel h fun xs vs H1 e1 i1 l1 h1 => ⟨by rw [l1]; exact Nat.le_of_lt (small1000 hl), fun a ha => ?_⟩
  have e2 : Ex p H1 (upd H1 a (.tup vs)) := .new e1.pk ha
  exact q _ _ _ (e1.trans e2) (.tup (SqT.of upd_same) (e1.pk.ne ha) (i1.mono e2.kp)) h1
theorem pd_lst (h : PDA X p es ds) (hl : es.length ≤ 1000 := by decide) : PD X p (.List es pos) (dLst ds) := by
  obtain ⟨t, h1, h2⟩ := h.run
  refine ⟨_, pe_lst h1, fun g0 F σ H τ Q R rel h q => ?_⟩
  refine h2 g0 F σ H τ _ _ rel h fun xs vs H1 e1 i1 l1 h1 => ⟨by rw [l1]; exact Nat.le_of_lt (small1000 hl), fun a ha => ?_⟩
  have e2 : Ex p H1 (upd H1 a (.lst vs)) := .new e1.pk ha
  exact q _ _ _ (e1.trans e2) (.lst (Rd.of upd_same) ((rel.st e1).notF ha) (i1.mono e2.kp)) h1
/-- a built-in by its name -/
theorem pd_callB {x : Str} {p' : Pos} {e : Expr} {id : String} {g} (hc : CallD X p (.builtin id) g) (hg : Gl X x) (hm : X.mg x = none) (hv : bootBuiltins x = some (.builtin id)) (ha : PDA X p (e :: es) ds) (hn : x ≠ "__name__" := by decide) (hdb : (x == ("__debug__" : Str)) = false := by decide)
    (he : starEach (e :: es) X.env = (false, eval e X.env) :: starEach es X.env := by rfl) (hpl : (backTo pos (starEach es X.env)).any (·.1) = false := by rfl) : PD X p (.Call (.Name x p') (e :: es) [] pos) (dB g ds) := by
  obtain ⟨r, c1, c2⟩ := hc
  obtain ⟨t, h1, h2⟩ := ha.run
  refine ⟨_, pe_callB c1 hg hm hv h1 hn hdb he hpl, fun g0 F σ H τ Q R rel h q => ?_⟩
  refine h2 g0 F σ H τ _ _ rel h fun xs vs H1 e1 i1 l1 h1 => ?_
  exact c2 F H1 xs vs Q R (rel.st e1).pkf i1 h1 fun z v' H' e i r => q z v' H' (e1.trans e) i r
theorem pd_callTy {x : Str} {p' : Pos} {e : Expr} {T : String} {g} (hc : CallD X p (.type T) g) (hg : Gl X x) (hm : X.mg x = none) (hv : bootBuiltins x = some (.type T)) (ha : PDA X p (e :: es) ds) (hn : x ≠ "__name__" := by decide) (hdb : (x == ("__debug__" : Str)) = false := by decide)
    (he : starEach (e :: es) X.env = (false, eval e X.env) :: starEach es X.env := by rfl) (hpl : (backTo pos (starEach es X.env)).any (·.1) = false := by rfl) : PD X p (.Call (.Name x p') (e :: es) [] pos) (dB g ds) := by
  obtain ⟨r, c1, c2⟩ := hc
  obtain ⟨t, h1, h2⟩ := ha.run
  refine ⟨_, pe_callTy c1 hg hm hv h1 hn hdb he hpl, fun g0 F σ H τ Q R rel h q => ?_⟩
  refine h2 g0 F σ H τ _ _ rel h fun xs vs H1 e1 i1 l1 h1 => ?_
  exact c2 F H1 xs vs Q R (rel.st e1).pkf i1 h1 fun z v' H' e i r => q z v' H' (e1.trans e) i r
/-- a built-in of a module, imported by its name -/
theorem pd_callFun {x : Str} {p' : Pos} {e : Expr} {id : String} {g} (hc : CallD X p (.builtin id) g) (hg : Gl X x) (hm : X.mg x = some (.builtin id)) (ha : PDA X p (e :: es) ds) (hdb : (x == ("__debug__" : Str)) = false := by decide)
    (he : starEach (e :: es) X.env = (false, eval e X.env) :: starEach es X.env := by rfl) (hpl : (backTo pos (starEach es X.env)).any (·.1) = false := by rfl) : PD X p (.Call (.Name x p') (e :: es) [] pos) (dB g ds) := by
  obtain ⟨r, c1, c2⟩ := hc
  obtain ⟨t, h1, h2⟩ := ha.run
  refine ⟨_, pe_callBfun c1 hg hm h1 hdb he hpl, fun g0 F σ H τ Q R rel h q => ?_⟩
  refine h2 g0 F σ H τ _ _ rel h fun xs vs H1 e1 i1 l1 h1 => ?_
  exact c2 F H1 xs vs Q R (rel.st e1).pkf i1 h1 fun z v' H' e i r => q z v' H' (e1.trans e) i r
end


end DL
/-! Statements, loops, defs over the data layer. -/
namespace DL
open PySem PySem.Spec L2

/-! ### what a def promises -/
abbrev SpD := List D → (D → Prop) → Prop
def toSp (K : PySem.W.Frag) (tabs : Tf) (n : Nat) (sp : SpD) : Sp := fun vs H Q _ => vs.length = n ∧ ∃ (pot : Addr) (F : List Addr) (ds : List D) (R : D → Prop), PkF ⟨pot, tabs⟩ F H ∧ IsL K ⟨pot, tabs⟩ F H vs ds ∧ sp ds R ∧ ∀ x v H', Ex ⟨pot, tabs⟩ H H' → Is K ⟨pot, tabs⟩ F H' v x → R x → Q v H'

/-! ### statements -/
structure DEn where
  nx : Sl → Prop
  rt : D → Prop
  bk : Sl → Prop := fun _ => False
  ct : Sl → Prop := fun _ => False
abbrev DS := DEn → Sl → Prop
structure Agree (K : PySem.W.Frag) (p : Qt) (g : Gd) (E' : DEn) (E : Ends) : Prop where
  nx : ∀ F σ H τ, Rel K p g F σ H τ → E'.nx τ → E.nx σ H
  rt : ∀ F σ H τ v x, Rel K p g F σ H τ → Is K p F H v x → E'.rt x → E.rt v H
  bk : ∀ F σ H τ, Rel K p g F σ H τ → E'.bk τ → E.bk σ H
  ct : ∀ F σ H τ, Rel K p g F σ H τ → E'.ct τ → E.ct σ H
structure PDS (X : Cx) (p : Qt) (st : Stmt) (d : DS) : Prop where
  run : ∃ t, PS X st t ∧ ∀ (g : Gd) (F : List Addr) (σ : St) (H : Hp) (τ : Sl) (E : Ends) (E' : DEn), Rel X.K p g F σ H τ → d E' τ → Agree X.K p g E' E → t E σ H
structure PDSs (X : Cx) (p : Qt) (st : List Stmt) (d : DS) : Prop where
  run : ∃ t, PSs X st t ∧ ∀ (g : Gd) (F : List Addr) (σ : St) (H : Hp) (τ : Sl) (E : Ends) (E' : DEn), Rel X.K p g F σ H τ → d E' τ → Agree X.K p g E' E → t E σ H
def dNext : DS := fun E τ => E.nx τ
def dSeq (t u : DS) : DS := fun E τ => t { E with nx := u E } τ
def dRet (d : DE) : DS := fun E τ => d τ E.rt
def dRetN : DS := fun E _ => E.rt .non
def dIfS (c : DT) (t u : DS) : DS := fun E τ => c τ fun b => if b = true then t E τ else u E τ
def dDrop (d : DE) : DS := fun E τ => d τ fun _ => E.nx τ
def dNever : DS := fun _ _ => False
def dBrk : DS := fun E τ => E.bk τ
def dCnt : DS := fun E τ => E.ct τ
abbrev DG := D → Sl → (Sl → Prop) → Prop
def dAsg (d : DE) (g : DG) : DS := fun E τ => d τ fun x => g x τ E.nx
structure PDG (X : Cx) (p : Qt) (tg : Expr) (d : DG) : Prop where
  run : ∃ t : TG, PG X tg t ∧ ∀ (v : V) (x : D) (g : Gd) (F : List Addr) (σ : St) (H : Hp) (τ : Sl) (Q : St → Hp → Prop) (R : Sl → Prop), Rel X.K p g F σ H τ → Is X.K p F H v x → d x τ R → (∀ σ' H' τ', Rel X.K p g F σ' H' τ' → (∀ w y, Is X.K p F H w y → Is X.K p F H' w y) → R τ' → Q σ' H') → t v σ H Q
abbrev DGs := List D → Sl → (Sl → Prop) → Prop
structure PDGs (X : Cx) (p : Qt) (tgs : List Expr) (d : DGs) : Prop where
  run : ∃ t : TGs, PGs X tgs t ∧ ∀ (vs : List V) (xs : List D) (g : Gd) (F : List Addr) (σ : St) (H : Hp) (τ : Sl) (Q : St → Hp → Prop) (R : Sl → Prop), Rel X.K p g F σ H τ → IsL X.K p F H vs xs → d xs τ R → (∀ σ' H' τ', Rel X.K p g F σ' H' τ' → (∀ w y, Is X.K p F H w y → Is X.K p F H' w y) → R τ' → Q σ' H') → t vs σ H Q
def gN (i : Nat) : DG := fun x τ R => R (τ.set i (some x))
def gNl : DGs := fun xs τ R => match xs with
  | [] => R τ
  | _ => False
def gCn (g : DG) (gs : DGs) : DGs := fun xs τ R => match xs with
  | x :: r => g x τ fun τ' => gs r τ' R
  | _ => False
def gTu (n : Nat) (gs : DGs) : DG := fun x τ R => match x with
  | .tup xs => xs.length = n ∧ gs xs τ R
  | _ => False
/-- pot[0] = .., pot[1] = .. -/
def gP0 (i : Nat) : DG := fun x τ R => match τ[i]?, x with
  | some (some .pot), .int a => 0 ≤ a ∧ R τ
  | _, _ => False
def gP1 (i : Nat) : DG := fun x τ R => match τ[i]?, x with
  | some (some .pot), .int a => (0 ≤ a ∧ a < 4294967296) ∧ R τ
  | _, _ => False
section
variable {K : PySem.W.Frag} {p : Qt}
theorem IsL.all {F : List Addr} {H H' : Hp} (f : ∀ w y, Is K p F H w y → Is K p F H' w y) : ∀ {vs : List V} {xs : List D}, IsL K p F H vs xs → IsL K p F H' vs xs
  | [], _, h => by cases h; exact .nil
  | v :: vs, _, h => by
    cases h with
    | cons h1 h2 => exact .cons (f _ _ h1) (IsL.all f h2)
end
section
variable {X : Cx} {p : Qt} {pos : Pos} {st : Stmt} {rest : List Stmt} {t u : DS} {e : Expr} {d : DE}
theorem Agree.seq {K : PySem.W.Frag} {g : Gd} {E' : DEn} {E : Ends} (a : Agree K p g E' E) {n' : Sl → Prop} {n : St → Hp → Prop} (h : ∀ F σ H τ, Rel K p g F σ H τ → n' τ → n σ H) : Agree K p g { E' with nx := n' } { E with nx := n } := ⟨h, a.rt, a.bk, a.ct⟩
theorem pdss_nil : PDSs X p [] dNext := ⟨_, pss_nil, fun g F σ H τ E E' rel h a => a.nx F σ H τ rel h⟩
theorem pdss_cons (h1 : PDS X p st t) (h2 : PDSs X p rest u) : PDSs X p (st :: rest) (dSeq t u) := by
  obtain ⟨a, a1, a2⟩ := h1.run
  obtain ⟨b, b1, b2⟩ := h2.run
  refine ⟨_, pss_cons a1 b1, fun g F σ H τ E E' rel h ag => ?_⟩
  exact a2 g F σ H τ _ _ rel h (ag.seq fun F' σ' H' τ' rel' h' => b2 g F' σ' H' τ' E E' rel' h' ag)
theorem pdss_one (h1 : PDS X p st t) : PDSs X p [st] t := by
  obtain ⟨a, a1, a2⟩ := h1.run
  exact ⟨_, pss_one a1, a2⟩
theorem pds_never : PDS X p st dNever := ⟨_, ps_never, fun _ _ _ _ _ _ _ _ h _ => h.elim⟩
theorem pdss_never {sts : List Stmt} : PDSs X p sts dNever := ⟨_, pss_never, fun _ _ _ _ _ _ _ _ h _ => h.elim⟩
theorem pds_ret (he : PD X p e d) : PDS X p (.Return (some e) pos) (dRet d) := by
  obtain ⟨a, a1, a2⟩ := he.run
  exact ⟨_, ps_ret a1, fun g F σ H τ E E' rel h ag => a2 g F σ H τ _ _ rel h fun x v H' e1 i1 r1 => ag.rt F σ H' τ v x (rel.st e1) i1 r1⟩
theorem pds_retN : PDS X p (.Return none pos) dRetN := ⟨_, ps_retN, fun g F σ H τ E E' rel h ag => ag.rt F σ H τ .non .non rel .non h⟩
theorem pds_expr (he : PD X p e d) (hs : swapsWith e none pos.line X.env = pure false := by rfl) : PDS X p (.Expr e pos) (dDrop d) := by
  obtain ⟨a, a1, a2⟩ := he.run
  exact ⟨_, ps_expr a1 hs, fun g F σ H τ E E' rel h ag => a2 g F σ H τ _ _ rel h fun x v H' e1 i1 r1 => ag.nx F σ H' τ (rel.st e1) r1⟩
theorem pds_doc {x j pos pos'} : PDS X p (.Expr (.Constant (.str x) j pos) pos') dNext := ⟨_, ps_doc, fun g F σ H τ E E' rel h ag => ag.nx F σ H τ rel h⟩
theorem pds_pass : PDS X p (.Pass pos) dNext := ⟨_, ps_pass, fun g F σ H τ E E' rel h ag => ag.nx F σ H τ rel h⟩
theorem pds_brk : PDS X p (.Break pos) dBrk := ⟨_, ps_break, fun g F σ H τ E E' rel h ag => ag.bk F σ H τ rel h⟩
theorem pds_cnt : PDS X p (.Continue pos) dCnt := ⟨_, ps_continue, fun g F σ H τ E E' rel h ag => ag.ct F σ H τ rel h⟩
theorem pds_if {c : Expr} {a b : List Stmt} {tc : DT} (hc : PDT X p c tc) (ha : PDSs X p a t) (hb : PDSs X p b u) : PDS X p (.If c a b pos) (dIfS tc t u) := by
  obtain ⟨c0, c1, c2⟩ := hc.run
  obtain ⟨a0, a1, a2⟩ := ha.run
  obtain ⟨b0, b1, b2⟩ := hb.run
  refine ⟨_, ps_if c1 a1 b1, fun g F σ H τ E E' rel h ag => ?_⟩
  refine c2 g F σ H τ _ _ rel h fun b H1 e1 h1 => ?_
  cases b with
  | true => exact a2 g F σ H1 τ E E' (rel.st e1) h1 ag
  | false => exact b2 g F σ H1 τ E E' (rel.st e1) h1 ag
theorem pds_set {i : Nat} {x : Str} {pos' : Pos} (hN : X.N.Nodup) (hi : X.N[i]? = some x) (hx : Loc X.env.scope x) (he : PD X p e d) (hs : swapsWith e (some (.Name x pos')) pos.line X.env = pure false := by rfl) (hf : X.fn x = true ∨ X.env.scope.names.lookup x = some .local := by first | exact .inl rfl | exact .inr rfl | assumption) :
    PDS X p (.Assign [.Name x pos'] e pos) (dAsg d (gN i)) := by
  obtain ⟨a, a1, a2⟩ := he.run
  refine ⟨_, ps_set hN hi hx a1 hs hf, fun g F σ H τ E E' rel h ag => ?_⟩
  exact a2 g F σ H τ _ _ rel h fun x v H' e1 i1 r1 => ag.nx F _ H' _ ((rel.st e1).set i1) r1
theorem pdg_name {i : Nat} {x : Str} (hN : X.N.Nodup) (hi : X.N[i]? = some x) (hx : Loc X.env.scope x) (hf : X.fn x = true ∨ X.env.scope.names.lookup x = some .local := by first | exact .inl rfl | exact .inr rfl | assumption) : PDG X p (.Name x pos) (gN i) :=
  ⟨_, pg_name hN hi hx hf, fun v x g F σ H τ Q R rel i1 h q => q _ H _ (rel.set i1) (fun _ _ z => z) h⟩
theorem pdgs_nil : PDGs X p [] gNl := by
  refine ⟨_, pgs_nil, fun vs xs g F σ H τ Q R rel i1 h q => ?_⟩
  cases i1 with
  | nil => exact ⟨rfl, q σ H τ rel (fun _ _ z => z) h⟩
  | cons _ _ => exact h.elim
theorem pdgs_cons {es : List Expr} {g : DG} {gs : DGs} (h1 : PDG X p e g) (h2 : PDGs X p es gs) (hs : (assignEach (e :: es) X.env).map (·.2) = assign e X.env :: (assignEach es X.env).map (·.2) := by rfl) : PDGs X p (e :: es) (gCn g gs) := by
  obtain ⟨a, a1, a2⟩ := h1.run
  obtain ⟨b, b1, b2⟩ := h2.run
  refine ⟨_, pgs_cons a1 b1 hs, fun vs xs g0 F σ H τ Q R rel i1 h q => ?_⟩
  cases i1 with
  | nil => exact h.elim
  | cons i1 i2 =>
    refine ⟨_, _, rfl, a2 _ _ g0 F σ H τ _ _ rel i1 h fun σ' H' τ' rel1 k1 h1 => ?_⟩
    exact b2 _ _ g0 F σ' H' τ' _ _ rel1 (i2.all k1) h1 fun σ2 H2 τ2 rel2 k2 r2 => q σ2 H2 τ2 rel2 (fun w y z => k2 w y (k1 w y z)) r2
theorem pdg_tup {es : List Expr} {k n : Nat} {gs : DGs} (hc : X.calm = true) (h : PDGs X p es gs) (hn : (assignEach es X.env).length = n := by rfl) (hst : (assignEach es X.env).findIdx? (·.1) = none := by rfl) : PDG X p (.Tuple es k pos) (gTu n gs) := by
  obtain ⟨a, a1, a2⟩ := h.run
  refine ⟨_, pg_tup hc a1 hn hst, fun v x g F σ H τ Q R rel i1 h q => ?_⟩
  cases i1 with
  | tup s ne il =>
    obtain ⟨hl, h⟩ := h
    exact ⟨_, _, rfl, s, by rw [il.len]; exact hl, a2 _ _ g F σ H τ _ _ rel il h q⟩
  | _ => exact h.elim
theorem Ex.pot {H : Hp} {a b : Int} (k : Pk p H) (h0 : 0 ≤ a) (h1 : 0 ≤ b) (h2 : b < 4294967296) : Ex p H (upd H p.pot (.lst [.int a, .int b])) := by
  refine ⟨fun c o n _ e => by rw [upd_ne n]; exact e, ⟨a, b, h0, h1, h2, upd_same⟩, fun t ht => TabG.upd (k.tb t ht) fun z => ?_⟩
  obtain ⟨_, _, _, _, _, e⟩ := k.at_
  obtain ⟨_, e', _⟩ := k.tb t ht
  rw [← z, e] at e'
  cases e'
theorem pdg_p0 {i : Nat} {o ix : Expr} (hi : X.N[i]? = X.N[i]?) (ho : PD X p o (dVar i)) (hx : PD X p ix (dC (.int 0)))
    (ha : ∀ v, assign (.Subscript o ix pos) X.env v = (do
      let ov ← holding [v] (eval o X.env)
      let iv ← holding [v, ov] (eval ix X.env)
      standAt pos
      holding [v, ov, iv] (setItem ov iv v)
      release [v, ov, iv] []) := by intro _; rfl) : PDG X p (.Subscript o ix pos) (gP0 i) := by
  obtain ⟨a, a1, a2⟩ := ho.run
  obtain ⟨b, b1, b2⟩ := hx.run
  refine ⟨_, pg_sub a1 b1 set_list ha, fun v x g F σ H τ Q R rel i1 h q => ?_⟩
  unfold gP0 at h
  split at h
  · rename_i z hz
    obtain ⟨h0, hR⟩ := h
    refine a2 g F σ H τ _ (fun d => d = .pot) rel (by unfold dVar; rw [hz]) fun d ov H1 e1 j1 hd => ?_
    subst hd
    refine b2 g F σ H1 τ _ (fun d => d = .int 0) (rel.st e1) rfl fun d iv H2 e2 j2 hd => ?_
    subst hd
    cases j1
    cases j2
    cases i1
    obtain ⟨x, y, p0, p1, p2, hp⟩ := e2.pk.at_
    refine ⟨p.pot, _, 0, 0, rfl, rfl, hp, rfl, ?_⟩
    have e3 : Ex p H2 (upd H2 p.pot (.lst ([V.int x, V.int y].set 0 (V.int z)))) := .pot e2.pk h0 p1 p2
    exact q σ _ τ (rel.st ((e1.trans e2).trans e3)) (fun w y z => z.mono ((e1.trans e2).trans e3).kp) hR
  · exact h.elim
theorem pdg_p1 {i : Nat} {o ix : Expr} (hi : X.N[i]? = X.N[i]?) (ho : PD X p o (dVar i)) (hx : PD X p ix (dC (.int 1)))
    (ha : ∀ v, assign (.Subscript o ix pos) X.env v = (do
      let ov ← holding [v] (eval o X.env)
      let iv ← holding [v, ov] (eval ix X.env)
      standAt pos
      holding [v, ov, iv] (setItem ov iv v)
      release [v, ov, iv] []) := by intro _; rfl) : PDG X p (.Subscript o ix pos) (gP1 i) := by
  obtain ⟨a, a1, a2⟩ := ho.run
  obtain ⟨b, b1, b2⟩ := hx.run
  refine ⟨_, pg_sub a1 b1 set_list ha, fun v x g F σ H τ Q R rel i1 h q => ?_⟩
  unfold gP1 at h
  split at h
  · rename_i z hz
    obtain ⟨⟨h0, h1⟩, hR⟩ := h
    refine a2 g F σ H τ _ (fun d => d = .pot) rel (by unfold dVar; rw [hz]) fun d ov H1 e1 j1 hd => ?_
    subst hd
    refine b2 g F σ H1 τ _ (fun d => d = .int 1) (rel.st e1) rfl fun d iv H2 e2 j2 hd => ?_
    subst hd
    cases j1
    cases j2
    cases i1
    obtain ⟨x, y, p0, p1, p2, hp⟩ := e2.pk.at_
    refine ⟨p.pot, _, 1, 1, rfl, rfl, hp, rfl, ?_⟩
    have e3 : Ex p H2 (upd H2 p.pot (.lst ([V.int x, V.int y].set 1 (V.int z)))) := .pot e2.pk p0 h0 h1
    exact q σ _ τ (rel.st ((e1.trans e2).trans e3)) (fun w y z => z.mono ((e1.trans e2).trans e3).kp) hR
  · exact h.elim
theorem pds_asg {tg : Expr} {g : DG} (he : PD X p e d) (hg : PDG X p tg g) (hs : swapsWithSole [tg] e pos.line X.env = pure false := by rfl) (hw : swappedStores [tg] e X.env = pure none := by rfl)
    (h1 : (assignEach [tg] X.env).map (·.2) = [assign tg X.env] := by rfl) : PDS X p (.Assign [tg] e pos) (dAsg d g) := by
  obtain ⟨a, a1, a2⟩ := he.run
  obtain ⟨b, b1, b2⟩ := hg.run
  refine ⟨_, ps_asg a1 b1 hs hw h1, fun g F σ H τ E E' rel h ag => ?_⟩
  refine a2 g F σ H τ _ _ rel h fun x v H1 e1 i1 r1 => ?_
  exact b2 v x g F σ H1 τ _ _ (rel.st e1) i1 r1 fun σ' H' τ' rel2 _ r2 => ag.nx F σ' H' τ' rel2 r2
def dPar (i j : Nat) (t : DA) : DS := fun E τ => t τ fun xs => match xs with
  | [x, y] => E.nx ((τ.set i (some x)).set j (some y))
  | _ => False
theorem pds_par {i j : Nat} {x y : Str} {a b : Expr} {ta : DA} {px py pt : Pos} {kt k2 pt2} (hc : X.calm = true) (hN : X.N.Nodup) (hi : X.N[i]? = some x) (hj : X.N[j]? = some y) (hij : i ≠ j)
    (hx : X.env.scope.names.lookup x = some .local) (hy : X.env.scope.names.lookup y = some .local) (ha : PDA X p [a, b] ta)
    (hw : swappedStores [.Tuple [.Name x px, .Name y py] kt pt] (.Tuple [a, b] k2 pt2) X.env = pure (some [x, y]))
    (hs : swapsWithSole [.Tuple [.Name x px, .Name y py] kt pt] (.Tuple [a, b] k2 pt2) pos.line X.env = pure false := by rfl) :
    PDS X p (.Assign [.Tuple [.Name x px, .Name y py] kt pt] (.Tuple [a, b] k2 pt2) pos) (dPar i j ta) := by
  obtain ⟨a, a1, a2⟩ := ha.run
  refine ⟨_, ps_par hc hN hi hj hij hx hy a1 hw hs, fun g F σ H τ E E' rel h ag => ?_⟩
  refine a2 g F σ H τ _ _ rel h fun xs vs H1 e1 i1 l1 r1 => ?_
  cases i1 with
  | nil => exact r1.elim
  | cons i1 i2 =>
    cases i2 with
    | nil => exact r1.elim
    | cons i2 i3 =>
      cases i3 with
      | nil => exact ⟨_, _, rfl, ag.nx F _ H1 _ (((rel.st e1).set i1).set i2) r1⟩
      | cons _ _ => exact r1.elim
def dPar3 (i j l : Nat) (t : DA) : DS := fun E τ => t τ fun xs => match xs with
  | [x, y, z] => E.nx (((τ.set i (some x)).set j (some y)).set l (some z))
  | _ => False
theorem pds_par3 {i j l : Nat} {x y z : Str} {a b c : Expr} {ta : DA} {px py pz pt : Pos} {kt : Nat} {k2 : Nat} {pt2 : Pos} (hc : X.calm = true) (hN : X.N.Nodup) (hi : X.N[i]? = some x) (hj : X.N[j]? = some y) (hl : X.N[l]? = some z) (hij : i ≠ j) (hil : i ≠ l) (hjl : j ≠ l)
    (hx : X.env.scope.names.lookup x = some .local) (hy : X.env.scope.names.lookup y = some .local) (hz : X.env.scope.names.lookup z = some .local) (ha : PDA X p [a, b, c] ta)
    (hw : swappedStores [.Tuple [.Name x px, .Name y py, .Name z pz] kt pt] (.Tuple [a, b, c] k2 pt2) X.env = pure (some [x, y, z]))
    (hs : swapsWithSole [.Tuple [.Name x px, .Name y py, .Name z pz] kt pt] (.Tuple [a, b, c] k2 pt2) pos.line X.env = pure false := by rfl) :
    PDS X p (.Assign [.Tuple [.Name x px, .Name y py, .Name z pz] kt pt] (.Tuple [a, b, c] k2 pt2) pos) (dPar3 i j l ta) := by
  obtain ⟨a, a1, a2⟩ := ha.run
  refine ⟨_, ps_par3 hc hN hi hj hl hij hil hjl hx hy hz a1 hw hs, fun g F σ H τ E E' rel h ag => ?_⟩
  refine a2 g F σ H τ _ _ rel h fun xs vs H1 e1 i1 l1 r1 => ?_
  match xs, r1 with
  | [u, v, w], r1 =>
    cases i1 with
    | cons i1 i2 =>
      cases i2 with
      | cons i2 i3 =>
        cases i3 with
        | cons i3 i4 =>
          cases i4
          exact ⟨_, _, _, rfl, ag.nx F _ H1 _ ((((rel.st e1).set i1).set i2).set i3) r1⟩
end

/-! ### a stretch of a def's run, from a state on -/
def Gd.cut (g : Gd) (F : List Addr) (H : Hp) : Gd := ⟨g.F0, F.filter (fun b => decide (b ∉ g.F0)), H⟩
section
variable {K : PySem.W.Frag} {p : Qt} {g : Gd} {F F' : List Addr} {σ σ' : St} {H H' : Hp} {τ τ' : Sl}
theorem Rel.cut (r : Rel K p g F σ H τ) : Rel K p (g.cut F H) F σ H τ where
  pk := r.pk
  kp := fun _ _ _ _ _ e => e
  sub := r.sub
  al := r.al
  fo := fun b hb => by
    by_cases h : b ∈ g.F0
    · exact .inl h
    · exact .inr (.inl (List.mem_filter.mpr ⟨hb, by simpa using h⟩))
  sl := r.sl
  ow := r.ow
  un := r.un
  len := r.len
theorem Rel.back (r : Rel K p g F σ H τ) (r' : Rel K p (g.cut F H) F' σ' H' τ') : Rel K p g F' σ' H' τ' where
  pk := r'.pk
  kp := fun b o n nb t e => by
    refine r'.kp b o n (fun z => ?_) t (r.kp b o n nb t e)
    obtain ⟨z1, z2⟩ := List.mem_filter.mp z
    rcases r.fo b z1 with q | q | q
    · exact (by simpa using z2 : b ∉ g.F0) q
    · exact nb q
    · exact q o t e
  sub := r'.sub
  al := r'.al
  fo := fun b hb => by
    rcases r'.fo b hb with q | q | q
    · exact .inl q
    · exact r.fo b (List.mem_filter.mp q).1
    · by_cases hB : b ∈ g.B
      · exact .inr (.inl hB)
      · exact .inr (.inr fun o t e => q o t (r.kp b o (r'.al b hb).1 hB t e))
  sl := r'.sl
  ow := r'.ow
  un := r'.un
  len := r'.len
/-- what stands since the cut, but for the lists of the def's own -/
theorem Rel.since (r' : Rel K p (g.cut F H) F' σ' H' τ') {b : Addr} {o : HO} (n : b ≠ p.pot) (nf : b ∉ F) (t : NoT o) (e : H b = some o) : H' b = some o :=
  r'.kp b o n (fun z => nf (List.mem_filter.mp z).1) t e
theorem Rel.isl {vs : List V} {l : List D} (r' : Rel K p (g.cut F H) F' σ' H' τ') (i : IsL K p F H vs l) (k : ∀ b o, b ≠ p.pot → b ∉ F → NoT o → H b = some o → H' b = some o) (al : ∀ b ∈ F, ∃ o, H b = some o ∧ isMut o) (s0 : ∀ b ∈ g.F0, b ∈ F) : IsL K p F' H' vs l :=
  IsL.rec (motive_1 := fun v d _ => Is K p F' H' v d) (motive_2 := fun vs l _ => IsL K p F' H' vs l) .non .bl .int .str .ty .fn
    (fun {a vs l} h n _ ih => .tup (by
      rcases h with (h | ⟨o, h⟩) | h
      · refine .inl (.inl (k _ _ n (fun z => ?_) (fun _ z => nomatch z) h))
        obtain ⟨o, q, m⟩ := al a z
        rw [h] at q
        cases q
        exact m
      · refine .inl (.inr ⟨o, k _ _ n (fun z => ?_) (fun _ z => nomatch z) h⟩)
        obtain ⟨o, q, m⟩ := al a z
        rw [h] at q
        cases q
        exact m
      · exact .inr h) n ih)
    (fun {a vs l} h m _ ih => .lst (by
      rcases h with h | ⟨o, h⟩
      · exact .inl (k _ _ m.1 m.2 (fun _ z => nomatch z) h)
      · exact .inr ⟨o, k _ _ m.1 m.2 (fun _ z => nomatch z) h⟩) ⟨m.1, fun z => by
        rcases r'.fo _ z with q | q | q
        · exact m.2 (s0 _ q)
        · exact m.2 (List.mem_filter.mp q).1
        · obtain ⟨o, h1, h2⟩ := Rdl.noT h
          exact q o h1 h2⟩ ih) .pot .nil (fun _ _ i1 i2 => .cons i1 i2) i
end

/-! ### what is walked -/
/-- all but the pot, the lists at F and the tables is as it was -/
structure ExF (p : Qt) (F : List Addr) (H H' : Hp) : Prop where
  kp : ∀ b o, b ≠ p.pot → b ∉ F → NoT o → H b = some o → H' b = some o
  pk : Pk p H'
structure WD (K : PySem.W.Frag) (p : Qt) (F : List Addr) (J : It) (H0 : Hp) (l : List D) : Prop where
  step : ∀ (i : Nat) (H : Hp) (F' : List Addr), ExF p F H0 H → (∀ {vs : List V} {l : List D}, IsL K p F H0 vs l → IsL K p F' H vs l) → PkF p F' H → i < l.length → J.go i H ∧ ∀ x H', J.yld i H x H' → Ex p H H' ∧ ∃ d, l[i]? = some d ∧ Is K p F' H' x d
  stop : ∀ H, ExF p F H0 H → J.stop l.length H
abbrev DI := Sl → (List D → Prop) → Prop
structure PDI (X : Cx) (p : Qt) (tg iter : Expr) (d : DI) : Prop where
  run : ∃ wi, PI X tg iter wi ∧ ∀ (g : Gd) (F : List Addr) (σ : L2.St) (H : Hp) (τ : Sl) (Rw : It → Hp → Prop) (R : List D → Prop), Rel X.K p g F σ H τ → d τ R → (∀ J H1 l, Ex p H H1 → WD X.K p F J H1 l → R l → Rw J H1) → wi σ H Rw
theorem Ex.toF {p : Qt} {F : List Addr} {H H' : Hp} (e : Ex p H H') : ExF p F H H' := ⟨fun b o n _ t q => e.kp b o n t q, e.pk⟩

/-! ### for, while -/
def dForGo (g : DG) (body : DS) (E : DEn) : List D → Sl → Prop
  | [], τ => E.nx τ
  | x :: r, τ => g x τ fun τ2 => body { nx := dForGo g body E r, rt := E.rt, bk := E.nx, ct := dForGo g body E r } τ2
def dFor (it : DI) (g : DG) (body : DS) : DS := fun E τ => it τ fun l => dForGo g body E l τ
def dWhile (c : DT) (body : DS) : DS := fun E τ => ∃ W : Nat → Sl → Prop, (∃ m, W m τ) ∧ ∀ m τ, W m τ → c τ fun b => if b = true then body { nx := fun τ' => ∃ m', m' < m ∧ W m' τ', rt := E.rt, bk := E.nx, ct := fun τ' => ∃ m', m' < m ∧ W m' τ' } τ else E.nx τ
section
variable {X : Cx} {p : Qt} {pos : Pos}
theorem drop_at {l : List D} {i : Nat} {d : D} (h : l[i]? = some d) : l.drop i = d :: l.drop (i + 1) := by
  obtain ⟨hi, e⟩ := List.getElem?_eq_some_iff.mp h
  rw [List.drop_eq_getElem_cons hi, e]
theorem pds_for {tg iter : Expr} {body : List Stmt} {it : DI} {gt : DG} {b : DS} (hc : X.calm = true) (hp : PassesOwn (model X.prog X.w) X.A X.env X.xe) (hi : PDI X p tg iter it) (hg : PDG X p tg gt) (hb : PDSs X p body b)
    (hs : ∀ x, foldedSetIterable iter X.env x = pure x := by intro _; rfl) : PDS X p (.For tg iter body [] pos) (dFor it gt b) := by
  obtain ⟨wi, i1, i2⟩ := hi.run
  obtain ⟨tg', g1, g2⟩ := hg.run
  obtain ⟨tb, b1, b2⟩ := hb.run
  refine ⟨_, ps_for hp hc i1 g1 b1 hs, fun g F σ H τ E E' rel h ag => ?_⟩
  refine i2 g F σ H τ _ _ rel h fun J H1 l e1 wd h1 => ?_
  have rel1 := rel.st e1
  have isl : ∀ {F' : List Addr} {σ' : L2.St} {H' : Hp} {τ' : Sl}, Rel X.K p (g.cut F H1) F' σ' H' τ' → ∀ {vs : List V} {l : List D}, IsL X.K p F H1 vs l → IsL X.K p F' H' vs l := by
    intro F' σ' H' τ' r' vs l i
    exact r'.isl i (fun b o n nf t e => r'.since n nf t e) (fun b hb => (rel1.al b hb).2) rel1.sub
  refine ⟨fun i m σ' H' => i ≤ l.length ∧ m = l.length - i ∧ ∃ F' τ', Rel X.K p (g.cut F H1) F' σ' H' τ' ∧ dForGo gt b E' (l.drop i) τ', ⟨_, Nat.zero_le _, rfl, F, τ, rel1.cut, h1⟩, ?_⟩
  rintro i m σ' H' ⟨hi, rfl, F', τ', rel', h'⟩
  have exf : ExF p F H1 H' := ⟨fun b o n nf t e => rel'.since n nf t e, rel'.pk⟩
  by_cases hlt : i < l.length
  · obtain ⟨go, y⟩ := wd.step i H' F' exf (isl rel') rel'.pkf hlt
    refine .inr ⟨go, fun σ2 H2 => i + 1 ≤ l.length ∧ ∃ F2 τ2, Rel X.K p (g.cut F H1) F2 σ2 H2 τ2 ∧ dForGo gt b E' (l.drop (i + 1)) τ2, fun σ2 H2 ⟨q1, q2⟩ => ⟨_, by omega, q1, rfl, q2⟩, fun x H2 yl => ?_⟩
    obtain ⟨e2, d, hd, hx⟩ := y x H2 yl
    rw [drop_at hd] at h'
    refine g2 x d (g.cut F H1) F' σ' H2 τ' _ _ (rel'.st e2) hx h' fun σ3 H3 τ3 rel3 _ h3 => ?_
    refine b2 (g.cut F H1) F' σ3 H3 τ3 _ _ rel3 h3 ⟨fun F4 σ4 H4 τ4 rel4 h4 => ⟨hlt, F4, τ4, rel4, h4⟩, fun F4 σ4 H4 τ4 v x rel4 i4 h4 => ag.rt F4 σ4 H4 τ4 v x (rel1.back rel4) i4 h4, fun F4 σ4 H4 τ4 rel4 h4 => ag.nx F4 σ4 H4 τ4 (rel1.back rel4) h4, fun F4 σ4 H4 τ4 rel4 h4 => ⟨hlt, F4, τ4, rel4, h4⟩⟩
  · have e : i = l.length := by omega
    subst e
    rw [List.drop_length] at h'
    exact .inl ⟨wd.stop H' exf, ag.nx F' σ' H' τ' (rel1.back rel') h'⟩
theorem pds_while {c : Expr} {body : List Stmt} {dc : DT} {b : DS} (hp : PassesOwn (model X.prog X.w) X.A X.env X.xe) (hc : PDT X p c dc) (hb : PDSs X p body b) : PDS X p (.While c body [] pos) (dWhile dc b) := by
  obtain ⟨tc, c1, c2⟩ := hc.run
  obtain ⟨tb, b1, b2⟩ := hb.run
  refine ⟨_, ps_while hp c1 b1, fun g F σ H τ E E' rel h ag => ?_⟩
  obtain ⟨W, ⟨m0, w0⟩, turn⟩ := h
  refine ⟨fun m σ' H' => ∃ F' τ', Rel X.K p g F' σ' H' τ' ∧ W m τ', ⟨m0, F, τ, rel, w0⟩, ?_⟩
  rintro m σ' H' ⟨F', τ', rel', w'⟩
  refine c2 g F' σ' H' τ' _ _ rel' (turn m τ' w') fun t H1 e1 h1 => ?_
  cases t with
  | false =>
    rw [if_neg Bool.false_ne_true] at h1 ⊢
    exact ag.nx _ _ _ _ (rel'.st e1) h1
  | true =>
    rw [if_pos rfl] at h1 ⊢
    refine ⟨fun σ2 H2 => ∃ F2 τ2, Rel X.K p g F2 σ2 H2 τ2 ∧ ∃ m', m' < m ∧ W m' τ2, fun σ2 H2 ⟨F2, τ2, q2, m', q3, q4⟩ => ⟨m', q3, F2, τ2, q2, q4⟩, ?_⟩
    exact b2 g F' σ' H1 τ' _ _ (rel'.st e1) h1 ⟨fun F4 σ4 H4 τ4 rel4 h4 => ⟨F4, τ4, rel4, h4⟩, fun F4 σ4 H4 τ4 v x rel4 i4 h4 => ag.rt F4 σ4 H4 τ4 v x rel4 i4 h4, fun F4 σ4 H4 τ4 rel4 h4 => ag.nx F4 σ4 H4 τ4 rel4 h4, fun F4 σ4 H4 τ4 rel4 h4 => ⟨F4, τ4, rel4, h4⟩⟩
end
end DL
/-! Operators, built-ins, walks over the data layer. -/
namespace DL
open PySem PySem.Spec L2

/-! ### operators -/
def gII (g : Int → Int → D) : D → D → (D → Prop) → Prop := fun x y R => match x, y with
  | .int i, .int j => R (g i j)
  | _, _ => False
def gIIc (C : Int → Int → Prop) (g : Int → Int → D) : D → D → (D → Prop) → Prop := fun x y R => match x, y with
  | .int i, .int j => C i j ∧ R (g i j)
  | _, _ => False
section
variable {X : Cx} {p : Qt}
/-- a rule of HandS on two ints -/
theorem opd_I0 {f : Value → Value → Sem Value} {gv : Int → Int → V} {g : Int → Int → D} (h : OpR X f (rI0 gv)) (hg : ∀ i j F H, Is X.K p F H (gv i j) (g i j)) : OpD X p f (gII g) := by
  refine ⟨_, h, fun F H x y v u Q R pk ix iy hh q => ?_⟩
  cases ix with
  | int i =>
    cases iy with
    | int j => exact ⟨i, j, rfl, rfl, q _ _ H (.refl pk.pk) (hg i j F H) hh⟩
    | _ => exact hh.elim
  | _ => exact hh.elim
theorem opd_I {f : Value → Value → Sem Value} {C C' : Int → Int → Prop} {gv : Int → Int → V} {g : Int → Int → D} (h : OpR X f (rI C gv)) (hc : ∀ i j, C' i j → C i j) (hg : ∀ i j F H, C' i j → Is X.K p F H (gv i j) (g i j)) : OpD X p f (gIIc C' g) := by
  refine ⟨_, h, fun F H x y v u Q R pk ix iy hh q => ?_⟩
  cases ix with
  | int i =>
    cases iy with
    | int j => exact ⟨i, j, rfl, rfl, hc i j hh.1, q _ _ H (.refl pk.pk) (hg i j F H hh.1) hh.2⟩
    | _ => exact hh.elim
  | _ => exact hh.elim
/-- a + b: ints, tuples -/
def gAdd : D → D → (D → Prop) → Prop := fun x y R => match x, y with
  | .int i, .int j => R (.int (i + j))
  | .tup l, .tup m => l.length + m.length ≤ 1000000 ∧ R (.tup (l ++ m))
  | _, _ => False
theorem opd_add : OpD X p (binaryOp .Add) gAdd := by
  refine ⟨_, op_add.or op_catA, fun F H x y v u Q R pk ix iy hh q => ?_⟩
  cases ix with
  | int i =>
    cases iy with
    | int j => exact .inl ⟨i, j, rfl, rfl, q _ _ H (.refl pk.pk) (.int _) hh⟩
    | _ => exact hh.elim
  | @tup a vs l hs hn hl =>
    cases iy with
    | @tup b ws m hs' hn' hl' =>
      have h1 := hl.len
      have h2 := hl'.len
      refine .inr ⟨a, b, vs, ws, rfl, rfl, hs, hs', ?_, fun e => ?_, fun _ e => ?_, fun _ _ c hc => ?_⟩
      · have : sizeLine = 16777216 := sizeLine_eq
        have := hh.1
        omega
      · subst e
        cases hl
        exact q _ _ H (.refl pk.pk) (.tup hs' hn' hl') hh.2
      · subst e
        cases hl'
        exact q _ _ H (.refl pk.pk) (.tup hs hn hl) (by simpa using hh.2)
      · have e := Ex.new (o := .tup (vs ++ ws)) pk.pk hc
        exact q _ _ _ e (.tup (SqT.of upd_same) (pk.ne hc) ((hl.mono e.kp).app (hl'.mono e.kp))) hh.2
    | _ => exact hh.elim
  | _ => exact hh.elim
abbrev gSub := gII fun i j => .int (i - j)
theorem opd_sub : OpD X p (binaryOp .Sub) gSub := opd_I0 op_sub fun _ _ _ _ => .int _
/-- a product: one side within 2 ^ 64, or both within 2 ^ 8192 -/
structure MulC (i j : Int) : Prop where
  ok : IntMulOk i j
theorem MulC.left {i j : Int} (h0 : -18446744073709551616 < i) (h1 : i < 18446744073709551616) : MulC i j := ⟨CMul.ok (.inl ⟨h0, h1⟩)⟩
theorem MulC.right {i j : Int} (h0 : -18446744073709551616 < j) (h1 : j < 18446744073709551616) : MulC i j := ⟨CMul.ok (.inr ⟨h0, h1⟩)⟩
theorem MulC.wide {i j : Int} (h0 : -1606938044258990275541962092341162602522202993782792835301376 < i) (h1 : i < 1606938044258990275541962092341162602522202993782792835301376) (h2 : -1606938044258990275541962092341162602522202993782792835301376 < j) (h3 : j < 1606938044258990275541962092341162602522202993782792835301376) : MulC i j := by
  have e : (2 : Nat) ^ 200 = 1606938044258990275541962092341162602522202993782792835301376 := by decide +kernel
  exact ⟨CMulW.ok (wide_mul (a := 200) (b := 200) (by rw [e]; omega) (by rw [e]; omega) (by decide) (by decide) (by decide))⟩
abbrev gMul := gIIc MulC fun i j => .int (i * j)
theorem opd_mul : OpD X p (binaryOp .Mult) gMul :=
  opd_I (C := MulC) (X := X) (gv := fun i j => .int (i * j)) (opI fun _ _ _ _ _ _ _ hc q => PyProof.Rows.mul_int q hc.ok) (fun _ _ h => h) fun _ _ _ _ _ => .int _
/-- a divisor within bounds -/
structure BD (j : Int) : Prop where
  pos : 0 < j
  few : j.natAbs.log2 < 8990
theorem BD.of {j : Int} (h0 : 0 < j) (h1 : j < 1606938044258990275541962092341162602522202993782792835301376) : BD j := by
  have e : (1606938044258990275541962092341162602522202993782792835301376 : Nat) ≤ 2 ^ 512 := by decide +kernel
  have l : j.natAbs.log2 < 512 := PySem.Flt.log2_lt_of (by decide) (Nat.lt_of_lt_of_le (by omega) e)
  exact ⟨h0, by omega⟩
abbrev gDiv := gIIc (fun _ j => BD j) fun i j => .int (i / j)
theorem opd_div : OpD X p (binaryOp .FloorDiv) gDiv :=
  opd_I op_fdivW (fun i j h => ⟨h.1, by have h2 := h.2; omega⟩) fun _ _ _ _ _ => .int _
abbrev gMod := gIIc (fun _ j => 0 < j) fun i j => .int (i % j)
theorem opd_mod : OpD X p (binaryOp .Mod) gMod := opd_I op_mod (fun _ _ h => h) fun _ _ _ _ _ => .int _
abbrev gPow := gIIc (fun i j => 0 ≤ j ∧ j ≤ 1000000 ∧ -(2 ^ 64) < i ∧ i < 2 ^ 64) fun i j => .int (i ^ j.toNat)
theorem opd_pow : OpD X p (binaryOp .Pow) gPow := opd_I op_pow (fun i j h => ⟨h.1, h.2.1, by have h1 := h.2.2.1; have h2 := h.2.2.2; omega⟩) fun _ _ _ _ _ => .int _
theorem opd_lt : OpD X p (compareOp .Lt) (gII fun i j => .bl (decide (i < j))) := opd_I0 op_lt fun _ _ _ _ => .bl _
theorem opd_le : OpD X p (compareOp .LtE) (gII fun i j => .bl (decide (i ≤ j))) := opd_I0 op_le fun _ _ _ _ => .bl _
theorem opd_gt : OpD X p (compareOp .Gt) (gII fun i j => .bl (decide (j < i))) := opd_I0 op_gt fun _ _ _ _ => .bl _
theorem opd_ge : OpD X p (compareOp .GtE) (gII fun i j => .bl (decide (j ≤ i))) := opd_I0 op_ge fun _ _ _ _ => .bl _

/-! ### data as PyData -/
mutual
def toP : D → PyData
  | .non => .none
  | .bl b => .bool b
  | .int i => .int i
  | .str x => .str x
  | .ty _ => .none
  | .fn _ => .none
  | .pot => .none
  | .own _ => .none
  | .tup l => .tuple (toPs l)
  | .lst l => .list (toPs l)
def toPs : List D → List PyData
  | [] => []
  | d :: l => toP d :: toPs l
end
mutual
def pure? : D → Bool
  | .ty _ => false
  | .fn _ => false
  | .pot => false
  | .own _ => false
  | .tup l => pures? l
  | .lst l => pures? l
  | _ => true
def pures? : List D → Bool
  | [] => true
  | d :: l => pure? d && pures? l
end
theorem Is.dp {K : PySem.W.Frag} {p : Qt} {F : List Addr} {H : Hp} {v : V} {d : D} (h : Is K p F H v d) : pure? d = true → Dp K H v (toP d) :=
  Is.rec (motive_1 := fun v d _ => pure? d = true → Dp K H v (toP d)) (motive_2 := fun vs l _ => pures? l = true → DpAll K H vs (toPs l))
    (fun _ => .non) (fun b _ => .bl b) (fun i _ => .int i) (fun x _ => .str x) (fun _ z => nomatch z) (fun _ z => nomatch z)
    (fun h _ _ ih z => .tup h (ih z)) (fun h _ _ ih z => .lst (Rdl.sq h) (ih z)) (fun z => nomatch z) (fun _ => .nil)
    (fun _ _ i1 i2 z => by
      have z' := Bool.and_eq_true_iff.mp z
      exact .cons (i1 z'.1) (i2 z'.2)) h
-- no text, type or pot in it; at most so deep
mutual
def shp : Nat → D → Bool
  | _, .non => true
  | _, .bl _ => true
  | _, .int _ => true
  | _, .str x => PyData.strOk x
  | n + 1, .tup l => shps n l
  | n + 1, .lst l => shps n l
  | _, _ => false
def shps : Nat → List D → Bool
  | _, [] => true
  | n, d :: l => shp n d && shps n l
end
theorem shp_all : ∀ (n : Nat), (∀ d : D, shp n d = true → pure? d = true ∧ (toP d).canLay0 = true ∧ (toP d).depth ≤ n ∧ (toP d).hasDict = false) ∧
    ∀ l : List D, shps n l = true → pures? l = true ∧ PyData.canLayAll0 (toPs l) = true ∧ PyData.depthAll (toPs l) ≤ n ∧ PyData.hasDictAll (toPs l) = false := by
  have lists : ∀ n, (∀ d : D, shp n d = true → pure? d = true ∧ (toP d).canLay0 = true ∧ (toP d).depth ≤ n ∧ (toP d).hasDict = false) →
      ∀ l : List D, shps n l = true → pures? l = true ∧ PyData.canLayAll0 (toPs l) = true ∧ PyData.depthAll (toPs l) ≤ n ∧ PyData.hasDictAll (toPs l) = false := by
    intro n h l
    induction l with
    | nil => intro _; exact ⟨by simp [pures?], by simp [toPs, PyData.canLayAll0], by simp [toPs, PyData.depthAll], by simp [toPs, PyData.hasDictAll]⟩
    | cons d l ih =>
      intro hl
      rw [shps, Bool.and_eq_true] at hl
      obtain ⟨a1, a2, a3, a4⟩ := h d hl.1
      obtain ⟨b1, b2, b3, b4⟩ := ih hl.2
      refine ⟨by simp [pures?, a1, b1], by simp [toPs, PyData.canLayAll0, a2, b2], ?_, by simp [toPs, PyData.hasDictAll, a4, b4]⟩
      simp only [toPs, PyData.depthAll]
      omega
  intro n
  induction n with
  | zero =>
    have one : ∀ d : D, shp 0 d = true → pure? d = true ∧ (toP d).canLay0 = true ∧ (toP d).depth ≤ 0 ∧ (toP d).hasDict = false := by
      intro d hd
      cases d <;> simp [shp] at hd <;> simp [pure?, toP, PyData.canLay0, PyData.depth, PyData.hasDict, hd]
    exact ⟨one, lists 0 one⟩
  | succ n ih =>
    have one : ∀ d : D, shp (n + 1) d = true → pure? d = true ∧ (toP d).canLay0 = true ∧ (toP d).depth ≤ n + 1 ∧ (toP d).hasDict = false := by
      intro d hd
      cases d with
      | tup l =>
        obtain ⟨b1, b2, b3, b4⟩ := ih.2 l (by simpa [shp] using hd)
        exact ⟨by simp [pure?, b1], by simp [toP, PyData.canLay0, b2], by simp only [toP, PyData.depth]; omega, by simp [toP, PyData.hasDict, b4]⟩
      | lst l =>
        obtain ⟨b1, b2, b3, b4⟩ := ih.2 l (by simpa [shp] using hd)
        exact ⟨by simp [pure?, b1], by simp [toP, PyData.canLay0, b2], by simp only [toP, PyData.depth]; omega, by simp [toP, PyData.hasDict, b4]⟩
      | _ => simp [shp] at hd <;> simp [pure?, toP, PyData.canLay0, PyData.depth, PyData.hasDict, hd]
    exact ⟨one, lists (n + 1) one⟩
theorem shp_shaped {d : D} (h : shp 60 d = true) : pure? d = true ∧ SeqAt.shaped (toP d) = true := by
  obtain ⟨h1, h2, h3, _⟩ := (shp_all 60).1 d h
  exact ⟨h1, by unfold SeqAt.shaped; rw [h2, decide_eq_true (Nat.le_trans h3 (by decide))]; rfl⟩
/-- x == y: scalars exactly; data by eqv -/
def gEq : D → D → (D → Prop) → Prop := fun x y R => match x, y with
  | .int i, .int j => R (.bl (decide (i = j)))
  | .str i, .str j => R (.bl (decide (i = j)))
  | .bl i, .bl j => R (.bl (decide (i = j)))
  | x, y => (shp 60 x = true ∧ shp 60 y = true) ∧ R (.bl (PyData.eqv (toP x) (toP y)))
def gNe : D → D → (D → Prop) → Prop := fun x y R => match x, y with
  | .int i, .int j => R (.bl (!decide (i = j)))
  | .str i, .str j => R (.bl (!decide (i = j)))
  | .bl i, .bl j => R (.bl (!decide (i = j)))
  | x, y => (shp 60 x = true ∧ shp 60 y = true) ∧ R (.bl (!PyData.eqv (toP x) (toP y)))
theorem opd_eq (hu : X.A.units + 64 < cLine) : OpD X p (compareOp .Eq) gEq := by
  refine ⟨_, op_eq.or (op_eqD hu), fun F H x y v u Q R pk ix iy hh q => ?_⟩
  unfold gEq at hh
  split at hh
  · cases ix
    cases iy
    exact .inl ⟨rfl, by simpa using q _ _ H (.refl pk.pk) (.bl _) hh⟩
  · cases ix
    cases iy
    exact .inl ⟨rfl, by simpa using q _ _ H (.refl pk.pk) (.bl _) hh⟩
  · cases ix
    cases iy
    exact .inl ⟨rfl, by simpa using q _ _ H (.refl pk.pk) (.bl _) hh⟩
  · obtain ⟨⟨h1, h2⟩, h5⟩ := hh
    exact .inr ⟨_, _, ix.dp (shp_shaped h1).1, iy.dp (shp_shaped h2).1, (shp_shaped h1).2, (shp_shaped h2).2, q _ _ H (.refl pk.pk) (.bl _) h5⟩
theorem opd_ne (hu : X.A.units + 64 < cLine) : OpD X p (compareOp .NotEq) gNe := by
  refine ⟨_, op_ne.or (op_neD hu), fun F H x y v u Q R pk ix iy hh q => ?_⟩
  unfold gNe at hh
  split at hh
  · cases ix
    cases iy
    exact .inl ⟨rfl, by simpa using q _ _ H (.refl pk.pk) (.bl _) hh⟩
  · cases ix
    cases iy
    exact .inl ⟨rfl, by simpa using q _ _ H (.refl pk.pk) (.bl _) hh⟩
  · cases ix
    cases iy
    exact .inl ⟨rfl, by simpa using q _ _ H (.refl pk.pk) (.bl _) hh⟩
  · obtain ⟨⟨h1, h2⟩, h5⟩ := hh
    exact .inr ⟨_, _, ix.dp (shp_shaped h1).1, iy.dp (shp_shaped h2).1, (shp_shaped h1).2, (shp_shaped h2).2, q _ _ H (.refl pk.pk) (.bl _) h5⟩
def isNon : D → Bool
  | .non => true
  | _ => false
theorem opd_isN : OpD X p (compareOp .Is) (fun x y R => match y with | .non => R (.bl (isNon x)) | _ => False) := by
  refine ⟨_, op_isN, fun F H x y v u Q R pk ix iy hh q => ?_⟩
  cases iy with
  | non =>
    refine ⟨rfl, ?_⟩
    have e : decide (v = V.non) = isNon x := by cases ix <;> rfl
    rw [e]
    exact q _ _ H (.refl pk.pk) (.bl _) hh
  | _ => exact hh.elim
theorem opd_notN : OpD X p (compareOp .IsNot) (fun x y R => match y with | .non => R (.bl (!isNon x)) | _ => False) := by
  refine ⟨_, op_notN, fun F H x y v u Q R pk ix iy hh q => ?_⟩
  cases iy with
  | non =>
    refine ⟨rfl, ?_⟩
    have e : decide (v = V.non) = isNon x := by cases ix <;> rfl
    rw [e]
    exact q _ _ H (.refl pk.pk) (.bl _) hh
  | _ => exact hh.elim
def gNeg : D → (D → Prop) → Prop := fun x R => match x with
  | .int i => R (.int (-i))
  | _ => False
theorem und_neg : UnD X p (unaryOp .USub) gNeg := by
  refine ⟨_, un_neg, fun F H x v Q R pk ix hh q => ?_⟩
  cases ix with
  | int i => exact ⟨i, rfl, q _ _ H (.refl pk.pk) (.int _) hh⟩
  | _ => exact hh.elim

/-! ### subscripts -/
/-- the item at a place -/
def atD (l : List D) (i : Int) : Option D := if 0 ≤ i then l[i.toNat]? else if -(l.length : Int) ≤ i then l[(i + (l.length : Int)).toNat]? else none
theorem atD_at {l : List D} {i : Int} {d : D} (h : atD l i = some d) : L2.atI l i = some d := by
  unfold atD at h
  unfold L2.atI ixN
  by_cases h0 : 0 ≤ i
  · rw [if_pos h0] at h ⊢
    have hl : i.toNat < l.length := (List.getElem?_eq_some_iff.mp h).1
    rw [if_pos (show i < (l.length : Int) by omega)]
    exact h
  · rw [if_neg h0] at h ⊢
    by_cases h1 : -(l.length : Int) ≤ i
    · rw [if_pos h1] at h ⊢
      exact h
    · rw [if_neg h1] at h
      cases h
/-- x[i]: a tuple, a list, the pot -/
def gIx : D → D → (D → Prop) → Prop := fun x y R => match x, y with
  | .tup l, .int i => match atD l i with
    | some d => R d
    | none => False
  | .lst l, .int i => match atD l i with
    | some d => R d
    | none => False
  | .pot, .int i => if i = 0 then ∀ a, 0 ≤ a → R (.int a) else i = 1 ∧ ∀ a, 0 ≤ a → a < 4294967296 → R (.int a)
  | _, _ => False
theorem IsL.atI {K : PySem.W.Frag} {F : List Addr} {H : Hp} {vs : List V} {l : List D} {i : Int} {d : D} (h : IsL K p F H vs l) (e : L2.atI l i = some d) : ∃ v, L2.atI vs i = some v ∧ Is K p F H v d := by
  unfold L2.atI at e ⊢
  rw [h.len]
  cases q : ixN l.length i with
  | none => rw [q] at e; cases e
  | some j =>
    rw [q] at e
    exact h.getD e
theorem pd_ix {a b : Expr} {da db : DE} {pos : Pos} (ha : PD X p a da) (hb : PD X p b db) (hs : PlainIx b := by exact fun _ _ => rfl) : PD X p (.Subscript a b pos) (dOp gIx da db) := by
  obtain ⟨ta, a1, a2⟩ := ha.run
  obtain ⟨tb, b1, b2⟩ := hb.run
  refine ⟨_, pe_ix ix_seq a1 b1 hs, op_run (fun F H x y v u Q R pk ix iy hh q => ?_) a2 b2⟩
  unfold gIx at hh
  split at hh
  · cases iy
    cases ix with
    | tup hs hn hl =>
      split at hh
      · rename_i d e
        obtain ⟨w, e1, e2⟩ := hl.atI (atD_at e)
        exact .inr (.inl ⟨_, _, _, w, rfl, rfl, hs, e1, q _ _ H (.refl pk.pk) e2 hh⟩)
      · exact hh.elim
  · cases iy
    cases ix with
    | lst hs hn hl =>
      split at hh
      · rename_i d e
        obtain ⟨w, e1, e2⟩ := hl.atI (atD_at e)
        exact .inl ⟨_, _, _, w, rfl, rfl, (Rdl.sq hs), e1, q _ _ H (.refl pk.pk) e2 hh⟩
      · exact hh.elim
  · cases iy
    cases ix
    obtain ⟨m, n, p0, p1, p2, hp⟩ := pk.pk.at_
    split at hh
    · rename_i e0
      subst e0
      exact .inl ⟨p.pot, _, 0, .int m, rfl, rfl, SqL.of hp, rfl, q _ _ H (.refl pk.pk) (.int m) (hh m p0)⟩
    · obtain ⟨rfl, hh⟩ := hh
      exact .inl ⟨p.pot, _, 1, .int n, rfl, rfl, SqL.of hp, rfl, q _ _ H (.refl pk.pk) (.int n) (hh n p1 p2)⟩
  · exact hh.elim

/-! ### built-ins -/
def cLen : List D → (D → Prop) → Prop := fun xs R => match xs with
  | [.tup l] => R (.int l.length)
  | [.lst l] => R (.int l.length)
  | _ => False
theorem cd_len : CallD X p (.builtin "len") cLen := by
  refine ⟨_, call_len_seq, fun F H xs vs Q R pk ix hh q => ?_⟩
  unfold cLen at hh
  split at hh
  · cases ix with
    | cons i1 i2 =>
      cases i2
      cases i1 with
      | tup hs hn hl => exact ⟨_, _, rfl, .inr hs, by rw [hl.len]; exact q _ _ H (.refl pk.pk) (.int _) hh⟩
  · cases ix with
    | cons i1 i2 =>
      cases i2
      cases i1 with
      | lst hs hn hl => exact ⟨_, _, rfl, .inl (Rdl.sq hs), by rw [hl.len]; exact q _ _ H (.refl pk.pk) (.int _) hh⟩
  · exact hh.elim
def cI1 (g : Int → D) : List D → (D → Prop) → Prop := fun xs R => match xs with
  | [.int i] => R (g i)
  | _ => False
def cI2 (C : Int → Int → Prop) (g : Int → Int → D) : List D → (D → Prop) → Prop := fun xs R => match xs with
  | [.int i, .int j] => C i j ∧ R (g i j)
  | _ => False
theorem cI1_of {f : Value} {r : List V → Hp → VK → Prop} {g : Int → D} (hr : CallR X f r) (h : ∀ i F H Q, PkF p F H → (∀ v' H', Ex p H H' → Is X.K p F H' v' (g i) → Q v' H') → r [.int i] H Q) : CallD X p f (cI1 g) := by
  refine ⟨_, hr, fun F H xs vs Q R pk ix hh q => ?_⟩
  unfold cI1 at hh
  split at hh
  · cases ix with
    | cons i1 i2 =>
      cases i2
      cases i1
      exact h _ F H Q pk fun v' H' e i => q _ v' H' e i hh
  · exact hh.elim
theorem cI2_of {f : Value} {r : List V → Hp → VK → Prop} {C : Int → Int → Prop} {g : Int → Int → D} (hr : CallR X f r) (h : ∀ i j F H Q, C i j → PkF p F H → (∀ v' H', Ex p H H' → Is X.K p F H' v' (g i j) → Q v' H') → r [.int i, .int j] H Q) : CallD X p f (cI2 C g) := by
  refine ⟨_, hr, fun F H xs vs Q R pk ix hh q => ?_⟩
  unfold cI2 at hh
  split at hh
  · cases ix with
    | cons i1 i2 =>
      cases i2 with
      | cons i2 i3 =>
        cases i3
        cases i1
        cases i2
        exact h _ _ F H Q hh.1 pk fun v' H' e i => q _ v' H' e i hh.2
  · exact hh.elim
theorem cd_abs : CallD X p (.builtin "abs") (cI1 fun i => .int (i.natAbs : Int)) := cI1_of call_abs fun i F H Q pk q => ⟨i, rfl, by
  have e : (if i < 0 then -i else i) = (i.natAbs : Int) := by split <;> omega
  rw [e]
  exact q _ H (.refl pk.pk) (.int _)⟩
def cInt : List D → (D → Prop) → Prop := fun xs R => match xs with
  | [.int i] => R (.int i)
  | [.bl b] => R (.int (if b = true then 1 else 0))
  | _ => False
theorem cd_int : CallD X p (.type "int") cInt := by
  refine ⟨_, call_int1, fun F H xs vs Q R pk ix hh q => ?_⟩
  unfold cInt at hh
  split at hh
  · cases ix with
    | cons i1 i2 =>
      cases i2
      cases i1
      exact .inl ⟨_, rfl, q _ _ H (.refl pk.pk) (.int _) hh⟩
  · cases ix with
    | cons i1 i2 =>
      cases i2
      cases i1
      exact .inr ⟨_, rfl, q _ _ H (.refl pk.pk) (.int _) hh⟩
  · exact hh.elim
theorem cd_divmod : CallD X p (.builtin "divmod") (cI2 (fun _ j => BD j) fun i j => .tup [.int (i / j), .int (i % j)]) := cI2_of call_divmodW fun i j F H Q hc pk q => by
  refine ⟨i, j, rfl, ⟨hc.1, ?_⟩, fun a ha => ?_⟩
  · have hj : j.natAbs.log2 < 8990 := hc.2
    show (decide ((if j == 0 then 0 else j.natAbs.log2 / 30 + 1) > 300) && _) = false
    rw [decide_eq_false (by split <;> omega), Bool.false_and]
  · have e := Ex.new (o := .tup [.int (i / j), .int (i % j)]) pk.pk ha
    exact q _ _ e (.tup (SqT.of upd_same) (pk.ne ha) (.cons (.int _) (.cons (.int _) .nil)))
/-- max, min: two ints, a list of ints -/
def intsOf : List D → Option (List Int)
  | [] => some []
  | .int i :: l => (intsOf l).map (i :: ·)
  | _ => none
theorem intsOf_eq : ∀ {l : List D} {ns : List Int}, intsOf l = some ns → l = ns.map D.int
  | [], ns, h => by cases h; rfl
  | .int i :: l, ns, h => by
    unfold intsOf at h
    cases q : intsOf l with
    | none => rw [q] at h; cases h
    | some ms =>
      rw [q] at h
      cases h
      rw [intsOf_eq q]
      rfl
def boolsOf : List D → Option (List Bool)
  | [] => some []
  | .bl i :: l => (boolsOf l).map (i :: ·)
  | _ => none
theorem boolsOf_eq : ∀ {l : List D} {ns : List Bool}, boolsOf l = some ns → l = ns.map D.bl
  | [], ns, h => by cases h; rfl
  | .bl i :: l, ns, h => by
    unfold boolsOf at h
    cases q : boolsOf l with
    | none => rw [q] at h; cases h
    | some ms =>
      rw [q] at h
      cases h
      rw [boolsOf_eq q]
      rfl
def maxL : Int → List Int → Int
  | a, [] => a
  | a, b :: l => maxL (max a b) l
def minL : Int → List Int → Int
  | a, [] => a
  | a, b :: l => minL (min a b) l
theorem maxL_ge : ∀ (l : List Int) (a : Int), a ≤ maxL a l ∧ ∀ y ∈ l, y ≤ maxL a l
  | [], a => ⟨Int.le_refl _, fun y h => by cases h⟩
  | b :: l, a => by
    obtain ⟨h1, h2⟩ := maxL_ge l (max a b)
    refine ⟨by show a ≤ maxL (max a b) l; omega, fun y hy => ?_⟩
    rcases List.mem_cons.mp hy with e | e
    · subst e
      show y ≤ maxL (max a y) l
      omega
    · exact h2 y e
theorem maxL_mem : ∀ (l : List Int) (a : Int), maxL a l = a ∨ maxL a l ∈ l
  | [], a => .inl rfl
  | b :: l, a => by
    show maxL (max a b) l = a ∨ maxL (max a b) l ∈ b :: l
    rcases maxL_mem l (max a b) with e | e
    · rw [e]
      by_cases h : a ≤ b
      · exact .inr (by rw [Int.max_eq_right h]; exact List.mem_cons_self)
      · exact .inl (Int.max_eq_left (by omega))
    · exact .inr (List.mem_cons_of_mem _ e)
theorem minL_le : ∀ (l : List Int) (a : Int), minL a l ≤ a ∧ ∀ y ∈ l, minL a l ≤ y
  | [], a => ⟨Int.le_refl _, fun y h => by cases h⟩
  | b :: l, a => by
    obtain ⟨h1, h2⟩ := minL_le l (min a b)
    refine ⟨by show minL (min a b) l ≤ a; omega, fun y hy => ?_⟩
    rcases List.mem_cons.mp hy with e | e
    · subst e
      show minL (min a y) l ≤ y
      omega
    · exact h2 y e
theorem minL_mem : ∀ (l : List Int) (a : Int), minL a l = a ∨ minL a l ∈ l
  | [], a => .inl rfl
  | b :: l, a => by
    show minL (min a b) l = a ∨ minL (min a b) l ∈ b :: l
    rcases minL_mem l (min a b) with e | e
    · rw [e]
      by_cases h : a ≤ b
      · exact .inl (Int.min_eq_left h)
      · exact .inr (by rw [Int.min_eq_right (by omega)]; exact List.mem_cons_self)
    · exact .inr (List.mem_cons_of_mem _ e)
def cMax : List D → (D → Prop) → Prop := fun xs R => match xs with
  | [.int i, .int j] => R (.int (max i j))
  | [.lst l] => match intsOf l with
    | some (n :: ns) => R (.int (maxL n ns))
    | _ => False
  | _ => False
def cMin : List D → (D → Prop) → Prop := fun xs R => match xs with
  | [.int i, .int j] => R (.int (min i j))
  | [.lst l] => match intsOf l with
    | some (n :: ns) => R (.int (minL n ns))
    | _ => False
  | _ => False
theorem cd_max (hc : X.calm = true) : CallD X p (.builtin "max") cMax := by
  refine ⟨_, (call_max2 hc).or (cr_max hc), fun F H xs vs Q R pk ix hh q => ?_⟩
  unfold cMax at hh
  split at hh
  · rename_i i j
    cases ix with
    | cons i1 i2 =>
      cases i2 with
      | cons i2 i3 =>
        cases i3
        cases i1
        cases i2
        have e : (if j > i then j else i) = max i j := by split <;> omega
        exact .inl ⟨i, j, rfl, by rw [e]; exact q _ _ H (.refl pk.pk) (.int _) hh⟩
  · split at hh
    · rename_i l n ns e
      cases ix with
      | cons i1 i2 =>
        cases i2
        cases i1 with
        | lst hs hn hl =>
          rw [intsOf_eq e] at hl
          rw [hl.ints] at hs
          refine .inr ⟨_, n :: ns, rfl, (Rdl.sq hs), by simp, fun m hm hall => ?_⟩
          have em : m = maxL n ns := by
            have h1 : m ≤ maxL n ns := by
              rcases List.mem_cons.mp hm with e | e
              · rw [e]; exact (maxL_ge ns n).1
              · exact (maxL_ge ns n).2 m e
            have h2 : maxL n ns ≤ m := hall _ (by
              rcases maxL_mem ns n with e | e
              · rw [e]; exact List.mem_cons_self
              · exact List.mem_cons_of_mem _ e)
            omega
          subst em
          exact q _ _ H (.refl pk.pk) (.int _) hh
    · exact hh.elim
  · exact hh.elim
theorem cd_min (hc : X.calm = true) : CallD X p (.builtin "min") cMin := by
  refine ⟨_, (call_min2 hc).or (cr_min hc), fun F H xs vs Q R pk ix hh q => ?_⟩
  unfold cMin at hh
  split at hh
  · rename_i i j
    cases ix with
    | cons i1 i2 =>
      cases i2 with
      | cons i2 i3 =>
        cases i3
        cases i1
        cases i2
        have e : (if j < i then j else i) = min i j := by split <;> omega
        exact .inl ⟨i, j, rfl, by rw [e]; exact q _ _ H (.refl pk.pk) (.int _) hh⟩
  · split at hh
    · rename_i l n ns e
      cases ix with
      | cons i1 i2 =>
        cases i2
        cases i1 with
        | lst hs hn hl =>
          rw [intsOf_eq e] at hl
          rw [hl.ints] at hs
          refine .inr ⟨_, n :: ns, rfl, (Rdl.sq hs), by simp, fun m hm hall => ?_⟩
          have em : m = minL n ns := by
            have h1 : minL n ns ≤ m := by
              rcases List.mem_cons.mp hm with e | e
              · rw [e]; exact (minL_le ns n).1
              · exact (minL_le ns n).2 m e
            have h2 : m ≤ minL n ns := hall _ (by
              rcases minL_mem ns n with e | e
              · rw [e]; exact List.mem_cons_self
              · exact List.mem_cons_of_mem _ e)
            omega
          subst em
          exact q _ _ H (.refl pk.pk) (.int _) hh
    · exact hh.elim
  · exact hh.elim
def cAll : List D → (D → Prop) → Prop := fun xs R => match xs with
  | [.lst l] => match boolsOf l with
    | some bs => R (.bl (bs.all id))
    | _ => False
  | _ => False
def cAny : List D → (D → Prop) → Prop := fun xs R => match xs with
  | [.lst l] => match boolsOf l with
    | some bs => R (.bl (bs.any id))
    | _ => False
  | _ => False
theorem cd_all (hc : X.calm = true) : CallD X p (.builtin "all") cAll := by
  refine ⟨_, cr_all hc, fun F H xs vs Q R pk ix hh q => ?_⟩
  unfold cAll at hh
  split at hh
  · split at hh
    · rename_i l bs e
      cases ix with
      | cons i1 i2 =>
        cases i2
        cases i1 with
        | lst hs hn hl =>
          rw [boolsOf_eq e] at hl
          rw [hl.bools] at hs
          exact ⟨_, bs, rfl, (Rdl.sq hs), q _ _ H (.refl pk.pk) (.bl _) hh⟩
    · exact hh.elim
  · exact hh.elim
theorem cd_any (hc : X.calm = true) : CallD X p (.builtin "any") cAny := by
  refine ⟨_, cr_any hc, fun F H xs vs Q R pk ix hh q => ?_⟩
  unfold cAny at hh
  split at hh
  · split at hh
    · rename_i l bs e
      cases ix with
      | cons i1 i2 =>
        cases i2
        cases i1 with
        | lst hs hn hl =>
          rw [boolsOf_eq e] at hl
          rw [hl.bools] at hs
          exact ⟨_, bs, rfl, (Rdl.sq hs), q _ _ H (.refl pk.pk) (.bl _) hh⟩
    · exact hh.elim
  · exact hh.elim
end
end DL
/-! Defs where no repr is under way; their calls; the end of a law. -/
namespace DL
open PySem PySem.Spec L2
open PyProof.Rows hiding St

/-- a def's promise where no container is being shown -/
structure FnG (P : Program) (w : World) (K : PySem.W.Frag) (mg : Str → Option Value) (base : Heap) (CX : CXT) (k : Nat) (f : Addr) (fd : FuncData) (ps : List Str) (sp : Sp) : Prop where
  len : ∀ vs H Q E, sp vs H Q E → vs.length = ps.length
  go : ∀ (A : Around) (outer : List Env) (s : Shared) (H : Hp) (args : Args) (us : List Value) (vs : List V) (Q : VK) (E : XK), A.guards = some [] → Room k A → Env0 P w K mg base A outer s H →
    BindsTo s fd args (ps.zip us) → Vals vs us → sp vs H Q E → codeAny (model P w) A (.call (.ref f) args) (CR CX outer P w H s Q E) s
section
variable {P : Program} {w : World} {K : PySem.W.Frag} {mg : Str → Option Value} {base : Heap} {CX : CXT} {k : Nat} {f : Addr} {fd : FuncData} {ps : List Str} {sp : Sp}
theorem FnG.weak {j : Nat} (F : FnG P w K mg base CX k f fd ps sp) (h : k ≤ j) : FnG P w K mg base CX j f fd ps sp :=
  ⟨F.len, fun A outer s H args us vs Q E g r => F.go A outer s H args us vs Q E g (r.mono h)⟩
/-- from the body -/
theorem funG {x qual : Str} {st : Stmt} {N : List Str} (F : Fun K x qual st f fd) (S : FnScope N ps (defScope st)) (hlen : ∀ vs H Q E, sp vs H Q E → vs.length = ps.length)
    (body : ∀ (cdv : Value) (A : Around) (outer : List Env) (s : Shared) (H : Hp) (vs : List V) (Q : VK) (E : XK), fd.code = cdv → A.guards = some [] → (∀ a o, K.lookup a = some o → H a = none) → Room k (A.deeper (envOfC qual (defScope st) s.heap.objs.size f cdv)) → sp vs H Q E →
      ∃ t, PSs (cxOf CX P w K mg base N qual (defScope st) f cdv A outer s H E) (defBody st) t ∧ t { nx := fun _ H' => Q .non H', rt := Q } (L2.start N vs) H) : FnG P w K mg base CX (k + 1) f fd ps sp := by
  obtain ⟨oc, od, kV, doc, pm, an, cdv, ct, osl, rfl, lk, hcd⟩ := F.ex
  refine ⟨hlen, fun A outer s H args us vs Q E hg room ev bnd rel prom => ?_⟩
  have inK : K.In s.heap := ev.mod.kin.keeps fun b o q => And.left (ev.bs b o q)
  have lims : s.heap.NoLimit := ev.mod.nolimit.keeps fun b o q => And.left (ev.bs b o q)
  have kinds : ∀ y ∈ ps.zip us, (defScope st).names.lookup y.1 = some .local ∨ ((defScope st).names.lookup y.1 = some .cell ∧ ((cellsFrom (s.heap.objs.size + 1) (defScope st).names []).lookup y.1).isSome = true) := by
    rintro ⟨n, v⟩ hy
    exact (S.par n (And.left (List.of_mem_zip hy))).elim .inl fun q => .inr ⟨q, PySem.W.cellsFrom_some _ _ _ (Or.inl q)⟩
  refine codeAny_call_function room.depth (inK f _ lk) rfl S.co S.gen rfl (PySem.W.codeRec_of inK hcd) (bnd _ _ _ _ (wpAny_newFunctionEnv_cells S.kind kinds ?_))
  intro env0 hE s1 ent
  subst hE
  refine ⟨lims.keeps ent.toInCall.keep, codeAny_func ?_⟩
  obtain ⟨t, ht, q⟩ := body cdv A outer s H vs Q E rfl hg (fun a o lo => (ev.bs a o (ev.mod.kin a o lo)).2) (room.deeper _) prom
  have J := inv_start (CX := CX) (N := N) (E := E) S room.hd ev (hlen _ _ _ _ prom) rel ent
  refine wpAny_mono (ht.run [] s1 (L2.start N vs) H _ J q) ?_ fun _ _ z => z
  rintro (_ | u | _ | _) s' ho
  · obtain ⟨σ', H', J', q'⟩ := ho
    exact ⟨V.non, H', J'.os, J'.bare, J'.base, J'.hok, rfl, q'⟩
  · first
      | (obtain ⟨_, _, _, z⟩ := ho; exact (show False from z).elim)
      | (obtain ⟨v, σ', H', J', rv, q'⟩ := ho; exact ⟨v, H', J'.os, J'.bare, J'.base, J'.hok, rv, q'⟩)
  · first
      | (obtain ⟨_, _, _, z⟩ := ho; exact (show False from z).elim)
      | (obtain ⟨v, σ', H', J', rv, q'⟩ := ho; exact ⟨v, H', J'.os, J'.bare, J'.base, J'.hok, rv, q'⟩)
  · first
      | (obtain ⟨_, _, _, z⟩ := ho; exact (show False from z).elim)
      | (obtain ⟨v, σ', H', J', rv, q'⟩ := ho; exact ⟨v, H', J'.os, J'.bare, J'.base, J'.hok, rv, q'⟩)
end

/-- how written arguments (us, and ws by the names ks) come to the parameters -/
def BindK (K : PySem.W.Frag) (fd : FuncData) (ps ks : List Str) (n : Nat) (perm : List Nat) : Prop :=
  ∀ (s : Shared) (us ws : List Value), K.In s.heap → us.length = n → ws.length = ks.length → ∃ zs : List Value, BindsTo s fd ⟨us, ks.zip ws⟩ (ps.zip zs) ∧ zs.length = ps.length ∧ perm.length = ps.length ∧ ∀ (i j : Nat), perm[i]? = some j → zs[i]? = (us ++ ws)[j]? ∧ j < (us ++ ws).length
section
variable {X : Cx} {CX : CXT} {k n : Nat} {f : Addr} {fd : FuncData} {ps ks : List Str} {sp : Sp} {E : XK} {x : Str} {q pos : Pos} {e : Expr} {es : List Expr} {kws : List Keyword} {t tk : TA}
/-- the callee runs -/
theorem goG {pins : List (Addr × Obj)} {σ : L2.St} {H : Hp} {s : Shared} {Q : VK} {args : Args} {us : List Value} {vs : List V} (F : FnG X.prog X.w X.K X.mg X.base CX k f fd ps sp) (hg : X.A.guards = some []) (hr : Room k X.A) (hx : Passes CX X E)
    (I : Inv X pins σ H s) (hb : BindsTo s fd args (ps.zip us)) (r : Vals vs us) (h : sp vs H Q E) : wpAny (model X.prog X.w) X.A (call (.ref f) args.pos args.kw) (EP X pins σ Q) X.xe s := by
  refine wpAny_call (codeAny_mono (F.go X.A X.stack s H args us vs Q E hg hr I.env0 hb r h) ?_)
  intro res s' out
  match res, out with
  | .error v, o => exact hx pins σ H s v s' I o
  | .ok (.ret u), o => exact I.after o
  | .ok .next, o => exact False.elim o
  | .ok .brk, o => exact False.elim o
  | .ok .cont, o => exact False.elim o
theorem pe_callG (F : FnG X.prog X.w X.K X.mg X.base CX k f fd ps sp) (hgu : X.A.guards = some []) (hr : Room k X.A) (hx : Passes CX X E) (hg : Gl X x) (hm : X.mg x = some (.ref f)) (hk : PySem.W.keepIn X.K (.ref f) = true) (hb : Binds X.K fd ps [])
    (ha : PA X (e :: es) t) (hdb : (x == ("__debug__" : Str)) = false := by decide) (he : starEach (e :: es) X.env = (false, eval e X.env) :: starEach es X.env := by rfl) (hpl : (backTo pos (starEach es X.env)).any (·.1) = false := by rfl) :
    PE X (.Call (.Name x q) (e :: es) [] pos) (fun σ H Q => t σ H fun vs H1 => sp vs H1 Q E) := by
  refine ⟨fun pins s σ H Q I h => wpAny_Call_Name_kw (ld_glob I hg hm ?_ hdb)⟩
  refine PySem.W.callWith_K (h₀ := X.base) I.ok.mod.kin hk (thn (ha.run pos pins s σ H _ I h) ?_) he hpl
  rintro us s1 ⟨vs, H1, I1, r, z⟩
  have hl : (us ++ []).length = ps.length := by rw [List.append_nil, ← r.length]; exact F.len _ _ _ _ z
  have b := hb s1 us I1.kIn hl
  rw [List.append_nil] at b
  exact ⟨I1.kIn, goG (args := ⟨us, []⟩) F hgu hr hx I1 b r z⟩
theorem pe_callG0 (F : FnG X.prog X.w X.K X.mg X.base CX k f fd ps sp) (hgu : X.A.guards = some []) (hr : Room k X.A) (hx : Passes CX X E) (hg : Gl X x) (hm : X.mg x = some (.ref f)) (hk : PySem.W.keepIn X.K (.ref f) = true) (hb : Binds X.K fd ps [])
    (hdb : (x == ("__debug__" : Str)) = false := by decide) : PE X (.Call (.Name x q) [] [] pos) (fun _ H Q => sp [] H Q E) := by
  refine ⟨fun pins s σ H Q I z => wpAny_Call_Name_kw (ld_glob I hg hm ?_ hdb)⟩
  have hl : (([] : List Value) ++ []).length = ps.length := F.len _ _ _ _ z
  exact PySem.W.callWith_K0 I.kIn hk (goG (args := ⟨[], []⟩) F hgu hr hx I (hb s [] I.kIn hl) .nil z)
/-- the arguments put in the parameters' order -/
def ordV (perm : List Nat) (vs : List V) : List V := perm.map fun j => vs.getD j .non
theorem ordV_rel {perm : List Nat} {vs : List V} {us zs : List Value} (r : Vals vs us) (hl : perm.length = zs.length) (h : ∀ (i j : Nat), perm[i]? = some j → zs[i]? = us[j]? ∧ j < us.length) : Vals (ordV perm vs) zs := by
  unfold ordV
  induction perm generalizing zs with
  | nil =>
    cases zs with
    | nil => exact .nil
    | cons _ _ => simp at hl
  | cons j perm ih =>
    cases zs with
    | nil => simp at hl
    | cons z zs =>
      refine .cons ?_ (ih (by simpa using hl) fun i j' e => by simpa using h (i + 1) j' (by simpa using e))
      obtain ⟨h1, h2⟩ := h 0 j rfl
      obtain ⟨u, hu⟩ : ∃ u, us[j]? = some u := ⟨us[j], by simp [h2]⟩
      have e1 : z = u := by
        rw [hu] at h1
        simpa using h1
      have h3 : j < vs.length := by rw [r.length]; exact h2
      obtain ⟨u', g1, g2⟩ := r.get (i := j) (x := vs[j]) (by simp [h3])
      rw [hu] at g1
      cases g1
      rw [e1]
      show RelV (vs.getD j .non) u
      rw [List.getD_eq_getElem?_getD, List.getElem?_eq_getElem h3]
      exact g2
theorem pe_callGK (F : FnG X.prog X.w X.K X.mg X.base CX k f fd ps sp) (hgu : X.A.guards = some []) (hr : Room k X.A) (hx : Passes CX X E) (hg : Gl X x) (hm : X.mg x = some (.ref f)) (hk : PySem.W.keepIn X.K (.ref f) = true) {perm : List Nat} (hb : BindK X.K fd ps ks (es.length + 1) perm)
    (ha : PA X (e :: es) t) (hkw : PK X kws tk) (hall : (backToKw pos (keywordEach kws X.env)).all (·.1.isSome) = true := by rfl) (hks : (backToKw pos (keywordEach kws X.env)).filterMap (·.1) = ks := by rfl)
    (hdb : (x == ("__debug__" : Str)) = false := by decide) (he : starEach (e :: es) X.env = (false, eval e X.env) :: starEach es X.env := by rfl)
    (hpl : ((backTo pos (starEach (e :: es) X.env)).any (·.1) || (backToKw pos (keywordEach kws X.env)).any (·.1.isNone)) = false := by rfl) :
    PE X (.Call (.Name x q) (e :: es) kws pos) (fun σ H Q => t σ H fun vs H1 => tk σ H1 fun ws H2 => vs.length = es.length + 1 ∧ ws.length = ks.length ∧ sp (ordV perm (vs ++ ws)) H2 Q E) := by
  refine ⟨fun pins s σ H Q I h => wpAny_Call_Name_kw (ld_glob I hg hm ?_ hdb)⟩
  refine PySem.W.callWith_KW (h₀ := X.base) I.ok.mod.kin hk hall (thn (ha.run pos pins s σ H _ I h) ?_) hpl he
  rintro us s1 ⟨vs, H1, I1, r, h⟩
  refine thn (hkw.run pos pins s1 σ H1 _ I1 h) ?_
  rintro ws s2 ⟨zs, H2, I2, r2, l1, l2, z⟩
  rw [hks]
  obtain ⟨os, b1, b2, b3, b4⟩ := hb s2 us ws I2.kIn (by rw [← r.length]; exact l1) (by rw [← r2.length]; exact l2)
  exact ⟨I2.kIn, goG (args := ⟨us, ks.zip ws⟩) F hgu hr hx I2 b1 (ordV_rel (r.append r2) (by rw [b3, b2]) b4) z⟩
theorem pe_callGK0 (F : FnG X.prog X.w X.K X.mg X.base CX k f fd ps sp) (hgu : X.A.guards = some []) (hr : Room k X.A) (hx : Passes CX X E) (hg : Gl X x) (hm : X.mg x = some (.ref f)) (hk : PySem.W.keepIn X.K (.ref f) = true) {perm : List Nat} (hb : BindK X.K fd ps ks 0 perm)
    (hkw : PK X kws tk) (hall : (backToKw pos (keywordEach kws X.env)).all (·.1.isSome) = true := by rfl) (hks : (backToKw pos (keywordEach kws X.env)).filterMap (·.1) = ks := by rfl)
    (hdb : (x == ("__debug__" : Str)) = false := by decide)
    (hpl : ((backTo pos (starEach [] X.env)).any (·.1) || (backToKw pos (keywordEach kws X.env)).any (·.1.isNone)) = false := by rfl) :
    PE X (.Call (.Name x q) [] kws pos) (fun σ H Q => tk σ H fun ws H2 => ws.length = ks.length ∧ sp (ordV perm ws) H2 Q E) := by
  refine ⟨fun pins s σ H Q I h => wpAny_Call_Name_kw (ld_glob I hg hm ?_ hdb)⟩
  refine PySem.W.callWith_KW0 (h₀ := X.base) I.ok.mod.kin hk hall (thn (hkw.run pos pins s σ H _ I h) ?_) hpl
  rintro ws s2 ⟨zs, H2, I2, r2, l2, z⟩
  rw [hks]
  obtain ⟨os, b1, b2, b3, b4⟩ := hb s2 [] ws I2.kIn rfl (by rw [← r2.length]; exact l2)
  exact ⟨I2.kIn, goG (args := ⟨[], ks.zip ws⟩) F hgu hr hx I2 b1 (ordV_rel r2 (by rw [b3, b2]) b4) z⟩
end

/-! ### the same on data -/
section
variable {X : Cx} {p : Qt} {pos q : Pos} {e : Expr} {es : List Expr} {kws : List Keyword} {ds dk : DA} {k n : Nat} {f : Addr} {fd : FuncData} {ps ks : List Str} {sp : SpD} {x : Str}
theorem pdc (F : FnG X.prog X.w X.K X.mg X.base CX0 k f fd ps (toSp X.K p.tf n sp)) (hgu : X.A.guards = some []) (hr : Room k X.A) (hm : X.mg x = some (.ref f)) (hk : PySem.W.keepIn X.K (.ref f) = true) (hb : Binds X.K fd ps [])
    (ha : PDA X p (e :: es) ds) (hg : Gl X x := by rfl) (hn : (e :: es).length = n := by rfl) (hdb : (x == ("__debug__" : Str)) = false := by decide) (he : starEach (e :: es) X.env = (false, eval e X.env) :: starEach es X.env := by rfl) (hpl : (backTo pos (starEach es X.env)).any (·.1) = false := by rfl) :
    PD X p (.Call (.Name x q) (e :: es) [] pos) (dB sp ds) := by
  obtain ⟨t, h1, h2⟩ := ha.run
  refine ⟨_, pe_callG F hgu hr pass0 hg hm hk hb h1 hdb he hpl, fun g0 F σ H τ Q R rel h q => ?_⟩
  refine h2 g0 F σ H τ _ _ rel h fun xs vs H1 e1 i1 l1 h1 => ?_
  exact ⟨by rw [l1]; exact hn, p.pot, F, xs, R, (rel.st e1).pkf, i1, h1, fun z v' H' e i r => q z v' H' (e1.trans e) i r⟩
theorem pdc0 (F : FnG X.prog X.w X.K X.mg X.base CX0 k f fd ps (toSp X.K p.tf 0 sp)) (hgu : X.A.guards = some []) (hr : Room k X.A) (hm : X.mg x = some (.ref f)) (hk : PySem.W.keepIn X.K (.ref f) = true) (hb : Binds X.K fd ps [])
    (hg : Gl X x := by rfl) (hdb : (x == ("__debug__" : Str)) = false := by decide) : PD X p (.Call (.Name x q) [] [] pos) (dB sp dNil) := by
  refine ⟨_, pe_callG0 F hgu hr pass0 hg hm hk hb hdb, fun g0 F σ H τ Q R rel h q => ?_⟩
  exact ⟨rfl, p.pot, F, [], R, rel.pkf, .nil, h, q⟩
structure PDK (X : Cx) (p : Qt) (kws : List Keyword) (d : DA) : Prop where
  run : ∃ t, PK X kws t ∧ ∀ (g0 : Gd) (F : List Addr) (σ : L2.St) (H : Hp) (τ : Sl) (Q : List V → Hp → Prop) (R : List D → Prop), Rel X.K p g0 F σ H τ → d τ R → (∀ xs vs H', Ex p H H' → IsL X.K p F H' vs xs → vs.length = kws.length → R xs → Q vs H') → t σ H Q
theorem pdk_nil : PDK X p [] dNil := ⟨_, pk_nil, fun g0 F σ H τ Q R rel h q => q [] [] H (.refl rel.pk) .nil rfl h⟩
theorem pdk_cons {nm : Option Str} {da : DE} {kpos : Pos} (ha : PD X p e da) (hr : PDK X p kws dk) : PDK X p (⟨nm, e, kpos⟩ :: kws) (dCons da dk) := by
  obtain ⟨t, h1, h2⟩ := ha.run
  obtain ⟨u, k1, k2⟩ := hr.run
  refine ⟨_, pk_cons h1 k1, fun g0 F σ H τ Q R rel h q => ?_⟩
  refine h2 g0 F σ H τ _ _ rel h fun xs vs H1 e1 i1 h1 => ?_
  exact k2 g0 F σ H1 τ _ _ (rel.st e1) h1 fun xs vs H2 e2 i2 l2 h2 => q _ _ H2 (e1.trans e2) (.cons (i1.mono e2.kp) i2) (by simp [l2]) h2
def ordD (perm : List Nat) (xs : List D) : List D := perm.map fun j => xs.getD j .non
theorem ord_is {K : PySem.W.Frag} {F : List Addr} {H : Hp} {vs : List V} {xs : List D} (h : IsL K p F H vs xs) : ∀ {perm : List Nat}, (∀ j ∈ perm, j < vs.length) → IsL K p F H (ordV perm vs) (ordD perm xs)
  | [], _ => .nil
  | j :: perm, a => by
    refine .cons ?_ (ord_is (perm := perm) h fun i hi => a i (List.mem_cons_of_mem _ hi))
    have hj := a j List.mem_cons_self
    have hj2 : j < xs.length := by rw [← h.len]; exact hj
    obtain ⟨d, e1, e2⟩ := h.get (i := j) (v := vs[j]) (by simp [hj])
    show Is K p F H (vs.getD j .non) (xs.getD j .non)
    rw [List.getD_eq_getElem?_getD, List.getElem?_eq_getElem hj, List.getD_eq_getElem?_getD, e1]
    exact e2
def dBK (sp : SpD) (perm : List Nat) (ds dk : DA) : DE := fun τ R => ds τ fun xs => dk τ fun ys => sp (ordD perm (xs ++ ys)) R
theorem pdcK {perm : List Nat} (F : FnG X.prog X.w X.K X.mg X.base CX0 k f fd ps (toSp X.K p.tf n sp)) (hgu : X.A.guards = some []) (hr : Room k X.A) (hm : X.mg x = some (.ref f)) (hk : PySem.W.keepIn X.K (.ref f) = true) (hb : BindK X.K fd ps ks (es.length + 1) perm)
    (ha : PDA X p (e :: es) ds) (hkw : PDK X p kws dk) (hn : perm.length = n := by rfl) (hp : ∀ j ∈ perm, j < es.length + 1 + kws.length := by decide) (hlk : kws.length = ks.length := by rfl) (hg : Gl X x := by rfl) (hall : (backToKw pos (keywordEach kws X.env)).all (·.1.isSome) = true := by rfl) (hks : (backToKw pos (keywordEach kws X.env)).filterMap (·.1) = ks := by rfl)
    (hdb : (x == ("__debug__" : Str)) = false := by decide) (he : starEach (e :: es) X.env = (false, eval e X.env) :: starEach es X.env := by rfl)
    (hpl : ((backTo pos (starEach (e :: es) X.env)).any (·.1) || (backToKw pos (keywordEach kws X.env)).any (·.1.isNone)) = false := by rfl) :
    PD X p (.Call (.Name x q) (e :: es) kws pos) (dBK sp perm ds dk) := by
  obtain ⟨t, h1, h2⟩ := ha.run
  obtain ⟨u, k1, k2⟩ := hkw.run
  refine ⟨_, pe_callGK F hgu hr pass0 hg hm hk hb h1 k1 hall hks hdb he hpl, fun g0 F σ H τ Q R rel h q => ?_⟩
  refine h2 g0 F σ H τ _ _ rel h fun xs vs H1 e1 i1 l1 h1 => ?_
  refine k2 g0 F σ H1 τ _ _ (rel.st e1) h1 fun ys ws H2 e2 i2 l2 h2 => ⟨by rw [l1]; rfl, by rw [l2, hlk], ?_⟩
  have l1' : vs.length = es.length + 1 := l1
  refine ⟨by unfold ordV; rw [List.length_map]; exact hn, p.pot, F, _, R, (rel.st (e1.trans e2)).pkf, ord_is ((i1.mono e2.kp).app i2) (fun j hj => ?_), h2, fun z v' H' e i r => q z v' H' ((e1.trans e2).trans e) i r⟩
  have := hp j hj
  rw [List.length_append]
  omega
theorem pdcK0 {perm : List Nat} (F : FnG X.prog X.w X.K X.mg X.base CX0 k f fd ps (toSp X.K p.tf n sp)) (hgu : X.A.guards = some []) (hr : Room k X.A) (hm : X.mg x = some (.ref f)) (hk : PySem.W.keepIn X.K (.ref f) = true) (hb : BindK X.K fd ps ks 0 perm)
    (hkw : PDK X p kws dk) (hn : perm.length = n := by rfl) (hp : ∀ j ∈ perm, j < kws.length := by decide) (hlk : kws.length = ks.length := by rfl) (hg : Gl X x := by rfl) (hall : (backToKw pos (keywordEach kws X.env)).all (·.1.isSome) = true := by rfl) (hks : (backToKw pos (keywordEach kws X.env)).filterMap (·.1) = ks := by rfl)
    (hdb : (x == ("__debug__" : Str)) = false := by decide)
    (hpl : ((backTo pos (starEach [] X.env)).any (·.1) || (backToKw pos (keywordEach kws X.env)).any (·.1.isNone)) = false := by rfl) :
    PD X p (.Call (.Name x q) [] kws pos) (dBK sp perm dNil dk) := by
  obtain ⟨u, k1, k2⟩ := hkw.run
  refine ⟨_, pe_callGK0 F hgu hr pass0 hg hm hk hb k1 hall hks hdb hpl, fun g0 F σ H τ Q R rel h q => ?_⟩
  refine k2 g0 F σ H τ _ _ rel h fun ys ws H2 e2 i2 l2 h2 => ⟨by rw [l2, hlk], ?_⟩
  refine ⟨by unfold ordV; rw [List.length_map]; exact hn, p.pot, F, _, R, (rel.st e2).pkf, ord_is i2 (fun j hj => ?_), h2, fun z v' H' e i r => q z v' H' (e2.trans e) i r⟩
  have := hp j hj
  omega
end
/-- a def by its body, on data -/
def startD (N : List Str) (ds : List D) : Sl := ds.map some ++ List.replicate (N.length - ds.length) none
theorem start_get {K : PySem.W.Frag} {p : Qt} {F : List Addr} {H : Hp} {N : List Str} {vs : List V} {ds : List D} (h : IsL K p F H vs ds) {i : Nat} {d : D} (e : (startD N ds)[i]? = some (some d)) : ∃ v, (L2.start N vs)[i]? = some (some v) ∧ Is K p F H v d := by
  unfold startD at e
  have hi : i < ds.length := by
    by_cases hi : i < ds.length
    · exact hi
    · rw [List.getElem?_append_right (by simpa using hi), List.getElem?_replicate] at e
      split at e <;> cases e
  rw [List.getElem?_append_left (by simpa using hi), List.getElem?_map] at e
  cases q : ds[i]? with
  | none => rw [q] at e; cases e
  | some d' =>
    rw [q] at e
    cases e
    obtain ⟨v, e1, e2⟩ := h.getD q
    refine ⟨v, ?_, e2⟩
    unfold L2.start
    rw [List.getElem?_append_left (by rw [List.length_map, h.len]; exact hi), List.getElem?_map, e1]
    rfl
theorem start_rel {K : PySem.W.Frag} {p : Qt} {F : List Addr} {H : Hp} {N : List Str} {vs : List V} {ds : List D} (pk : PkF p F H) (h : IsL K p F H vs ds) : Rel K p ⟨F, [], H⟩ F (L2.start N vs) H (startD N ds) := by
  have no : ∀ (i : Nat) (l : List D), (startD N ds)[i]? = some (some (.own l)) → False := fun i l e => by
    obtain ⟨v, _, z⟩ := start_get h e
    cases z
  refine ⟨pk.pk, fun _ _ _ _ _ e => e, fun _ h => h, pk.al, fun _ h => .inl h, fun i d e _ => start_get h e, fun i l e => (no i l e).elim, fun i j l l' a e _ _ _ => (no i l e).elim, by unfold L2.start startD; rw [List.length_append, List.length_append, List.length_map, List.length_map, List.length_replicate, List.length_replicate, h.len]⟩
/-- the code object and the table of the running def -/
def TabX (base : Heap) (mg : Str → Option Value) (tabs : List Addr) (cdv : Value) : Prop := ∃ c P, cdv = .ref c ∧ P ∈ tabs ∧ GxR.TabB base mg c P
section
variable {P : Program} {w : World} {K : PySem.W.Frag} {mg : Str → Option Value} {base : Heap} {tabs : Tf} {k : Nat} {f : Addr} {fd : FuncData} {ps : List Str} {sp : SpD}
theorem funD {x qual : Str} {st : Stmt} {N : List Str} (F : Fun K x qual st f fd) (S : FnScope N ps (defScope st))
    (body : ∀ (cdv : Value) (A : Around) (outer : List Env) (s : Shared) (H : Hp) (E : XK) (p : Qt), p.tf = tabs → fd.code = cdv → A.guards = some [] → (∀ a o, K.lookup a = some o → a ≠ p.pot) → Room k (A.deeper (envOfC qual (defScope st) s.heap.objs.size f cdv)) →
      ∃ d, PDSs (cxOf CX0 P w K mg base N qual (defScope st) f cdv A outer s H E).nox p (defBody st) d ∧ ∀ (ds : List D) (R : D → Prop), ds.length = ps.length → sp ds R → d { nx := fun _ => R .non, rt := R } (startD N ds)) :
    FnG P w K mg base CX0 (k + 1) f fd ps (toSp K tabs ps.length sp) := by
  refine funG F S (fun vs H Q E h => h.1) fun cdv A outer s H vs Q E hc hg hk hr h => ?_
  obtain ⟨hl, pot, Fb, ds, R, pk, is, h, q⟩ := h
  obtain ⟨d, hb, hd⟩ := body cdv A outer s H E ⟨pot, tabs⟩ rfl hc hg (fun a o lo => pk.ne (hk a o lo)) hr
  obtain ⟨t, h1, h2⟩ := hb.run
  refine ⟨t, h1.nox, ?_⟩
  have ex : ∀ {F' : List Addr} {σ' : L2.St} {H' : Hp} {τ' : Sl}, Rel K ⟨pot, tabs⟩ ⟨Fb, [], H⟩ F' σ' H' τ' → Ex ⟨pot, tabs⟩ H H' := by
    intro F' σ' H' τ' r
    exact ⟨fun b o n t e => r.kp b o n (fun z => nomatch z) t e, r.pk⟩
  exact h2 ⟨Fb, [], H⟩ Fb (L2.start N vs) H (startD N ds) _ _ (start_rel pk is) (hd ds R (by rw [← is.len]; exact hl) h)
    ⟨fun F' σ H' τ rel r => q _ _ H' (ex rel) .non r, fun F' σ H' τ v x rel i r => q x v H' (ex rel) (i.less rel.sub) r, fun _ _ _ _ _ z => z.elim, fun _ _ _ _ _ z => z.elim⟩
end

/-! ### a law's defs, by their names -/
/-- a def as it stands behind the top; kb: how calls with keywords bind -/
structure Dfn (K : PySem.W.Frag) (mg : Str → Option Value) (x qual : Str) (st : Stmt) (ps : List Str) (kb : List (List Str × Nat × List Nat)) : Prop where
  ex : ∃ (f : Addr) (fd : FuncData), Fun K x qual st f fd ∧ mg x = some (.ref f) ∧ Binds K fd ps [] ∧ ∀ q ∈ kb, BindK K fd ps q.1 q.2.1 q.2.2
/-- a def with its promise -/
structure Cal (P : Program) (w : World) (K : PySem.W.Frag) (mg : Str → Option Value) (base : Heap) (tabs : Tf) (x : Str) (k n : Nat) (ps : List Str) (kb : List (List Str × Nat × List Nat)) (sp : SpD) : Prop where
  ex : ∃ (f : Addr) (fd : FuncData), FnG P w K mg base CX0 k f fd ps (toSp K tabs n sp) ∧ mg x = some (.ref f) ∧ PySem.W.keepIn K (.ref f) = true ∧ Binds K fd ps [] ∧ ∀ q ∈ kb, BindK K fd ps q.1 q.2.1 q.2.2
section
variable {P : Program} {w : World} {K : PySem.W.Frag} {mg : Str → Option Value} {base : Heap} {k : Nat} {ps : List Str} {sp : SpD} {kb : List (List Str × Nat × List Nat)}
theorem cal_of {tabs : Tf} {x qual : Str} {st : Stmt} {N : List Str} (D0 : Dfn K mg x qual st ps kb) (S : FnScope N ps (defScope st))
    (body : ∀ (f : Addr) (cdv : Value) (A : Around) (outer : List Env) (s : Shared) (H : Hp) (E : XK) (p : Qt), p.tf = tabs → A.guards = some [] → (∀ a o, K.lookup a = some o → a ≠ p.pot) → Room k (A.deeper (envOfC qual (defScope st) s.heap.objs.size f cdv)) →
      ∃ d, PDSs (cxOf CX0 P w K mg base N qual (defScope st) f cdv A outer s H E).nox p (defBody st) d ∧ ∀ (ds : List D) (R : D → Prop), ds.length = ps.length → sp ds R → d { nx := fun _ => R .non, rt := R } (startD N ds)) :
    Cal P w K mg base tabs x (k + 1) ps.length ps kb sp := by
  obtain ⟨f, fd, F, hm, hb, hk⟩ := D0.ex
  exact ⟨f, fd, funD F S fun cdv A outer s H E p ht _ => body f cdv A outer s H E p ht, hm, F.kp, hb, hk⟩
/-- the same of a def that makes code objects -/
def TabAt (K : PySem.W.Frag) (mg : Str → Option Value) (base : Heap) (tabs : Tf) (x : Str) : Prop := ∃ c P, P ∈ tabs.tabs ∧ GxR.TabB base mg c P ∧ ∀ (f : Addr) (fd : FuncData) (qual : Str) (st : Stmt), mg x = some (.ref f) → Fun K x qual st f fd → fd.code = .ref c
theorem cal_ofT {tabs : Tf} {x qual : Str} {st : Stmt} {N : List Str} (D0 : Dfn K mg x qual st ps kb) (S : FnScope N ps (defScope st)) (TA : TabAt K mg base tabs x)
    (body : ∀ (f : Addr) (cdv : Value) (A : Around) (outer : List Env) (s : Shared) (H : Hp) (E : XK) (p : Qt), p.tf = tabs → TabX base mg p.tabs cdv → A.guards = some [] → (∀ a o, K.lookup a = some o → a ≠ p.pot) → Room k (A.deeper (envOfC qual (defScope st) s.heap.objs.size f cdv)) →
      ∃ d, PDSs (cxOf CX0 P w K mg base N qual (defScope st) f cdv A outer s H E).nox p (defBody st) d ∧ ∀ (ds : List D) (R : D → Prop), ds.length = ps.length → sp ds R → d { nx := fun _ => R .non, rt := R } (startD N ds)) :
    Cal P w K mg base tabs x (k + 1) ps.length ps kb sp := by
  obtain ⟨f, fd, F, hm, hb, hk⟩ := D0.ex
  obtain ⟨c, P, hP, TB, hc⟩ := TA
  exact ⟨f, fd, funD F S fun cdv A outer s H E p ht e => body f cdv A outer s H E p ht ⟨c, P, e.symm.trans (hc f fd _ _ hm F), by show P ∈ p.tf.tabs; rw [ht]; exact hP, TB⟩, hm, F.kp, hb, hk⟩
end
section
variable {X : Cx} {p : Qt} {pos q : Pos} {e : Expr} {es : List Expr} {kws : List Keyword} {ds dk : DA} {k j n : Nat} {ps : List Str} {sp : SpD} {x : Str} {kb : List (List Str × Nat × List Nat)}
theorem pdcC (C : Cal X.prog X.w X.K X.mg X.base p.tf x j n ps kb sp) (hgu : X.A.guards = some []) (hr : Room k X.A) (ha : PDA X p (e :: es) ds) (hj : j ≤ k := by decide) (hg : Gl X x := by rfl) (hn : (e :: es).length = n := by rfl) (hdb : (x == ("__debug__" : Str)) = false := by decide)
    (he : starEach (e :: es) X.env = (false, eval e X.env) :: starEach es X.env := by rfl) (hpl : (backTo pos (starEach es X.env)).any (·.1) = false := by rfl) : PD X p (.Call (.Name x q) (e :: es) [] pos) (dB sp ds) := by
  obtain ⟨f, fd, F, hm, hk, hb, _⟩ := C.ex
  exact pdc F hgu (hr.mono hj) hm hk hb ha hg hn hdb he hpl
theorem pdcC0 (C : Cal X.prog X.w X.K X.mg X.base p.tf x j 0 ps kb sp) (hgu : X.A.guards = some []) (hr : Room k X.A) (hj : j ≤ k := by decide) (hg : Gl X x := by rfl) (hdb : (x == ("__debug__" : Str)) = false := by decide) : PD X p (.Call (.Name x q) [] [] pos) (dB sp dNil) := by
  obtain ⟨f, fd, F, hm, hk, hb, _⟩ := C.ex
  exact pdc0 F hgu (hr.mono hj) hm hk hb hg hdb
theorem pdcCK {ks : List Str} {perm : List Nat} (C : Cal X.prog X.w X.K X.mg X.base p.tf x j n ps kb sp) (hgu : X.A.guards = some []) (hr : Room k X.A) (hq : (ks, es.length + 1, perm) ∈ kb) (ha : PDA X p (e :: es) ds) (hkw : PDK X p kws dk) (hj : j ≤ k := by decide)
    (hn : perm.length = n := by rfl) (hp : ∀ j ∈ perm, j < es.length + 1 + kws.length := by decide) (hlk : kws.length = ks.length := by rfl) (hg : Gl X x := by rfl) (hall : (backToKw pos (keywordEach kws X.env)).all (·.1.isSome) = true := by rfl) (hks : (backToKw pos (keywordEach kws X.env)).filterMap (·.1) = ks := by rfl)
    (hdb : (x == ("__debug__" : Str)) = false := by decide) (he : starEach (e :: es) X.env = (false, eval e X.env) :: starEach es X.env := by rfl)
    (hpl : ((backTo pos (starEach (e :: es) X.env)).any (·.1) || (backToKw pos (keywordEach kws X.env)).any (·.1.isNone)) = false := by rfl) : PD X p (.Call (.Name x q) (e :: es) kws pos) (dBK sp perm ds dk) := by
  obtain ⟨f, fd, F, hm, hk, _, hb⟩ := C.ex
  exact pdcK F hgu (hr.mono hj) hm hk (hb _ hq) ha hkw hn hp hlk hg hall hks hdb he hpl
theorem pdcCK0 {ks : List Str} {perm : List Nat} (C : Cal X.prog X.w X.K X.mg X.base p.tf x j n ps kb sp) (hgu : X.A.guards = some []) (hr : Room k X.A) (hq : (ks, 0, perm) ∈ kb) (hkw : PDK X p kws dk) (hj : j ≤ k := by decide)
    (hn : perm.length = n := by rfl) (hp : ∀ j ∈ perm, j < kws.length := by decide) (hlk : kws.length = ks.length := by rfl) (hg : Gl X x := by rfl) (hall : (backToKw pos (keywordEach kws X.env)).all (·.1.isSome) = true := by rfl) (hks : (backToKw pos (keywordEach kws X.env)).filterMap (·.1) = ks := by rfl)
    (hdb : (x == ("__debug__" : Str)) = false := by decide)
    (hpl : ((backTo pos (starEach [] X.env)).any (·.1) || (backToKw pos (keywordEach kws X.env)).any (·.1.isNone)) = false := by rfl) : PD X p (.Call (.Name x q) [] kws pos) (dBK sp perm dNil dk) := by
  obtain ⟨f, fd, F, hm, hk, _, hb⟩ := C.ex
  exact pdcK0 F hgu (hr.mono hj) hm hk (hb _ hq) hkw hn hp hlk hg hall hks hdb hpl
end
/-! ### what the top has left, as defs -/
section
variable {K : PySem.W.Frag} {mg : Str → Option Value} {h : Heap} {x qual : Str} {st : Stmt} {f : Addr} {fd : FuncData} {ps ks : List Str} {n : Nat} {perm : List Nat} {kb : List (List Str × Nat × List Nat)}
theorem bindK_of (F : Fun K x qual st f fd) (hb : ∀ (kV doc pm : Value) (an : Option Addr) (cdv ct : Value) (us ws : List Value), us.length = n → ws.length = ks.length →
    ∃ zs : List Value, bindArgs (PySem.W.fnOf x qual (defArgs st) (defBody st) (defScope st) .none kV doc pm an cdv ct) ⟨us, ks.zip ws⟩ = pure (ps.zip zs) ∧ zs.length = ps.length ∧ perm.length = ps.length ∧ ∀ (i j : Nat), perm[i]? = some j → zs[i]? = (us ++ ws)[j]? ∧ j < (us ++ ws).length) : BindK K fd ps ks n perm := by
  obtain ⟨oc, od, kV, doc, pm, an, cdv, ct, osl, rfl, lk, hcd⟩ := F.ex
  intro s us ws _ h1 h2
  obtain ⟨zs, e, r⟩ := hb kV doc pm an cdv ct us ws h1 h2
  exact ⟨zs, .of_eq e, r⟩
theorem dfn_of {oc kV doc pm cdv ct : Value} {od an : Option Addr} {osl : Array (Option Value)} (X : K.In h) (G : h.Ns mainGlobals mg) (a : PySem.W.nsIn K mainGlobals x = some (some (.ref f)))
    (l : K.lookup f = some ⟨oc, od, .func (PySem.W.fnOf x x (defArgs st) (defBody st) (defScope st) .none kV doc pm an cdv ct), osl⟩) (c : PySem.W.codeIn K cdv x = true) (k : PySem.W.keepIn K (.ref f) = true)
    (hb : ∀ (kV doc pm : Value) (an : Option Addr) (cdv ct : Value) (us : List Value), us.length = ps.length → bindArgs (PySem.W.fnOf x x (defArgs st) (defBody st) (defScope st) .none kV doc pm an cdv ct) ⟨us, []⟩ = pure (ps.zip us))
    (hk : ∀ fd : FuncData, Fun K x x st f fd → ∀ q ∈ kb, BindK K fd ps q.1 q.2.1 q.2.2) : Dfn K mg x x st ps kb :=
  ⟨f, _, fun_mk l c k, PySem.W.mg_of X G a, (fun_mk l c k).binds hb, hk _ (fun_mk l c k)⟩
theorem ktup2 {a : Addr} {x y : Int} {t u : Tok} {dd : Option Addr} {m : Nat} {sl : Array (Option Value)} (l : K.lookup a = some ⟨.type "tuple", dd, .seq #[.int x t, .int y u] m, sl⟩) : KTup K a (.tup [.int x, .int y]) :=
  fun p F H ne => .tup (vs := [.int x, .int y]) (.inr ⟨_, _, m, l, rfl, rfl, by show 2 ≤ sizeLine; decide, .cons ⟨_, rfl⟩ (.cons ⟨_, rfl⟩ .nil)⟩) ne (.cons (.int _) (.cons (.int _) .nil))
end
end DL
/-! isinstance, repr, isqrt, gcd; walks, loops, comprehensions. -/
namespace DL
open PySem PySem.Spec L2
open PyProof.Rows hiding St

section
variable {X : Cx} {p : Qt}
/-! ### isinstance -/
def tyN : D → Option String
  | .non => some "NoneType"
  | .bl _ => some "bool"
  | .int _ => some "int"
  | .str _ => some "str"
  | .tup _ => some "tuple"
  | .lst _ => some "list"
  | .pot => some "list"
  | .ty _ => none
  | .fn _ => none
  | .own _ => none
def cIsi : List D → (D → Prop) → Prop := fun xs R => match xs with
  | [x, .ty n] => match tyN x with
    | some t => match kitB t n with
      | some b => R (.bl b)
      | none => False
    | none => False
  | _ => False
theorem tyX_tup {K : PySem.W.Frag} {H : Hp} {a : Addr} {vs : List V} (h : SqT K H a vs) : TyX K H (.ref a) (.type "tuple") := by
  rcases h with (h | ⟨o, h⟩) | ⟨o, its, n, h, c, _⟩
  · exact .base (.tup h)
  · exact .fTuple h
  · exact .kTuple h c
theorem tyX_lst {K : PySem.W.Frag} {H : Hp} {a : Addr} {vs : List V} (h : SqL K H a vs) : TyX K H (.ref a) (.type "list") := by
  rcases h with (h | ⟨o, h⟩) | ⟨o, its, n, h, c, _⟩
  · exact .base (.lst h)
  · exact .base (.frz h)
  · exact .kList h c
theorem cd_isi : CallD X p (.builtin "isinstance") cIsi := by
  refine ⟨_, call_isi, fun F H xs vs Q R pk ix hh q => ?_⟩
  unfold cIsi at hh
  split at hh
  · split at hh
    · rename_i t et
      split at hh
      · rename_i b eb
        cases ix with
        | cons i1 i2 =>
          cases i2 with
          | cons i2 i3 =>
            cases i3
            cases i2
            have fin : ∀ {x : V}, TyX X.K H x (.type t) → ∃ (x' c : V) (t' u : Value) (b : Bool), [x, .ty _] = [x', c] ∧ ClsV c u ∧ TyX X.K H x' t' ∧ PySem.W.kitOne X.K t' u = some b ∧ Q (.bl b) H :=
              fun {x} hx => ⟨x, _, _, _, b, rfl, .ty _, hx, kit_ty eb, q _ _ H (.refl pk.pk) (.bl b) hh⟩
            cases i1 with
            | non => cases et; exact fin (.base .non)
            | bl _ => cases et; exact fin (.base (.bl _))
            | int _ => cases et; exact fin (.base (.int _))
            | str _ => cases et; exact fin (.base (.str _))
            | ty _ => cases et
            | fn _ => cases et
            | tup hs _ _ => cases et; exact fin (tyX_tup hs)
            | lst hs _ _ => cases et; exact fin (tyX_lst (Rdl.sq hs))
            | pot =>
              cases et
              obtain ⟨m, n, _, _, _, hp⟩ := pk.pk.at_
              exact fin (.base (.lst hp))
      · exact hh.elim
    · exact hh.elim
  · exact hh.elim
theorem kb_tt : kitB "tuple" "tuple" = some true := by decide +kernel
theorem kb_ii : kitB "int" "int" = some true := by decide +kernel
theorem kb_ib : kitB "int" "bool" = some false := by decide +kernel
theorem kb_bi : kitB "bool" "int" = some true := by decide +kernel
theorem kb_bb : kitB "bool" "bool" = some true := by decide +kernel
theorem kb_it : kitB "int" "tuple" = some false := by decide +kernel
theorem kb_bt : kitB "bool" "tuple" = some false := by decide +kernel
theorem kb_nt : kitB "NoneType" "tuple" = some false := by decide +kernel
theorem kb_ni : kitB "NoneType" "int" = some false := by decide +kernel
theorem kb_lt : kitB "list" "tuple" = some false := by decide +kernel
theorem kb_li : kitB "list" "int" = some false := by decide +kernel
theorem kb_ti : kitB "tuple" "int" = some false := by decide +kernel
theorem kb_si : kitB "str" "int" = some false := by decide +kernel
theorem kb_st : kitB "str" "tuple" = some false := by decide +kernel
theorem kb_ss : kitB "str" "str" = some true := by decide +kernel

/-! ### repr -/
mutual
def intsOk : D → Prop
  | .int i => i.natAbs.log2 < 1920
  | .str x => (PyData.str x).showable = true ∧ (PyData.str x).shown.length + 2 ≤ 1930
  | .tup l => intsOks l
  | .lst l => intsOks l
  | _ => True
def intsOks : List D → Prop
  | [] => True
  | d :: l => intsOk d ∧ intsOks l
end
mutual
def cnt : D → Nat
  | .tup l => cnts l + 1
  | .lst l => cnts l + 1
  | _ => 1
def cnts : List D → Nat
  | [] => 0
  | d :: l => cnt d + cnts l
end
theorem shown_ok : ∀ (n : Nat), (∀ d : D, shp n d = true → intsOk d → (toP d).showable = true ∧ (toP d).shown.length + 2 ≤ 1930 * cnt d) ∧
    ∀ l : List D, shps n l = true → intsOks l → PyData.showableAll (toPs l) = true ∧ piled (PyData.shownAll (toPs l)) ≤ 1930 * cnts l ∧ (∀ t ∈ PyData.shownAll (toPs l), t.length + 2 ≤ 1930 * cnts l) := by
  have lists : ∀ n, (∀ d : D, shp n d = true → intsOk d → (toP d).showable = true ∧ (toP d).shown.length + 2 ≤ 1930 * cnt d) →
      ∀ l : List D, shps n l = true → intsOks l → PyData.showableAll (toPs l) = true ∧ piled (PyData.shownAll (toPs l)) ≤ 1930 * cnts l ∧ (∀ t ∈ PyData.shownAll (toPs l), t.length + 2 ≤ 1930 * cnts l) := by
    intro n h l
    induction l with
    | nil => intro _ _; exact ⟨by simp [toPs, PyData.showableAll], by simp [toPs, PyData.shownAll, piled], by simp [toPs, PyData.shownAll]⟩
    | cons d l ih =>
      intro hl hi
      rw [shps, Bool.and_eq_true] at hl
      rw [intsOks] at hi
      obtain ⟨a1, a2⟩ := h d hl.1 hi.1
      obtain ⟨b1, b2, b3⟩ := ih hl.2 hi.2
      refine ⟨by simp [toPs, PyData.showableAll, a1, b1], ?_, ?_⟩
      · simp only [toPs, PyData.shownAll, piled_cons, cnts]
        omega
      · intro t ht
        simp only [toPs, PyData.shownAll, List.mem_cons] at ht
        simp only [cnts]
        rcases ht with e | e
        · subst e
          omega
        · have := b3 t e
          omega
  have one : ∀ n, (∀ m, n = m + 1 → ∀ l : List D, shps m l = true → intsOks l → PyData.showableAll (toPs l) = true ∧ piled (PyData.shownAll (toPs l)) ≤ 1930 * cnts l ∧ (∀ t ∈ PyData.shownAll (toPs l), t.length + 2 ≤ 1930 * cnts l)) →
      ∀ d : D, shp n d = true → intsOk d → (toP d).showable = true ∧ (toP d).shown.length + 2 ≤ 1930 * cnt d := by
    intro n hls d hd hi
    have hj : ∀ ts : List Str, (Str.join ", " ts).length ≤ piled ts := fun ts => by
      cases ts with
      | nil => exact Nat.le_refl _
      | cons t r =>
        have := join_length_add (t :: r) (by simp)
        omega
    cases d with
    | non => exact ⟨by simp [toP, PyData.showable], by show (4 : Nat) + 2 ≤ 1930 * 1; decide⟩
    | bl b => exact ⟨by simp [toP, PyData.showable], by cases b <;> (show (_ : Nat) ≤ 1930 * 1; decide)⟩
    | int i =>
      rw [intsOk] at hi
      refine ⟨by simp [toP, PyData.showable, hi], ?_⟩
      have := int_text_len_1921 hi
      show (Str.ofString (toString i)).length + 2 ≤ 1930 * 1
      omega
    | str x =>
      rw [intsOk] at hi
      refine ⟨hi.1, ?_⟩
      have := hi.2
      show (PyData.str x).shown.length + 2 ≤ 1930 * 1
      omega
    | tup l =>
      cases n with
      | zero => simp [shp] at hd
      | succ m =>
        obtain ⟨a1, a2, _⟩ := hls m rfl l (by simpa [shp] using hd) (by simpa [intsOk] using hi)
        refine ⟨by simp [toP, PyData.showable, a1], ?_⟩
        have h1 := hj (PyData.shownAll (toPs l))
        have h2 : (toP (.tup l)).shown.length ≤ 1 + (Str.join ", " (PyData.shownAll (toPs l))).length + 2 := by
          simp only [toP, PyData.shown, tupleText]
          rw [strLen_append, strLen_append]
          have : ((if (PyData.shownAll (toPs l)).length == 1 then ",)" else ")" : String) : Str).length ≤ 2 := by split <;> decide
          have : (("(" : String) : Str).length = 1 := rfl
          omega
        simp only [cnt]
        omega
    | lst l =>
      cases n with
      | zero => simp [shp] at hd
      | succ m =>
        obtain ⟨a1, a2, _⟩ := hls m rfl l (by simpa [shp] using hd) (by simpa [intsOk] using hi)
        refine ⟨by simp [toP, PyData.showable, a1], ?_⟩
        have h2 : (toP (.lst l)).shown.length ≤ piled (PyData.shownAll (toPs l)) + 4 := by
          have h1 := hj (PyData.shownAll (toPs l))
          simp only [toP, PyData.shown, listText_eq_join]
          rw [strLen_append, strLen_append]
          have : (("[" : String) : Str).length = 1 := rfl
          have : (("]" : String) : Str).length = 1 := rfl
          omega
        simp only [cnt]
        omega
    | _ => simp [shp] at hd
  intro n
  induction n with
  | zero => exact ⟨one 0 (fun m e => by omega), lists 0 (one 0 (fun m e => by omega))⟩
  | succ n ih =>
    have o := one (n + 1) (fun m e => by have : n = m := by omega
                                         subst this
                                         exact ih.2)
    exact ⟨o, lists (n + 1) o⟩

structure okR (d : D) : Prop where
  sh : shp 60 d = true
  nums : intsOk d
  few : cnt d ≤ 5000
def cRepr : List D → (D → Prop) → Prop := fun xs R => match xs with
  | [d] => okR d ∧ R (.str (toP d).shown)
  | _ => False
theorem call_repr_data (hg : X.A.guards = some []) (hu : X.A.units + 64 < cLine) : CallR X (.builtin "repr") (fun xs H Q => ∃ x d, xs = [x] ∧ Dp X.K H x d ∧ d.showable = true ∧ d.hasDict = false ∧ d.depth ≤ 60 ∧ d.shown.length ≤ sizeLine ∧ Q (.str d.shown) H) := by
  intro pins s σ H xs us Q I r h
  obtain ⟨x, d, rfl, dp, h1, h2, h3, h4, q⟩ := h
  obtain ⟨u, rfl, ru⟩ := vals1 r
  obtain ⟨as, rd⟩ := Dp.reads I d x u dp ru
  cases dp with
  | non => cases ru; exact PySem.P.repr_of_none ⟨.str _, H, I.tok _, ⟨_, rfl⟩, q⟩
  | bl b => cases ru; exact PySem.P.repr_of_bool ⟨.str _, H, I.tok _, ⟨_, rfl⟩, by
      cases b <;> exact q⟩
  | int i =>
    obtain ⟨t, rfl⟩ := ru
    exact PySem.P.repr_of_int (by simpa [PyData.showable] using h1) ⟨.str _, H, I.tok _, ⟨_, rfl⟩, q⟩
  | str z =>
    obtain ⟨t, rfl⟩ := ru
    exact PySem.P.repr_of_str ⟨.str _, H, I.tok _, ⟨_, rfl⟩, q⟩ h4
  | lst hs ha =>
    cases ru
    exact repr_of_reads' rd h1 (PyData.noDict_hsm h2) hg (by omega) (fun _ _ e => e) (fun h' u tk hk => ⟨.str _, H, I.kept (t' := tk) hk, ⟨_, rfl⟩, q⟩) h4
  | tup hs ha =>
    cases ru
    exact repr_of_reads' rd h1 (PyData.noDict_hsm h2) hg (by omega) (fun _ _ e => e) (fun h' u tk hk => ⟨.str _, H, I.kept (t' := tk) hk, ⟨_, rfl⟩, q⟩) h4
theorem cd_repr (hg : X.A.guards = some []) (hu : X.A.units + 64 < cLine) : CallD X p (.builtin "repr") cRepr := by
  refine ⟨_, call_repr_data hg hu, fun F H xs vs Q R pk ix hh q => ?_⟩
  unfold cRepr at hh
  split at hh
  · rename_i d
    obtain ⟨⟨h1, h2, h3⟩, h4⟩ := hh
    cases ix with
    | cons i1 i2 =>
      cases i2
      obtain ⟨a1, a2, a3, a4⟩ := (shp_all 60).1 d h1
      obtain ⟨b1, b2⟩ := (shown_ok 60).1 d h1 h2
      refine ⟨_, _, rfl, i1.dp a1, b1, a4, a3, ?_, q _ _ H (.refl pk.pk) (.str _) h4⟩
      have : sizeLine = 16777216 := sizeLine_eq
      omega
  · exact hh.elim

/-! ### isqrt, gcd -/
theorem call_isqrt : CallR X (.builtin "math.isqrt") (fun xs H Q => ∃ i : Int, xs = [.int i] ∧ 0 ≤ i ∧ i < 2 ^ 512 ∧ Q (.int ((Float64.isqrt i.toNat : Nat) : Int)) H) := by
  intro pins s σ H xs us Q I r h
  obtain ⟨i, rfl, h0, h1, q⟩ := h
  obtain ⟨u, rfl, t, rfl⟩ := vals1 r
  have hl : i.toNat.log2 < 512 := PySem.Flt.log2_lt_of (by decide) (by omega)
  exact PySem.call_function_meets PySem.W.MGF.kind_isqrt PySem.W.MGF.plain_isqrt PySem.W.MGF.entry_isqrt (PySem.W.MGF.args_isqrt _) (PySem.W.mg_run_isqrt i t (by omega) (by omega) (by omega)).meets ⟨.int _, H, I.tok _, ⟨_, rfl⟩, q⟩
structure BS (i : Int) : Prop where
  nn : 0 ≤ i
  few : i < 2 ^ 512
theorem BS.of {j : Int} (h0 : 0 ≤ j) (h1 : j < 1606938044258990275541962092341162602522202993782792835301376) : BS j := by
  have e : (1606938044258990275541962092341162602522202993782792835301376 : Int) ≤ 2 ^ 512 := by decide +kernel
  exact ⟨h0, Int.lt_of_lt_of_le h1 e⟩
def cSqrt : List D → (D → Prop) → Prop := fun xs R => match xs with
  | [.int i] => BS i ∧ ∀ r : Int, 0 ≤ r → r * r ≤ i → i < (r + 1) * (r + 1) → R (.int r)
  | _ => False
theorem cd_isqrt : CallD X p (.builtin "math.isqrt") cSqrt := by
  refine ⟨_, call_isqrt, fun F H xs vs Q R pk ix hh q => ?_⟩
  unfold cSqrt at hh
  split at hh
  · rename_i i
    obtain ⟨⟨h0, h1⟩, hR⟩ := hh
    cases ix with
    | cons i1 i2 =>
      cases i2
      cases i1
      have sp := PySem.Float64.isqrt_spec i.toNat
      refine ⟨i, rfl, h0, h1, q _ _ H (.refl pk.pk) (.int _) (hR _ (Int.natCast_nonneg _) ?_ ?_)⟩
      · have := sp.1
        rw [← Int.natCast_mul]
        omega
      · have := sp.2
        have e : (((Float64.isqrt i.toNat : Nat) : Int) + 1) * (((Float64.isqrt i.toNat : Nat) : Int) + 1) = (((Float64.isqrt i.toNat + 1) * (Float64.isqrt i.toNat + 1) : Nat) : Int) := by
          rw [Int.natCast_mul, Int.natCast_add]
          rfl
        rw [e]
        omega
  · exact hh.elim
theorem cd_gcd : CallD X p (.builtin "math.gcd") (cI2 (fun _ _ => True) fun a b => .int ((Nat.gcd a.natAbs b.natAbs : Nat) : Int)) := cI2_of cr_gcd fun a b F H Q _ pk q => ⟨a, b, rfl, q _ H (.refl pk.pk) (.int _)⟩
end
end DL
/-! Walks, comprehensions, generator expressions, chains on data. -/
namespace DL
open PySem PySem.Spec L2
open PyProof.Rows hiding St

/-! ### readings by data as readings -/
def liftE (K : PySem.W.Frag) (p : Qt) (d : DE) : TE := fun σ H Q => ∃ g F τ R, Rel K p g F σ H τ ∧ d τ R ∧ ∀ x v H', Ex p H H' → Is K p F H' v x → R x → Q v H'
def liftT (K : PySem.W.Frag) (p : Qt) (d : DT) : TT := fun σ H Q => ∃ g F τ R, Rel K p g F σ H τ ∧ d τ R ∧ ∀ b H', Ex p H H' → R b → Q b H'
theorem PD.pe {X : Cx} {p : Qt} {e : Expr} {d : DE} (h : PD X p e d) : PE X e (liftE X.K p d) := by
  obtain ⟨t, h1, h2⟩ := h.run
  exact ⟨fun pins s σ H Q I ⟨g, F, τ, R, a, b, c⟩ => h1.run pins s σ H Q I (h2 g F σ H τ Q R a b c)⟩
theorem PDT.pt {X : Cx} {p : Qt} {e : Expr} {d : DT} (h : PDT X p e d) : PT X e (liftT X.K p d) := by
  obtain ⟨t, h1, h2⟩ := h.run
  exact ⟨fun pins s σ H Q I ⟨g, F, τ, R, a, b, c⟩ => h1.run pins s σ H Q I (h2 g F σ H τ Q R a b c)⟩

section
variable {X : Cx} {p : Qt} {tg : Expr}
theorem SqT.since {K : PySem.W.Frag} {F : List Addr} {H H' : Hp} {a : Addr} {vs : List V} (h : SqT K H a vs) (n : a ≠ p.pot) (pk : PkF p F H) (e : ExF p F H H') : SqT K H' a vs := by
  have nf : ∀ o, ¬ isMut o → H a = some o → a ∉ F := fun o m q z => by
    obtain ⟨_, u, h1, h2⟩ := pk.al a z
    rw [q] at h1
    cases h1
    exact m h2
  rcases h with (h | ⟨o, h⟩) | h
  · exact .inl (.inl (e.kp _ _ n (nf (.tup vs) (fun z => z) h) (fun _ z => nomatch z) h))
  · exact .inl (.inr ⟨o, e.kp _ _ n (nf (.frz o (.tup vs)) (fun z => z) h) (fun _ z => nomatch z) h⟩)
  · exact .inr h
theorem Rdl.since {F : List Addr} {H H' : Hp} {a : Addr} {vs : List V} (h : Rd H a (.lst vs)) (n : a ≠ p.pot ∧ a ∉ F) (e : ExF p F H H') : Rd H' a (.lst vs) := by
  rcases h with h | ⟨o, h⟩
  · exact .inl (e.kp _ _ n.1 n.2 (fun _ z => nomatch z) h)
  · exact .inr ⟨o, e.kp _ _ n.1 n.2 (fun _ z => nomatch z) h⟩
theorem wd_list {K : PySem.W.Frag} {F : List Addr} {H : Hp} {a : Addr} {vs : List V} {l : List D} (h : Rd H a (.lst vs)) (ne : a ≠ p.pot ∧ a ∉ F) (i : IsL K p F H vs l) : WD K p F (Itl K a) H l := by
  refine ⟨fun n H' F' e k pk hn => ?_, fun H' e => ⟨vs, Rdl.sq (Rdl.since h ne e), by rw [i.len]; exact Nat.le_refl _⟩⟩
  have hv : n < vs.length := by rw [i.len]; exact hn
  have sq : SqL K H' a vs := Rdl.sq (Rdl.since h ne e)
  refine ⟨⟨vs, vs[n], sq, by simp [hv]⟩, fun x H2 y => ?_⟩
  obtain ⟨rfl, y⟩ := y
  obtain ⟨d, h1, h2⟩ := (k i).get (y vs sq)
  exact ⟨.refl e.pk, d, h1, h2⟩
theorem wd_tup {K : PySem.W.Frag} {F : List Addr} {H : Hp} {a : Addr} {vs : List V} {l : List D} (h : SqT K H a vs) (ne : a ≠ p.pot) (pk : PkF p F H) (i : IsL K p F H vs l) : WD K p F (Itt K a) H l := by
  refine ⟨fun n H' F' e k _ hn => ?_, fun H' e => ⟨vs, SqT.since h ne pk e, by rw [i.len]; exact Nat.le_refl _⟩⟩
  have hv : n < vs.length := by rw [i.len]; exact hn
  have sq : SqT K H' a vs := SqT.since h ne pk e
  refine ⟨⟨vs, vs[n], sq, by simp [hv]⟩, fun x H2 y => ?_⟩
  obtain ⟨rfl, y⟩ := y
  obtain ⟨d, h1, h2⟩ := (k i).get (y vs sq)
  exact ⟨.refl e.pk, d, h1, h2⟩
/-- over a list or a tuple -/
def dSq (d : DE) : DI := fun τ R => d τ fun x => match x with
  | .lst l => R l
  | .tup l => R l
  | _ => False
def iSq (K : PySem.W.Frag) (t : TE) : TI := fun σ H R => t σ H fun x H1 => ∃ a, x = .ref a ∧ ((∃ xs, SqL K H1 a xs ∧ R (Itl K a) H1) ∨ ∃ xs, SqT K H1 a xs ∧ R (Itt K a) H1)
theorem pi_sq {l : Expr} {t : TE} (h : PE X l t) : PI X tg l (iSq X.K t) := by
  refine ⟨fun pins s σ H R I q => thn (h.run pins s σ H _ I q) ?_⟩
  rintro v s1 ⟨x, H1, I1, r1, a, rfl, q1⟩
  cases r1
  have fr : H1 s1.heap.objs.size = none := I1.hok.fresh (Nat.le_refl _)
  have fp : ∀ b ∈ [s1.heap.objs.size], FpOk X pins H1 b := by
    intro b hb
    rw [List.mem_singleton] at hb
    rw [hb]
    exact I1.fpOk (Nat.le_refl _) fr
  rcases q1 with ⟨xs, hx, q1⟩ | ⟨xs, hx, q1⟩
  · obtain ⟨its, _, pl, _⟩ := I1.list hx
    exact wpAny_pyIter_list pl.isList ⟨s1.heap.objs.size, [s1.heap.objs.size], _, _, H1, rfl, I1.kept (t' := s1.toks) (fun b o e => Heap.get?_push_of_some _ e), turn_list a _, ⟨_, Heap.get?_push_size _ rfl, rfl, rfl⟩, fp, q1⟩
  · obtain ⟨its, _, pl, _⟩ := I1.tuple hx
    exact wpAny_pyIter_tuple (show s1.heap.IsTuple a its.toArray from pl) ⟨s1.heap.objs.size, [s1.heap.objs.size], _, _, H1, rfl, I1.kept (t' := s1.toks) (fun b o e => Heap.get?_push_of_some _ e), turn_tuple a _, ⟨_, Heap.get?_push_size _ rfl, rfl, rfl⟩, fp, q1⟩
theorem pdi_sq {e : Expr} {d : DE} (h : PD X p e d) : PDI X p tg e (dSq d) := by
  obtain ⟨t, h1, h2⟩ := h.run
  refine ⟨_, pi_sq h1, fun g F σ H τ Rw R rel hd q => ?_⟩
  refine h2 g F σ H τ _ _ rel hd fun x v H1 e1 i1 h1 => ?_
  cases i1 with
  | @lst a vs l hs hn hl => exact ⟨a, rfl, .inl ⟨vs, Rdl.sq hs, q _ H1 l e1 (wd_list hs hn hl) h1⟩⟩
  | @tup a vs l hs hn hl => exact ⟨a, rfl, .inr ⟨vs, hs, q _ H1 l e1 (wd_tup hs hn (rel.st e1).pkf hl) h1⟩⟩
  | _ => exact h1.elim
/-- lo, lo + 1, .. -/
def rng (lo : Int) (n : Nat) : List D := (List.range n).map fun (k : Nat) => D.int (lo + (k : Int))
theorem rng_len (lo : Int) (n : Nat) : (rng lo n).length = n := by simp [rng]
theorem rng_get {lo : Int} {n i : Nat} (h : i < n) : (rng lo n)[i]? = some (.int (lo + i)) := by simp [rng, h]
theorem wd_rng {K : PySem.W.Frag} {F : List Addr} {H : Hp} {lo : Int} {n : Nat} : WD K p F (Itr lo n) H (rng lo n) := by
  refine ⟨fun i H' F' e k pk hi => ?_, fun H' e => by rw [rng_len]; exact Nat.le_refl _⟩
  rw [rng_len] at hi
  refine ⟨hi, fun x H2 y => ?_⟩
  obtain ⟨rfl, rfl⟩ := y
  exact ⟨.refl e.pk, _, rng_get hi, .int _⟩
def dRg1 (d : DA) : DI := fun τ R => d τ fun xs => match xs with
  | [.int j] => (-(2 ^ 62) ≤ j ∧ j < 2 ^ 62) ∧ R (rng 0 j.toNat)
  | _ => False
def dRg2 (d : DA) : DI := fun τ R => d τ fun xs => match xs with
  | [.int i, .int j] => (-(2 ^ 62) ≤ i ∧ i < 2 ^ 62 ∧ -(2 ^ 62) ≤ j ∧ j < 2 ^ 62) ∧ R (rng i (j - i).toNat)
  | _ => False
theorem pdi_rg1 {a : Expr} {q pos : Pos} {d : DA} (hm : X.mg "range" = none) (ha : PDA X p [a] d) (hg : Gl X "range" := by rfl) (hs : starEach [a] X.env = [(false, eval a X.env)] := by rfl) : PDI X p tg (.Call (.Name "range" q) [a] [] pos) (dRg1 d) := by
  obtain ⟨t, h1, h2⟩ := ha.run
  refine ⟨_, pi_range1 hg hm h1 hs, fun g F σ H τ Rw R rel hd q => ?_⟩
  refine h2 g F σ H τ _ _ rel hd fun xs vs H1 e1 i1 l1 h1 => ?_
  split at h1
  · cases i1 with
    | cons i1 i2 =>
      cases i2
      cases i1
      exact ⟨_, rfl, h1.1.1, h1.1.2, q _ H1 _ e1 wd_rng h1.2⟩
  · exact h1.elim
theorem pdi_rg2 {a b : Expr} {q pos : Pos} {d : DA} (hm : X.mg "range" = none) (ha : PDA X p [a, b] d) (hg : Gl X "range" := by rfl) (hs : starEach [a, b] X.env = [(false, eval a X.env), (false, eval b X.env)] := by rfl) (hs2 : starEach [b] X.env = [(false, eval b X.env)] := by rfl) : PDI X p tg (.Call (.Name "range" q) [a, b] [] pos) (dRg2 d) := by
  obtain ⟨t, h1, h2⟩ := ha.run
  refine ⟨_, pi_range2 hg hm h1 hs hs2, fun g F σ H τ Rw R rel hd q => ?_⟩
  refine h2 g F σ H τ _ _ rel hd fun xs vs H1 e1 i1 l1 h1 => ?_
  split at h1
  · cases i1 with
    | cons i1 i2 =>
      cases i2 with
      | cons i2 i3 =>
        cases i3
        cases i1
        cases i2
        exact ⟨_, _, rfl, h1.1, q _ H1 _ e1 wd_rng h1.2⟩
  · exact h1.elim
/-- zip of two tuples, of two lists -/
def zipD : List D → List D → List D
  | x :: xs, y :: ys => .tup [x, y] :: zipD xs ys
  | _, _ => []
theorem zipD_len : ∀ (xs ys : List D), (zipD xs ys).length = min xs.length ys.length
  | [], _ => by simp [zipD]
  | _ :: _, [] => by simp [zipD]
  | x :: xs, y :: ys => by simp only [zipD, List.length_cons, zipD_len xs ys]; omega
theorem zipD_get : ∀ {xs ys : List D} {i : Nat} {x y : D}, xs[i]? = some x → ys[i]? = some y → (zipD xs ys)[i]? = some (.tup [x, y])
  | [], _, _, _, _, h, _ => by simp at h
  | _ :: _, [], _, _, _, _, h => by simp at h
  | a :: xs, b :: ys, 0, x, y, h, h' => by
    have e1 : a = x := by simpa using h
    have e2 : b = y := by simpa using h'
    subst e1
    subst e2
    rfl
  | a :: xs, b :: ys, i + 1, x, y, h, h' => by
    show (zipD xs ys)[i]? = _
    exact zipD_get (by simpa using h) (by simpa using h')
def dZip (d : DA) : DI := fun τ R => d τ fun xs => match xs with
  | [.tup l, .tup m] => R (zipD l m)
  | [.lst l, .lst m] => R (zipD l m)
  | _ => False
theorem pdi_zip {a b : Expr} {q pos tpos : Pos} {elts : List Expr} {kk : Nat} {d : DA} (hm : X.mg "zip" = none) (ha : PDA X p [a, b] d) (hg : Gl X "zip" := by rfl) (hs : starEach [a, b] X.env = (false, eval a X.env) :: starEach [b] X.env := by rfl) (hpl : (backTo pos (starEach [b] X.env)).any (·.1) = false := by rfl) :
    PDI X p (.Tuple elts kk tpos) (.Call (.Name "zip" q) [a, b] [] pos) (dZip d) := by
  obtain ⟨t, h1, h2⟩ := ha.run
  refine ⟨_, RZ.pi_zipA hg hm h1 hs hpl, fun g F σ H τ Rw R rel hd q => ?_⟩
  refine h2 g F σ H τ _ _ rel hd fun xs vs H1 e1 i1 l1 h1 => ?_
  have pk := (rel.st e1).pkf
  split at h1
  · rename_i l m
    cases i1 with
    | cons i1 i2 =>
      cases i2 with
      | cons i2 i3 =>
        cases i3
        cases i1 with
        | @tup ax vs _ hs hn hl =>
          cases i2 with
          | @tup ay ws _ hs' hn' hl' =>
            refine ⟨_, _, vs, ws, rfl, .inr ⟨hs, hs', q _ H1 _ e1 ⟨fun n H' F' e k pk' hx => ?_, fun H' e => ⟨vs, ws, SqT.since hs hn pk e, SqT.since hs' hn' pk e, ?_⟩⟩ h1⟩⟩
            · rw [zipD_len] at hx
              have la := hl.len
              have lb := hl'.len
              have q1 : SqT X.K H' ax vs := SqT.since hs hn pk e
              have q2 : SqT X.K H' ay ws := SqT.since hs' hn' pk e
              have va : n < vs.length := by omega
              have vb : n < ws.length := by omega
              refine ⟨⟨vs, ws, vs[n], ws[n], q1, q2, by simp [va], by simp [vb]⟩, fun x H2 y => ?_⟩
              obtain ⟨T, x', y', rfl, hT, rfl, f1, f2⟩ := y
              obtain ⟨da, ea, ia⟩ := (k hl).get (f1 vs q1)
              obtain ⟨db, eb, ib⟩ := (k hl').get (f2 ws q2)
              have e2 : Ex p H' (upd H' T (.tup [x', y'])) := .new pk'.pk hT
              exact ⟨e2, _, zipD_get ea eb, .tup (SqT.of upd_same) (pk'.ne hT) (.cons (ia.mono e2.kp) (.cons (ib.mono e2.kp) .nil))⟩
            · rw [zipD_len, hl.len, hl'.len]
              omega
  · rename_i l m
    cases i1 with
    | cons i1 i2 =>
      cases i2 with
      | cons i2 i3 =>
        cases i3
        cases i1 with
        | @lst ax vs _ hs hn hl =>
          cases i2 with
          | @lst ay ws _ hs' hn' hl' =>
            refine ⟨_, _, vs, ws, rfl, .inl ⟨Rdl.sq hs, Rdl.sq hs', q _ H1 _ e1 ⟨fun n H' F' e k pk' hx => ?_, fun H' e => ⟨vs, ws, Rdl.sq (Rdl.since hs hn e), Rdl.sq (Rdl.since hs' hn' e), ?_⟩⟩ h1⟩⟩
            · rw [zipD_len] at hx
              have la := hl.len
              have lb := hl'.len
              have q1 : SqL X.K H' ax vs := Rdl.sq (Rdl.since hs hn e)
              have q2 : SqL X.K H' ay ws := Rdl.sq (Rdl.since hs' hn' e)
              have va : n < vs.length := by omega
              have vb : n < ws.length := by omega
              refine ⟨⟨vs, ws, vs[n], ws[n], q1, q2, by simp [va], by simp [vb]⟩, fun x H2 y => ?_⟩
              obtain ⟨T, x', y', rfl, hT, rfl, f1, f2⟩ := y
              obtain ⟨da, ea, ia⟩ := (k hl).get (f1 vs q1)
              obtain ⟨db, eb, ib⟩ := (k hl').get (f2 ws q2)
              have e2 : Ex p H' (upd H' T (.tup [x', y'])) := .new pk'.pk hT
              exact ⟨e2, _, zipD_get ea eb, .tup (SqT.of upd_same) (pk'.ne hT) (.cons (ia.mono e2.kp) (.cons (ib.mono e2.kp) .nil))⟩
            · rw [zipD_len, hl.len, hl'.len]
              omega
  · exact h1.elim
end

/-! ### comprehensions -/
theorem wipe_comm (σ : L2.St) (i : Nat) (x : Option V) : ∀ vs : List Nat, i ∉ vs → wipe (σ.set i x) vs = (wipe σ vs).set i x
  | [], _ => rfl
  | v :: vs, h => by
    simp only [List.mem_cons, not_or] at h
    unfold wipe
    rw [wipe_comm σ i x vs h.2, List.set_comm _ _ h.1]
theorem wipe_set (σ : L2.St) (i : Nat) (x : Option V) : ∀ vs : List Nat, i ∈ vs → wipe (σ.set i x) vs = wipe σ vs
  | [], h => by cases h
  | v :: vs, h => by
    unfold wipe
    by_cases hv : i ∈ vs
    · rw [wipe_set σ i x vs hv]
    · have e : i = v := by
        rcases List.mem_cons.mp h with e | e
        · exact e
        · exact absurd e hv
      subst e
      rw [wipe_comm σ i x vs hv, List.set_set]
theorem wipe_idem (σ : L2.St) (ws : List Nat) : wipe (wipe σ ws) ws = wipe σ ws := by
  have gen : ∀ (us : List Nat), (∀ u ∈ us, u ∈ ws) → wipe (wipe σ ws) us = wipe σ ws := by
    intro us
    induction us with
    | nil => intro _; rfl
    | cons u us ih =>
      intro hu
      show (wipe (wipe σ ws) us).set u none = wipe σ ws
      rw [ih fun v hv => hu v (List.mem_cons_of_mem _ hv)]
      have hu0 := hu u List.mem_cons_self
      have : ∀ ws : List Nat, u ∈ ws → (wipe σ ws).set u none = wipe σ ws := by
        intro ws
        induction ws with
        | nil => intro h; cases h
        | cons w ws ih2 =>
          intro h
          unfold wipe
          by_cases e : u = w
          · subst e
            rw [List.set_set]
          · have h' : u ∈ ws := by
              rcases List.mem_cons.mp h with z | z
              · exact absurd z e
              · exact z
            rw [List.set_comm _ _ (Ne.symm e), ih2 h']
      exact this ws hu0
  exact gen ws fun _ h => h
/-- a target that stores to the slots of vs alone -/
structure PDGw (X : Cx) (p : Qt) (vs : List Nat) (tg : Expr) (d : DG) (t : TG) : Prop where
  pg : PG X tg t
  go : ∀ (v : V) (x : D) (g : Gd) (F : List Addr) (σ : L2.St) (H : Hp) (τ : Sl) (Q : L2.St → Hp → Prop) (R : Sl → Prop), Rel X.K p g F σ H τ → Is X.K p F H v x → d x τ R → (∀ σ' H' τ', Ex p H H' → Rel X.K p g F σ' H' τ' → wipe σ' vs = wipe σ vs → R τ' → Q σ' H') → t v σ H Q
structure PDGsw (X : Cx) (p : Qt) (vs : List Nat) (tgs : List Expr) (d : DGs) (t : TGs) : Prop where
  pg : PGs X tgs t
  go : ∀ (ws : List V) (xs : List D) (g : Gd) (F : List Addr) (σ : L2.St) (H : Hp) (τ : Sl) (Q : L2.St → Hp → Prop) (R : Sl → Prop), Rel X.K p g F σ H τ → IsL X.K p F H ws xs → d xs τ R → (∀ σ' H' τ', Ex p H H' → Rel X.K p g F σ' H' τ' → wipe σ' vs = wipe σ vs → R τ' → Q σ' H') → t ws σ H Q
section
variable {X : Cx} {p : Qt} {pos : Pos} {vs : List Nat}
theorem pgw_name {i : Nat} {x : Str} (hN : X.N.Nodup) (hi : X.N[i]? = some x) (hx : Loc X.env.scope x) (hv : i ∈ vs := by decide) (hf : X.fn x = true ∨ X.env.scope.names.lookup x = some .local := by first | exact .inl rfl | exact .inr rfl | assumption) : PDGw X p vs (.Name x pos) (gN i) (gName i) :=
  ⟨pg_name hN hi hx hf, fun v x g F σ H τ Q R rel i1 h q => q _ H _ (.refl rel.pk) (rel.set i1) (wipe_set σ i _ vs hv) h⟩
theorem pgsw_nil : PDGsw X p vs [] gNl L2.gNil := by
  refine ⟨pgs_nil, fun ws xs g F σ H τ Q R rel i1 h q => ?_⟩
  cases i1 with
  | nil => exact ⟨rfl, q σ H τ (.refl rel.pk) rel rfl h⟩
  | cons _ _ => exact h.elim
theorem pgsw_cons {e : Expr} {es : List Expr} {g : DG} {gs : DGs} {t : TG} {ts : TGs} (h1 : PDGw X p vs e g t) (h2 : PDGsw X p vs es gs ts) (hs : (assignEach (e :: es) X.env).map (·.2) = assign e X.env :: (assignEach es X.env).map (·.2) := by rfl) : PDGsw X p vs (e :: es) (gCn g gs) (L2.gCons t ts) := by
  refine ⟨pgs_cons h1.pg h2.pg hs, fun ws xs g0 F σ H τ Q R rel i1 h q => ?_⟩
  cases i1 with
  | nil => exact h.elim
  | cons i1 i2 =>
    refine ⟨_, _, rfl, h1.go _ _ g0 F σ H τ _ _ rel i1 h fun σ' H' τ' e1 rel1 w1 h1 => ?_⟩
    exact h2.go _ _ g0 F σ' H' τ' _ _ rel1 (i2.mono e1.kp) h1 fun σ2 H2 τ2 e2 rel2 w2 r2 => q σ2 H2 τ2 (e1.trans e2) rel2 (w2.trans w1) r2
theorem pgw_tup {es : List Expr} {k n : Nat} {gs : DGs} {ts : TGs} (hc : X.calm = true) (h : PDGsw X p vs es gs ts) (hn : (assignEach es X.env).length = n := by rfl) (hst : (assignEach es X.env).findIdx? (·.1) = none := by rfl) : PDGw X p vs (.Tuple es k pos) (gTu n gs) (L2.gTup X.K n ts) := by
  refine ⟨pg_tup hc h.pg hn hst, fun v x g F σ H τ Q R rel i1 hh q => ?_⟩
  cases i1 with
  | tup s ne il =>
    obtain ⟨hl, hh⟩ := hh
    exact ⟨_, _, rfl, s, by rw [il.len]; exact hl, h.go _ _ g F σ H τ _ _ rel il hh q⟩
  | _ => exact hh.elim
end
def dYes : DT := fun _ R => R true
def dLcGo (g : DG) (tt : DT) (te : DE) (τ : Sl) : List D → List D → (List D → Prop) → Prop
  | [], acc, R => R acc
  | x :: r, acc, R => g x τ fun τ2 => tt τ2 fun b => if b = true then te τ2 fun y => dLcGo g tt te τ r (acc ++ [y]) R else dLcGo g tt te τ r acc R
/-- not too long a list -/
structure LenOk (l : List D) : Prop where
  few : l.length ≤ 1000000
theorem LenOk.of {l : List D} (n : Nat) (h : l.length = n) (h2 : n ≤ 1000000) : LenOk l := ⟨by rw [h]; exact h2⟩
def dLc (it : DI) (g : DG) (tt : DT) (te : DE) (own : List Nat) : DE := fun τ R => it τ fun l => LenOk l ∧ dLcGo g tt te (wipeD τ own) l [] fun acc => R (.lst acc)
section
variable {X : Cx} {p : Qt} {pos : Pos}
/-- a frame with one more address shut out: a new list -/
theorem Rel.shut {K : PySem.W.Frag} {g : Gd} {F : List Addr} {σ : L2.St} {H : Hp} {τ : Sl} {D0 : Addr} (rel : Rel K p g F σ H τ) (hD : H D0 = none) {xs : List V} : Rel K p g (D0 :: F) σ (upd H D0 (.lst xs)) τ := by
  have e : Ex p H (upd H D0 (.lst xs)) := .new rel.pk hD
  have r := rel.st e
  have mo : ∀ b ∈ D0 :: F, b ∈ F ∨ ∀ o, NoT o → H b ≠ some o := fun b hb => by
    rcases List.mem_cons.mp hb with z | z
    · exact .inr fun o _ q => by rw [z, hD] at q; cases q
    · exact .inl z
  refine ⟨r.pk, r.kp, fun b hb => List.mem_cons_of_mem _ (r.sub b hb), fun b hb => ?_, fun b hb => ?_, fun i d h n => ?_, fun i l h => ?_, r.un, r.len⟩
  · rcases List.mem_cons.mp hb with z | z
    · subst z
      exact ⟨rel.pk.ne hD, _, upd_same, trivial⟩
    · exact r.al b z
  · rcases List.mem_cons.mp hb with z | z
    · subst z
      by_cases hB : b ∈ g.B
      · exact .inr (.inl hB)
      · exact .inr (.inr fun o t q => by
          have := rel.kp b o (rel.pk.ne hD) hB t q
          rw [hD] at this
          cases this)
    · exact r.fo b z
  · obtain ⟨v, h1, h2⟩ := rel.sl i d h n
    exact ⟨v, h1, (h2.more mo).mono e.kp⟩
  · obtain ⟨a, vs, h1, h2, h3, h4, h6⟩ := rel.ow i l h
    exact ⟨a, vs, h1, e.kp _ _ (rel.al a h3).1 (fun _ z => nomatch z) h2, List.mem_cons_of_mem _ h3, h4, (h6.more mo).mono e.kp⟩
/-- a shut list written -/
theorem Rel.wrote {K : PySem.W.Frag} {g : Gd} {F : List Addr} {σ : L2.St} {H : Hp} {τ : Sl} {D0 : Addr} {ws xs : List V} (rel : Rel K p g F σ H τ) (hF : D0 ∈ F) (hD : H D0 = some (.lst ws)) (hg : D0 ∈ g.B ∨ ∀ o, NoT o → g.H0 D0 ≠ some o) (ho : ∀ (i : Nat) (l : List D), τ[i]? = some (some (D.own l)) → σ[i]? ≠ some (some (V.ref D0))) : Rel K p g F σ (upd H D0 (.lst xs)) τ ∧ ∀ w y, Is K p F H w y → Is K p F (upd H D0 (.lst xs)) w y := by
  have nP : D0 ≠ p.pot := (rel.al D0 hF).1
  have nT : ∀ t ∈ p.tabs, D0 ≠ t := fun t ht z => by
    obtain ⟨ps, q, _⟩ := rel.pk.tb t ht
    rw [← z, hD] at q
    cases q
  have tupk : ∀ {a : Addr} {vs : List V}, SqT K H a vs → SqT K (upd H D0 (.lst xs)) a vs := by
    intro a vs h
    rcases h with (h | ⟨o, h⟩) | h
    · exact .inl (.inl (by rw [upd_ne (ne_of h hD (by intro z; cases z))]; exact h))
    · exact .inl (.inr ⟨o, by rw [upd_ne (ne_of h hD (by intro z; cases z))]; exact h⟩)
    · exact .inr h
  have lstk : ∀ {a : Addr} {vs : List V}, a ∉ F → Rd H a (.lst vs) → Rd (upd H D0 (.lst xs)) a (.lst vs) := by
    intro a vs n h
    have ne : a ≠ D0 := fun z => n (z ▸ hF)
    rcases h with h | ⟨o, h⟩
    · exact .inl (by rw [upd_ne ne]; exact h)
    · exact .inr ⟨o, by rw [upd_ne ne]; exact h⟩
  have isk : ∀ {v : V} {d : D}, Is K p F H v d → Is K p F (upd H D0 (.lst xs)) v d := by
    intro v d h
    exact Is.rec (motive_1 := fun v d _ => Is K p F (upd H D0 (.lst xs)) v d) (motive_2 := fun vs l _ => IsL K p F (upd H D0 (.lst xs)) vs l) .non .bl .int .str .ty .fn
      (fun h n _ ih => .tup (tupk h) n ih) (fun h n _ ih => .lst (lstk n.2 h) n ih) .pot .nil (fun _ _ i1 i2 => .cons i1 i2) h
  have islk : ∀ {vs : List V} {l : List D}, IsL K p F H vs l → IsL K p F (upd H D0 (.lst xs)) vs l := fun {vs l} h => h.all fun w y z => isk z
  refine ⟨⟨⟨?_, fun t ht => TabG.upd (rel.pk.tb t ht) (nT t ht)⟩, fun b o n nb t q => ?_, rel.sub, fun b hb => ?_, rel.fo, fun i d h n => ?_, fun i l h => ?_, rel.un, rel.len⟩, fun w y => isk⟩
  · obtain ⟨x, y, g1, g2, g3, g4⟩ := rel.pk.at_
    exact ⟨x, y, g1, g2, g3, by rw [upd_ne nP.symm]; exact g4⟩
  · have ne : b ≠ D0 := fun z => by
      subst z
      rcases hg with z | z
      · exact nb z
      · exact z o t q
    rw [upd_ne ne]
    exact rel.kp b o n nb t q
  · obtain ⟨h1, o, h2, h3⟩ := rel.al b hb
    by_cases ne : b = D0
    · subst ne
      exact ⟨h1, _, upd_same, trivial⟩
    · exact ⟨h1, o, by rw [upd_ne ne]; exact h2, h3⟩
  · obtain ⟨v, h1, h2⟩ := rel.sl i d h n
    exact ⟨v, h1, isk h2⟩
  · obtain ⟨a, vs, h1, h2, h3, h4, h6⟩ := rel.ow i l h
    have ne : a ≠ D0 := fun z => ho i l h (by rw [h1, z])
    exact ⟨a, vs, h1, by rw [upd_ne ne]; exact h2, h3, h4, islk h6⟩
theorem lc_run {K : PySem.W.Frag} {J : It} {g0 : Gd} {F : List Addr} {H1 : Hp} {l : List D} {D0 : Addr} {g : DG} {tt : DT} {te : DE} {tgt : TG} {tT : TT} {vs : List Nat} {σ : L2.St} {τ : Sl} {Q : VK} {R : D → Prop} (hD : H1 D0 = none) (wd : WD K p F J H1 l) (hl : l.length ≤ 1000000) (rel : Rel K p g0 F σ H1 τ)
    (hg : ∀ (v : V) (x : D) (g0 : Gd) (F : List Addr) (σ : L2.St) (H : Hp) (τ : Sl) (Q : L2.St → Hp → Prop) (R : Sl → Prop), Rel K p g0 F σ H τ → Is K p F H v x → g x τ R → (∀ σ' H' τ', Ex p H H' → Rel K p g0 F σ' H' τ' → wipe σ' vs = wipe σ vs → R τ' → Q σ' H') → tgt v σ H Q)
    (ht : ∀ (g0 : Gd) (F : List Addr) (σ : L2.St) (H : Hp) (τ : Sl) (Q : Bool → Hp → Prop) (R : Bool → Prop), Rel K p g0 F σ H τ → tt τ R → (∀ b H', Ex p H H' → R b → Q b H') → tT σ H Q)
    (h : dLcGo g tt te (wipeD τ vs) l [] fun acc => R (.lst acc)) (q : ∀ x v H', Ex p H1 H' → Is K p F H' v x → R x → Q v H') :
    ∃ W : Nat → Nat → Hp → Prop, (∃ m, W 0 m (upd H1 D0 (.lst []))) ∧ ∀ i m H, W i m H → (J.stop i H ∧ Q (.ref D0) H) ∨ (J.go i H ∧ ∃ Nx : Hp → Prop, (∀ H', Nx H' → ∃ m', m' < m ∧ W (i + 1) m' H') ∧
      ∀ x H', J.yld i H x H' → tgt x (wipe σ vs) H' fun σ2 H2 => wipe σ2 vs = wipe σ vs ∧ tT σ2 H2 fun b H3 => if b = true then liftE K p te σ2 H3 fun y H4 => ∃ acc, H4 D0 = some (.lst acc) ∧ acc.length < sizeLine ∧ Nx (upd H4 D0 (.lst (acc ++ [y]))) else Nx H3) := by
  have nD := rel.notF hD
  have r0 := rel.wipe vs
  have start : Ex p H1 (upd H1 D0 (.lst [])) := .new rel.pk hD
  have mo : ∀ b ∈ D0 :: F, b ∈ F ∨ ∀ o, NoT o → H1 b ≠ some o := fun b hb => by
    rcases List.mem_cons.mp hb with z | z
    · exact .inr fun o _ q => by rw [z, hD] at q; cases q
    · exact .inl z
  have hgD : D0 ∈ g0.B ∨ ∀ o, NoT o → g0.H0 D0 ≠ some o := by
    by_cases hB : D0 ∈ g0.B
    · exact .inl hB
    · exact .inr fun o t q => by
        have := rel.kp D0 o nD.1 hB t q
        rw [hD] at this
        cases this
  have ho : ∀ (i : Nat) (l : List D), (wipeD τ vs)[i]? = some (some (D.own l)) → (wipe σ vs)[i]? ≠ some (some (V.ref D0)) := fun i l h1 h2 => by
    obtain ⟨a, us, k1, k2, _⟩ := r0.ow i l h1
    rw [h2] at k1
    cases k1
    rw [hD] at k2
    cases k2
  refine ⟨fun i m H => i ≤ l.length ∧ m = l.length - i ∧ Ex p H1 H ∧ Rel K p g0 (D0 :: F) (wipe σ vs) H (wipeD τ vs) ∧ ∃ va acc, H D0 = some (.lst va) ∧ IsL K p (D0 :: F) H va acc ∧ acc.length ≤ i ∧ dLcGo g tt te (wipeD τ vs) (l.drop i) acc fun acc => R (.lst acc),
    ⟨_, Nat.zero_le _, rfl, start, r0.shut hD, [], [], upd_same, .nil, Nat.le_refl _, h⟩, ?_⟩
  rintro i m H ⟨hi, rfl, ex, rl, va, acc, hva, iva, lva, h⟩
  by_cases hlt : i < l.length
  · obtain ⟨go, y⟩ := wd.step i H (D0 :: F) ex.toF (fun z => (z.more mo).mono ex.kp) rl.pkf hlt
    refine .inr ⟨go, fun H' => Ex p H1 H' ∧ Rel K p g0 (D0 :: F) (wipe σ vs) H' (wipeD τ vs) ∧ ∃ va acc, H' D0 = some (.lst va) ∧ IsL K p (D0 :: F) H' va acc ∧ acc.length ≤ i + 1 ∧ dLcGo g tt te (wipeD τ vs) (l.drop (i + 1)) acc fun acc => R (.lst acc), fun H' ⟨q1, q2, q3⟩ => ⟨_, by omega, hlt, rfl, q1, q2, q3⟩, fun x H2 yl => ?_⟩
    obtain ⟨e2, d, hd, hx⟩ := y x H2 yl
    rw [drop_at hd] at h
    refine hg x d g0 (D0 :: F) _ H2 _ _ _ (rl.st e2) hx h fun σ3 H3 τ3 e3 rel3 w3 h3 => ⟨by rw [w3, wipe_idem], ?_⟩
    refine ht g0 (D0 :: F) σ3 H3 τ3 _ _ rel3 h3 fun b H4 e4 h4 => ?_
    have e24 := (e2.trans e3).trans e4
    have ex4 := ex.trans e24
    have nDp : D0 ≠ p.pot := nD.1
    have hva4 : H4 D0 = some (.lst va) := e24.kp _ _ nDp (fun _ z => nomatch z) hva
    cases b with
    | true =>
      rw [if_pos rfl] at h4 ⊢
      refine ⟨g0, D0 :: F, τ3, _, rel3.st e4, h4, fun z v H5 e5 i5 h5 => ?_⟩
      have hva5 : H5 D0 = some (.lst va) := e5.kp _ _ nDp (fun _ z => nomatch z) hva4
      have len := iva.len
      have rl5 := (rl.st e24).st e5
      obtain ⟨rw5, isk⟩ := rl5.wrote List.mem_cons_self hva5 hgD ho (xs := va ++ [v])
      refine ⟨va, hva5, ?_, ?_, rw5, va ++ [v], acc ++ [z], upd_same, (((iva.mono e24.kp).mono e5.kp).app (.cons i5 .nil)).all isk, by rw [List.length_append]; simp; omega, h5⟩
      · have : sizeLine = 16777216 := sizeLine_eq
        omega
      · have ex5 := ex4.trans e5
        exact ⟨fun b o nb t e => by rw [upd_ne (ne_of_none e hD)]; exact ex5.kp b o nb t e, rw5.pk⟩
    | false =>
      rw [if_neg Bool.false_ne_true] at h4 ⊢
      exact ⟨ex4, rl.st e24, va, acc, hva4, iva.mono e24.kp, by omega, h4⟩
  · have e : i = l.length := by omega
    subst e
    rw [List.drop_length] at h
    exact .inl ⟨wd.stop H ex.toF, q _ _ H ex (.lst (Rd.of hva) nD (iva.less fun b hb => List.mem_cons_of_mem _ hb)) h⟩
theorem pd_lc {elt tg iter : Expr} {scope : Scope} {own : List (Str × Nat)} {it : DI} {g : DG} {te : DE} {t : TG} (hc : X.calm = true) (hN : X.N.Nodup) (hi : PDI X p tg iter it) (ok : blkC X.N X.env.scope scope own = true)
    (hg : ∀ (s : Shared) (H : Hp) (C : Addr) (cl : List (Str × Addr)) (fp : List Addr), PDGw (X.blk s H scope (compEnvC scope cl C X.env) fp) p (own.map (·.2)) tg g t)
    (he : ∀ (s : Shared) (H : Hp) (C : Addr) (cl : List (Str × Addr)) (fp : List Addr), PD (X.blk s H scope (compEnvC scope cl C X.env) fp) p elt te) (hs : ∀ x, foldedSetIterable iter X.env x = pure x := by intro _; rfl) (sh : Shared) :
    PD X p (.ListComp elt [⟨tg, iter, [], 0⟩] scope pos) (dLc it g dYes te (own.map (·.2))) := by
  obtain ⟨wi, i1, i2⟩ := hi.run
  refine ⟨_, pe_lc (te := liftE X.K p te) hc hN i1 (blkOk_by ok) (fun s H C cl fp => (hg s H C cl fp).pg) (fun _ _ _ _ _ => pts_nil) (fun s H C cl fp => (he s H C cl fp).pe) hs, fun g0 F σ H τ Q R rel h q => ?_⟩
  refine i2 g0 F σ H τ _ _ rel h fun J H1 l e1 wd h1 => ?_
  intro D0 hD
  exact lc_run (K := X.K) (tt := dYes) hD wd h1.1.few (rel.st e1) (hg sh H 0 [] []).go (fun g0 F σ H τ Q R rel h q => q true H (.refl rel.pk) h) h1.2 fun x v H' e i r => q x v H' (e1.trans e) i r
/-- with one test -/
theorem pd_lcI {elt tg iter c : Expr} {scope : Scope} {own : List (Str × Nat)} {it : DI} {g : DG} {te : DE} {tt : DT} {t : TG} (hc : X.calm = true) (hN : X.N.Nodup) (hi : PDI X p tg iter it) (ok : blkC X.N X.env.scope scope own = true)
    (hg : ∀ (s : Shared) (H : Hp) (C : Addr) (cl : List (Str × Addr)) (fp : List Addr), PDGw (X.blk s H scope (compEnvC scope cl C X.env) fp) p (own.map (·.2)) tg g t)
    (ht : ∀ (s : Shared) (H : Hp) (C : Addr) (cl : List (Str × Addr)) (fp : List Addr), PDT (X.blk s H scope (compEnvC scope cl C X.env) fp) p c tt)
    (he : ∀ (s : Shared) (H : Hp) (C : Addr) (cl : List (Str × Addr)) (fp : List Addr), PD (X.blk s H scope (compEnvC scope cl C X.env) fp) p elt te) (hs : ∀ x, foldedSetIterable iter X.env x = pure x := by intro _; rfl) (sh : Shared) :
    PD X p (.ListComp elt [⟨tg, iter, [c], 0⟩] scope pos) (dLc it g tt te (own.map (·.2))) := by
  obtain ⟨wi, i1, i2⟩ := hi.run
  refine ⟨_, pe_lc (te := liftE X.K p te) (tt := liftT X.K p tt) hc hN i1 (blkOk_by ok) (fun s H C cl fp => (hg s H C cl fp).pg) (fun s H C cl fp => pts_one (ht s H C cl fp).pt) (fun s H C cl fp => (he s H C cl fp).pe) hs, fun g0 F σ H τ Q R rel h q => ?_⟩
  refine i2 g0 F σ H τ _ _ rel h fun J H1 l e1 wd h1 => ?_
  intro D0 hD
  exact lc_run (K := X.K) (tt := tt) hD wd h1.1.few (rel.st e1) (hg sh H 0 [] []).go (fun g0 F σ H τ Q R rel h q => ⟨g0, F, τ, R, rel, h, q⟩) h1.2 fun x v H' e i r => q x v H' (e1.trans e) i r
end

/-! ### all, any of a generator expression -/
def dGenGo (c : Bool) (g : DG) (te : DE) (τ : Sl) : List D → (Bool → Prop) → Prop
  | [], R => R c
  | x :: r, R => g x τ fun τ2 => te τ2 fun y => match y with
    | .bl b => if b = c then dGenGo c g te τ r R else R (!c)
    | _ => False
def dGen (c : Bool) (it : DI) (g : DG) (te : DE) (own : List Nat) : DE := fun τ R => it τ fun l => dGenGo c g te (wipeD τ own) l fun b => R (.bl b)
section
variable {X : Cx} {p : Qt}
theorem gen_run {K : PySem.W.Frag} {J : It} {g0 : Gd} {F : List Addr} {H1 H2 : Hp} {l : List D} {c : Bool} {g : DG} {te : DE} {tgt : TG} {vs : List Nat} {σ : L2.St} {τ : Sl} {Q : VK} {R : D → Prop} (wd : WD K p F J H1 l) (rel : Rel K p g0 F σ H1 τ) (e12 : Ex p H1 H2)
    (hg : ∀ (v : V) (x : D) (g0 : Gd) (F : List Addr) (σ : L2.St) (H : Hp) (τ : Sl) (Q : L2.St → Hp → Prop) (R : Sl → Prop), Rel K p g0 F σ H τ → Is K p F H v x → g x τ R → (∀ σ' H' τ', Ex p H H' → Rel K p g0 F σ' H' τ' → wipe σ' vs = wipe σ vs → R τ' → Q σ' H') → tgt v σ H Q)
    (h : dGenGo c g te (wipeD τ vs) l fun b => R (.bl b)) (q : ∀ x v H', Ex p H1 H' → Is K p F H' v x → R x → Q v H') :
    ∃ W : Nat → Nat → Hp → Prop, (∃ m, W 0 m H2) ∧ GA.Turns J tgt (liftE K p te) vs (wipe σ vs) c (Q (.bl c)) (Q (.bl (!c))) W := by
  refine ⟨fun i m H => i ≤ l.length ∧ m = l.length - i ∧ Ex p H1 H ∧ dGenGo c g te (wipeD τ vs) (l.drop i) fun b => R (.bl b), ⟨_, Nat.zero_le _, rfl, e12, h⟩, ?_⟩
  rintro i m H ⟨hi, rfl, ex, h⟩
  by_cases hlt : i < l.length
  · have rl := (rel.wipe vs).st ex
    obtain ⟨go, y⟩ := wd.step i H F ex.toF (fun z => z.mono ex.kp) rl.pkf hlt
    refine .inr ⟨go, fun x H2 yl => ?_⟩
    obtain ⟨e2, d, hd, hx⟩ := y x H2 yl
    rw [drop_at hd] at h
    refine hg x d g0 F _ H2 _ _ _ (rl.st e2) hx h fun σ3 H3 τ3 e3 rel3 w3 h3 => ⟨by rw [w3, wipe_idem], ?_⟩
    refine ⟨g0, F, τ3, _, rel3, h3, fun z v H4 e4 i4 h4 => ?_⟩
    have ex4 := ((ex.trans e2).trans e3).trans e4
    cases i4 with
    | bl b =>
      refine ⟨b, rfl, ?_⟩
      have h4' : if b = c then dGenGo c g te (wipeD τ vs) (l.drop (i + 1)) (fun b => R (.bl b)) else R (.bl (!c)) := h4
      by_cases hb : b = c
      · rw [if_pos hb] at h4' ⊢
        exact ⟨l.length - (i + 1), by omega, hlt, rfl, ex4, h4'⟩
      · rw [if_neg hb] at h4' ⊢
        exact q _ _ H4 ex4 (.bl _) h4'
    | _ => exact (show False from h4).elim
  · have e : i = l.length := by omega
    subst e
    rw [List.drop_length] at h
    exact .inl ⟨wd.stop H ex.toF, q _ _ H ex (.bl _) h⟩
theorem Room.gx {k : Nat} {A : Around} {ge : Env} (r : Room (k + 1) A) : Room k (A.in1.in1.deeper ge) :=
  ⟨r.hd, by have := r.dp; show A.depth + 1 + 3 * k + 5 < _; omega, by have := r.un; show A.units + 1 + 1 + 3 + 16 * k + 200 < _; omega⟩
theorem pd_allG {elt tg iter : Expr} {q pos gpos : Pos} {scope : Scope} {own : List (Str × Nat)} {it : DI} {g : DG} {te : DE} {t : TG} {k : Nat}
    (hr : Room k X.A) (hm : X.mg "all" = none) (TX : TabX X.base X.mg p.tabs X.env.code) (hc : X.calm = true) (hN : X.N.Nodup) (ok : GA.gxC X.N X.env.scope scope own = true) (hi : PDI X p tg iter it)
    (hg : ∀ (s : Shared) (H : Hp) (cl : List (Str × Addr)) (C : Addr) (cd : Value) (fp : List Addr), PDGw (GA.gx X s H (genEnv scope cl C cd builtinsNs X.env) fp) p (own.map (·.2)) tg g t)
    (he : ∀ (s : Shared) (H : Hp) (cl : List (Str × Addr)) (C : Addr) (cd : Value) (fp : List Addr), PD (GA.gx X s H (genEnv scope cl C cd builtinsNs X.env) fp) p elt te) (sh : Shared)
    (hgl : Gl X "all" := by rfl) (hs : ∀ v, genFold iter X.env v = pure v := by intro _; rfl)
    (hst : starEach [.GeneratorExp elt [⟨tg, iter, [], 0⟩] scope gpos] X.env = (false, eval (.GeneratorExp elt [⟨tg, iter, [], 0⟩] scope gpos) X.env) :: starEach [] X.env := by rfl) :
    PD X p (.Call (.Name "all" q) [.GeneratorExp elt [⟨tg, iter, [], 0⟩] scope gpos] [] pos) (dGen true it g te (own.map (·.2))) := by
  obtain ⟨wi, i1, i2⟩ := hi.run
  obtain ⟨c0, P, e0, hP, TB⟩ := TX
  refine ⟨_, GA.pe_allG (te := liftE X.K p te) hr hgl hm boot_all TB e0 hc hN (GA.gxOk_by ok) i1 (fun s H cl C cd fp => (hg s H cl C cd fp).pg) (fun s H cl C cd fp => (he s H cl C cd fp).pe) hs hst, fun g0 F σ H τ Q R rel h q => ?_⟩
  refine i2 g0 F σ H τ _ _ rel h fun J H1 l e1 wd h1 => ?_
  refine ⟨e1.pk.tb P hP, fun H2 hT => ?_⟩
  exact gen_run wd (rel.st e1) (.tabbed e1.pk hP hT) (hg sh H [] 0 .none []).go h1 fun x v H' e i r => q x v H' (e1.trans e) i r
theorem pd_anyG {elt tg iter : Expr} {q pos gpos : Pos} {scope : Scope} {own : List (Str × Nat)} {it : DI} {g : DG} {te : DE} {t : TG} {k : Nat}
    (hr : Room k X.A) (hm : X.mg "any" = none) (TX : TabX X.base X.mg p.tabs X.env.code) (hc : X.calm = true) (hN : X.N.Nodup) (ok : GA.gxC X.N X.env.scope scope own = true) (hi : PDI X p tg iter it)
    (hg : ∀ (s : Shared) (H : Hp) (cl : List (Str × Addr)) (C : Addr) (cd : Value) (fp : List Addr), PDGw (GA.gx X s H (genEnv scope cl C cd builtinsNs X.env) fp) p (own.map (·.2)) tg g t)
    (he : ∀ (s : Shared) (H : Hp) (cl : List (Str × Addr)) (C : Addr) (cd : Value) (fp : List Addr), PD (GA.gx X s H (genEnv scope cl C cd builtinsNs X.env) fp) p elt te) (sh : Shared)
    (hgl : Gl X "any" := by rfl) (hs : ∀ v, genFold iter X.env v = pure v := by intro _; rfl)
    (hst : starEach [.GeneratorExp elt [⟨tg, iter, [], 0⟩] scope gpos] X.env = (false, eval (.GeneratorExp elt [⟨tg, iter, [], 0⟩] scope gpos) X.env) :: starEach [] X.env := by rfl) :
    PD X p (.Call (.Name "any" q) [.GeneratorExp elt [⟨tg, iter, [], 0⟩] scope gpos] [] pos) (dGen false it g te (own.map (·.2))) := by
  obtain ⟨wi, i1, i2⟩ := hi.run
  obtain ⟨c0, P, e0, hP, TB⟩ := TX
  refine ⟨_, GA.pe_anyG (te := liftE X.K p te) hr hgl hm TB e0 hc hN (GA.gxOk_by ok) i1 (fun s H cl C cd fp => (hg s H cl C cd fp).pg) (fun s H cl C cd fp => (he s H cl C cd fp).pe) hs hst, fun g0 F σ H τ Q R rel h q => ?_⟩
  refine i2 g0 F σ H τ _ _ rel h fun J H1 l e1 wd h1 => ?_
  refine ⟨e1.pk.tb P hP, fun H2 hT => ?_⟩
  exact gen_run wd (rel.st e1) (.tabbed e1.pk hP hT) (hg sh H [] 0 .none []).go h1 fun x v H' e i r => q x v H' (e1.trans e) i r
end
/-! ### chains of any length -/
structure PCh (X : Cx) (p : Qt) (ops : List CmpOp) (es : List Expr) (d : D → DE) : Prop where
  run : ∀ (pos : Pos) (pins : List (Addr × Obj)) (s : Shared) (g0 : Gd) (F : List Addr) (σ : L2.St) (H : Hp) (τ : Sl) (v : V) (u : Value) (x : D) (Q : VK) (R : D → Prop), Inv X pins σ H s → Rel X.K p g0 F σ H τ → RelV v u → Is X.K p F H v x → d x τ R → (∀ z v' H', Ex p H H' → Is X.K p F H' v' z → R z → Q v' H') →
    wpAny (model X.prog X.w) X.A (compareChain pos u ops (evalEach es X.env)) (EP X pins σ Q) X.xe s
structure PCt (X : Cx) (p : Qt) (ops : List CmpOp) (es : List Expr) (d : D → DT) : Prop where
  run : ∀ (pos : Pos) (pins : List (Addr × Obj)) (s : Shared) (g0 : Gd) (F : List Addr) (σ : L2.St) (H : Hp) (τ : Sl) (v : V) (u : Value) (x : D) (Q : Bool → Hp → Prop) (R : Bool → Prop), Inv X pins σ H s → Rel X.K p g0 F σ H τ → RelV v u → Is X.K p F H v x → d x τ R → (∀ b H', Ex p H H' → R b → Q b H') →
    wpAny (model X.prog X.w) X.A (testChain pos u ops (evalEach es X.env)) (TP X pins σ Q) X.xe s
def cLast (g : D → D → (D → Prop) → Prop) (dc : DE) : D → DE := fun x τ R => dc τ fun w => g x w R
def cLink (g : D → D → (D → Prop) → Prop) (db : DE) (d : D → DE) : D → DE := fun x τ R => db τ fun y => g x y fun z => match z with
  | .bl k => if k = true then d y τ R else R (.bl false)
  | _ => False
def tLast (g : D → D → (D → Prop) → Prop) (dc : DE) : D → DT := fun x τ R => dc τ fun w => g x w fun z => match z with
  | .bl k => R k
  | _ => False
def tLink (g : D → D → (D → Prop) → Prop) (db : DE) (d : D → DT) : D → DT := fun x τ R => db τ fun y => g x y fun z => match z with
  | .bl k => if k = true then d y τ R else R false
  | _ => False
def dCh (da : DE) (d : D → DE) : DE := fun τ R => da τ fun x => d x τ R
def dCt (da : DE) (d : D → DT) : DT := fun τ R => da τ fun x => d x τ R
section
variable {X : Cx} {p : Qt} {a b : Expr} {da db : DE} {op op' : CmpOp} {ops : List CmpOp} {es : List Expr} {e' : Expr} {g : D → D → (D → Prop) → Prop} {pos : Pos}
theorem pch_last (ho : OpD X p (compareOp op) g) (hb : PD X p b db) : PCh X p [op] [b] (cLast g db) := by
  obtain ⟨r, h1, h2⟩ := ho
  refine ⟨fun pos pins s g0 F σ H τ v u x Q R I rel rv iv h q => chain_last (thn (hb.pe.run pins s σ H (fun v' H' => r v v' H' Q) I ⟨g0, F, τ, _, rel, h, fun y v' H1 e1 i1 k1 => h2 F H1 x y v v' Q R (rel.st e1).pkf (iv.mono e1.kp) i1 k1 fun z v2 H2 e2 i2 k2 => q z v2 H2 (e1.trans e2) i2 k2⟩) ?_)⟩
  rintro u2 s2 ⟨v2, H2, I2, r2, k2⟩
  exact h1 pins s2 σ H2 v v2 u u2 Q I2 rv r2 k2
theorem pch_cons {d : D → DE} (ho : OpD X p (compareOp op) g) (hb : PD X p b db) (ht : PCh X p (op' :: ops) (e' :: es) d) : PCh X p (op :: op' :: ops) (b :: e' :: es) (cLink g db d) := by
  obtain ⟨r, h1, h2⟩ := ho
  refine ⟨fun pos pins s g0 F σ H τ v u x Q R I rel rv iv h q => chain_link (thn (hb.pe.run pins s σ H (fun v' H' => ∃ y, Ex p H H' ∧ Is X.K p F H' v' y ∧ r v v' H' fun z H2 => ∃ k, z = .bl k ∧ Ex p H H2 ∧ Is X.K p F H2 v' y ∧ (if k = true then d y τ R else R (.bl false))) I ⟨g0, F, τ, _, rel, h, fun y v' H1 e1 i1 k1 => ⟨y, e1, i1, h2 F H1 x y v v' _ _ (rel.st e1).pkf (iv.mono e1.kp) i1 k1 fun z v2 H2 e2 i2 k2 => ?_⟩⟩) ?_)⟩
  · cases i2 with
    | bl k => exact ⟨k, rfl, e1.trans e2, i1.mono e2.kp, k2⟩
    | _ => exact k2.elim
  · rintro u2 s2 ⟨v2, H2, I2, r2, y, e2, i2, k2⟩
    refine thn (h1 pins s2 σ H2 v v2 u u2 _ I2 rv r2 k2) ?_
    rintro u3 s3 ⟨v3, H3, I3, r3, k, rfl, e3, i3, k3⟩
    cases r3
    refine wpAny_truthy_bool ?_
    cases k with
    | false =>
      rw [if_neg Bool.false_ne_true] at k3 ⊢
      exact ⟨.bl false, H3, I3, rfl, q _ _ H3 e3 (.bl false) k3⟩
    | true =>
      rw [if_pos rfl] at k3 ⊢
      exact ht.run pos pins s3 g0 F σ H3 τ v2 u2 y Q R I3 (rel.st e3) r2 i3 k3 fun z v' H' e i rr => q z v' H' (e3.trans e) i rr
theorem pct_last (ho : OpD X p (compareOp op) g) (hb : PD X p b db) : PCt X p [op] [b] (tLast g db) := by
  obtain ⟨r, h1, h2⟩ := ho
  refine ⟨fun pos pins s g0 F σ H τ v u x Q R I rel rv iv h q => test_last (thn (hb.pe.run pins s σ H (fun v' H' => r v v' H' fun z H2 => ∃ k, z = .bl k ∧ Q k H2) I ⟨g0, F, τ, _, rel, h, fun y v' H1 e1 i1 k1 => h2 F H1 x y v v' _ _ (rel.st e1).pkf (iv.mono e1.kp) i1 k1 fun z v2 H2 e2 i2 k2 => ?_⟩) ?_)⟩
  · cases i2 with
    | bl k => exact ⟨k, rfl, q k H2 (e1.trans e2) k2⟩
    | _ => exact k2.elim
  · rintro u2 s2 ⟨v2, H2, I2, r2, k2⟩
    refine thn (h1 pins s2 σ H2 v v2 u u2 _ I2 rv r2 k2) ?_
    rintro u3 s3 ⟨v3, H3, I3, r3, k, rfl, k3⟩
    cases r3
    exact wpAny_truthy_bool ⟨H3, I3, k3⟩
theorem pct_cons {d : D → DT} (ho : OpD X p (compareOp op) g) (hb : PD X p b db) (ht : PCt X p (op' :: ops) (e' :: es) d) : PCt X p (op :: op' :: ops) (b :: e' :: es) (tLink g db d) := by
  obtain ⟨r, h1, h2⟩ := ho
  refine ⟨fun pos pins s g0 F σ H τ v u x Q R I rel rv iv h q => test_link (thn (hb.pe.run pins s σ H (fun v' H' => ∃ y, Ex p H H' ∧ Is X.K p F H' v' y ∧ r v v' H' fun z H2 => ∃ k, z = .bl k ∧ Ex p H H2 ∧ Is X.K p F H2 v' y ∧ (if k = true then d y τ R else R false)) I ⟨g0, F, τ, _, rel, h, fun y v' H1 e1 i1 k1 => ⟨y, e1, i1, h2 F H1 x y v v' _ _ (rel.st e1).pkf (iv.mono e1.kp) i1 k1 fun z v2 H2 e2 i2 k2 => ?_⟩⟩) ?_)⟩
  · cases i2 with
    | bl k => exact ⟨k, rfl, e1.trans e2, i1.mono e2.kp, k2⟩
    | _ => exact k2.elim
  · rintro u2 s2 ⟨v2, H2, I2, r2, y, e2, i2, k2⟩
    refine thn (h1 pins s2 σ H2 v v2 u u2 _ I2 rv r2 k2) ?_
    rintro u3 s3 ⟨v3, H3, I3, r3, k, rfl, e3, i3, k3⟩
    cases r3
    refine wpAny_truthy_bool ?_
    cases k with
    | false =>
      rw [if_neg Bool.false_ne_true] at k3 ⊢
      exact ⟨H3, I3, q _ H3 e3 k3⟩
    | true =>
      rw [if_pos rfl] at k3 ⊢
      exact ht.run pos pins s3 g0 F σ H3 τ v2 u2 y Q R I3 (rel.st e3) r2 i3 k3 fun z H' e rr => q z H' (e3.trans e) rr
theorem pd_chainN {d : D → DE} (ha : PD X p a da) (ht : PCh X p (op :: op' :: ops) (b :: e' :: es) d) (hm : lastMarks (op :: op' :: ops) (b :: e' :: es) = false := by with_unfolding_all rfl) : PD X p (.Compare a (op :: op' :: ops) (b :: e' :: es) pos) (dCh da d) := by
  refine ⟨liftE X.K p (dCh da d), ⟨fun pins s σ H Q I hq => ?_⟩, fun g0 F σ H τ Q R rel h q => ⟨g0, F, τ, R, rel, h, q⟩⟩
  obtain ⟨g0, F, τ, R, rel, h, q⟩ := hq
  refine Compare_chain (thn (ha.pe.run pins s σ H (fun v' H' => ∃ x, Ex p H H' ∧ Is X.K p F H' v' x ∧ d x τ R) I ⟨g0, F, τ, _, rel, h, fun x v' H1 e1 i1 k1 => ⟨x, e1, i1, k1⟩⟩) ?_) hm
  rintro u1 s1 ⟨v1, H1, I1, r1, x, e1, i1, k1⟩
  exact ht.run pos pins s1 g0 F σ H1 τ v1 u1 x Q R I1 (rel.st e1) r1 i1 k1 fun z v' H' e i rr => q z v' H' (e1.trans e) i rr
theorem pdt_chainN {d : D → DT} (ha : PD X p a da) (ht : PCt X p (op :: op' :: ops) (b :: e' :: es) d) (hm : lastMarks (op :: op' :: ops) (b :: e' :: es) = false := by with_unfolding_all rfl) : PDT X p (.Compare a (op :: op' :: ops) (b :: e' :: es) pos) (dCt da d) := by
  refine ⟨liftT X.K p (dCt da d), ⟨fun pins s σ H Q I hq => ?_⟩, fun g0 F σ H τ Q R rel h q => ⟨g0, F, τ, R, rel, h, q⟩⟩
  obtain ⟨g0, F, τ, R, rel, h, q⟩ := hq
  refine isTrue_chain (thn (ha.pe.run pins s σ H (fun v' H' => ∃ x, Ex p H H' ∧ Is X.K p F H' v' x ∧ d x τ R) I ⟨g0, F, τ, _, rel, h, fun x v' H1 e1 i1 k1 => ⟨x, e1, i1, k1⟩⟩) ?_) hm
  rintro u1 s1 ⟨v1, H1, I1, r1, x, e1, i1, k1⟩
  exact ht.run pos pins s1 g0 F σ H1 τ v1 u1 x Q R I1 (rel.st e1) r1 i1 k1 fun z H' e rr => q z H' (e1.trans e) rr
end
end DL
/-! is, in, tuple(..), list(..), slices, list.index on data. -/
namespace DL
open PySem PySem.Spec L2
open PyProof.Rows hiding St

section
variable {X : Cx} {p : Qt}
/-! ### is, is not -/
def gIs : D → D → (D → Prop) → Prop := fun x y R => match y with
  | .non => R (.bl (isNon x))
  | .bl b => match x with
    | .bl a => R (.bl (decide (a = b)))
    | _ => False
  | _ => False
def gIsNot : D → D → (D → Prop) → Prop := fun x y R => match y with
  | .non => R (.bl (!isNon x))
  | .bl b => match x with
    | .bl a => R (.bl (!decide (a = b)))
    | _ => False
  | _ => False
theorem opd_is : OpD X p (compareOp .Is) gIs := by
  refine ⟨_, op_isN.or op_isBl, fun F H x y v u Q R pk ix iy hh q => ?_⟩
  cases iy with
  | non =>
    refine .inl ⟨rfl, ?_⟩
    have e : decide (v = V.non) = isNon x := by cases ix <;> rfl
    rw [e]
    exact q _ _ H (.refl pk.pk) (.bl _) hh
  | bl b =>
    cases ix with
    | bl a => exact .inr ⟨a, b, rfl, rfl, q _ _ H (.refl pk.pk) (.bl _) hh⟩
    | _ => exact hh.elim
  | _ => exact hh.elim
theorem opd_isnot : OpD X p (compareOp .IsNot) gIsNot := by
  refine ⟨_, op_notN.or op_notBl, fun F H x y v u Q R pk ix iy hh q => ?_⟩
  cases iy with
  | non =>
    refine .inl ⟨rfl, ?_⟩
    have e : decide (v = V.non) = isNon x := by cases ix <;> rfl
    rw [e]
    exact q _ _ H (.refl pk.pk) (.bl _) hh
  | bl b =>
    cases ix with
    | bl a => exact .inr ⟨a, b, rfl, rfl, q _ _ H (.refl pk.pk) (.bl _) hh⟩
    | _ => exact hh.elim
  | _ => exact hh.elim
/-! ### x in a list -/
def gIn : D → D → (D → Prop) → Prop := fun x y R => match y with
  | .lst l => (shp 60 x = true ∧ shp 60 (.lst l) = true) ∧ R (.bl (l.any fun z => PyData.eqv (toP z) (toP x)))
  | _ => False
def gNotIn : D → D → (D → Prop) → Prop := fun x y R => match y with
  | .lst l => (shp 60 x = true ∧ shp 60 (.lst l) = true) ∧ R (.bl (!l.any fun z => PyData.eqv (toP z) (toP x)))
  | _ => False
theorem toPs_map : ∀ l : List D, toPs l = l.map toP
  | [] => rfl
  | d :: l => by rw [toPs, toPs_map l]; rfl
theorem opd_in (hu : X.A.units + 65 < cLine) : OpD X p (compareOp .In) gIn := by
  refine ⟨_, op_inD hu, fun F H x y v u Q R pk ix iy hh q => ?_⟩
  cases iy with
  | @lst a vs l hs hn hl =>
    obtain ⟨⟨h1, h2⟩, h3⟩ := hh
    refine ⟨_, toPs l, ix.dp (shp_shaped h1).1, Is.dp (.lst hs hn hl) (shp_shaped h2).1, (shp_shaped h1).2, (shp_shaped h2).2, q _ _ H (.refl pk.pk) (.bl _) ?_⟩
    rw [toPs_map, List.any_map]
    exact h3
  | _ => exact hh.elim
theorem opd_notin (hu : X.A.units + 65 < cLine) : OpD X p (compareOp .NotIn) gNotIn := by
  refine ⟨_, op_notInD hu, fun F H x y v u Q R pk ix iy hh q => ?_⟩
  cases iy with
  | @lst a vs l hs hn hl =>
    obtain ⟨⟨h1, h2⟩, h3⟩ := hh
    refine ⟨_, toPs l, ix.dp (shp_shaped h1).1, Is.dp (.lst hs hn hl) (shp_shaped h2).1, (shp_shaped h1).2, (shp_shaped h2).2, q _ _ H (.refl pk.pk) (.bl _) ?_⟩
    rw [toPs_map, List.any_map]
    exact h3
  | _ => exact hh.elim
/-! ### tuple(x), list(x) -/
def cTuple : List D → (D → Prop) → Prop := fun xs R => match xs with
  | [.lst l] => R (.tup l)
  | [.tup l] => R (.tup l)
  | _ => False
theorem cd_tuple : CallD X p (.type "tuple") cTuple := by
  refine ⟨_, call_tuple_of, fun F H xs vs Q R pk ix hh q => ?_⟩
  unfold cTuple at hh
  split at hh
  · cases ix with
    | cons i1 i2 =>
      cases i2
      cases i1 with
      | @lst a ws _ hs hn hl =>
        refine ⟨_, _, rfl, .inl ⟨Rdl.sq hs, fun t ht => ?_⟩⟩
        have e := Ex.new (o := .tup ws) pk.pk ht
        exact q _ _ _ e (.tup (SqT.of upd_same) (pk.ne ht) (hl.mono e.kp)) hh
  · cases ix with
    | cons i1 i2 =>
      cases i2
      cases i1 with
      | tup hs hn hl => exact ⟨_, _, rfl, .inr ⟨hs, q _ _ H (.refl pk.pk) (.tup hs hn hl) hh⟩⟩
  · exact hh.elim
def cList : List D → (D → Prop) → Prop := fun xs R => match xs with
  | [.lst l] => R (.lst l)
  | [.tup l] => R (.lst l)
  | _ => False
theorem cd_list : CallD X p (.type "list") cList := by
  refine ⟨_, call_list_of, fun F H xs vs Q R pk ix hh q => ?_⟩
  unfold cList at hh
  split at hh
  · cases ix with
    | cons i1 i2 =>
      cases i2
      cases i1 with
      | @lst a ws _ hs hn hl =>
        refine ⟨_, _, rfl, .inl (Rdl.sq hs), fun t ht => ?_⟩
        have e := Ex.new (o := .lst ws) pk.pk ht
        exact q _ _ _ e (.lst (Rd.of upd_same) (pk.nF ht) (hl.mono e.kp)) hh
  · cases ix with
    | cons i1 i2 =>
      cases i2
      cases i1 with
      | @tup a ws _ hs hn hl =>
        refine ⟨_, _, rfl, .inr hs, fun t ht => ?_⟩
        have e := Ex.new (o := .lst ws) pk.pk ht
        exact q _ _ _ e (.lst (Rd.of upd_same) (pk.nF ht) (hl.mono e.kp)) hh
  · exact hh.elim
/-! ### slices -/
/-- the items of x[lo:hi] -/
def cutD (l : List D) (lo hi : Option Int) : List D := (l.drop (HT.sIx l.length 0 lo)).take (HT.sIx l.length l.length hi - HT.sIx l.length 0 lo)
abbrev DO := Sl → (Option Int → Prop) → Prop
structure PDO (X : Cx) (p : Qt) (e : Option Expr) (d : DO) : Prop where
  run : ∃ t, PO X e t ∧ ∀ (g0 : Gd) (F : List Addr) (σ : L2.St) (H : Hp) (τ : Sl) (Q : Option Int → Hp → Prop) (R : Option Int → Prop), Rel X.K p g0 F σ H τ → d τ R → (∀ x H', Ex p H H' → R x → Q x H') → t σ H Q
def oNone : DO := fun _ R => R none
def oSome (d : DE) : DO := fun τ R => d τ fun x => match x with
  | .int i => R (some i)
  | _ => False
theorem pdo_none : PDO X p none oNone := ⟨_, po_none, fun g0 F σ H τ Q R rel h q => q _ H (.refl rel.pk) h⟩
theorem pdo_some {e : Expr} {d : DE} (he : PD X p e d) : PDO X p (some e) (oSome d) := by
  obtain ⟨t, h1, h2⟩ := he.run
  refine ⟨_, po_some h1, fun g0 F σ H τ Q R rel h q => ?_⟩
  refine h2 g0 F σ H τ _ _ rel h fun x v H' e i r => ?_
  cases i with
  | int i => exact ⟨i, rfl, q _ H' e r⟩
  | _ => exact r.elim
theorem IsL.cut {K : PySem.W.Frag} {F : List Addr} {H : Hp} {vs : List V} {l : List D} (h : IsL K p F H vs l) (lo hi : Option Int) : IsL K p F H (cutV vs lo hi) (cutD l lo hi) := by
  unfold cutV cutD
  rw [h.len]
  exact (h.drop _).take _
def gSl (d : DE) (lo hi : DO) : DE := fun τ R => d τ fun x => lo τ fun a => hi τ fun b => match x with
  | .tup l => R (.tup (cutD l a b))
  | .lst l => R (.lst (cutD l a b))
  | _ => False
theorem pd_sl {e : Expr} {lo hi : Option Expr} {pos p2 : Pos} {d : DE} {dl dh : DO} (he : PD X p e d) (hl : PDO X p lo dl) (hh : PDO X p hi dh) : PD X p (.Subscript e (.Slice lo hi none p2) pos) (gSl d dl dh) := by
  obtain ⟨t, h1, h2⟩ := he.run
  obtain ⟨tl, l1, l2⟩ := hl.run
  obtain ⟨th, k1, k2⟩ := hh.run
  refine ⟨_, pe_slice (sl_tupA.or sl_list) h1 l1 k1, fun g0 F σ H τ Q R rel h q => ?_⟩
  refine h2 g0 F σ H τ _ _ rel h fun x v H1 e1 i1 h1 => ?_
  refine l2 g0 F σ H1 τ _ _ (rel.st e1) h1 fun a H2 e2 h2 => ?_
  refine k2 g0 F σ H2 τ _ _ ((rel.st e1).st e2) h2 fun b H3 e3 h3 => ?_
  have e := (e1.trans e2).trans e3
  have pk := (rel.st e).pkf
  have i3 := i1.mono (e2.trans e3).kp
  cases i3 with
  | @tup ax vs l hs hn hl =>
    refine .inl ⟨ax, vs, rfl, hs, fun hw => ?_, fun hw t ht => ?_⟩
    · have el : cutD l a b = l := by
        unfold cutD
        rw [← hl.len, hw.1, hw.2, Nat.sub_zero, hl.len, List.drop_zero, List.take_length]
      have h3' : R (.tup (cutD l a b)) := h3
      rw [el] at h3'
      exact q _ _ H3 e (.tup hs hn hl) h3'
    · have e4 : Ex p H3 (upd H3 t (.tup (cutV vs a b))) := .new pk.pk ht
      exact q _ _ _ (e.trans e4) (.tup (SqT.of upd_same) (pk.ne ht) ((hl.cut a b).mono e4.kp)) h3
  | @lst ax vs l hs hn hl =>
    refine .inr ⟨ax, vs, rfl, Rdl.sq hs, fun t ht => ?_⟩
    have e4 : Ex p H3 (upd H3 t (.lst (cutV vs a b))) := .new pk.pk ht
    exact q _ _ _ (e.trans e4) (.lst (Rd.of upd_same) (pk.nF ht) ((hl.cut a b).mono e4.kp)) h3
  | _ => exact (show False from h3).elim
/-! ### methods of lists -/
def gMt (g : List D → List D → (D → Prop) → Prop) (d : DE) (ds : DA) : DE := fun τ R => d τ fun x => match x with
  | .lst l => ds τ fun xs => g l xs R
  | _ => False
/-- the first place of an int -/
def firstI (n : Int) : List Int → Nat
  | [] => 0
  | m :: l => if m = n then 0 else firstI n l + 1
theorem firstI_spec (n : Int) : ∀ l : List Int, n ∈ l → l[firstI n l]? = some n ∧ ∀ (m : Nat) (z : Int), m < firstI n l → l[m]? = some z → z ≠ n
  | [], h => by cases h
  | a :: l, h => by
    unfold firstI
    by_cases e : a = n
    · rw [if_pos e]
      exact ⟨by simp [e], fun m z hm => absurd hm (Nat.not_lt_zero _)⟩
    · rw [if_neg e]
      obtain ⟨h1, h2⟩ := firstI_spec n l ((List.mem_cons.mp h).resolve_left fun z => e z.symm)
      refine ⟨by simpa using h1, fun m z hm hz => ?_⟩
      cases m with
      | zero =>
        have : a = z := by simpa using hz
        subst this
        exact e
      | succ m => exact h2 m z (by omega) (by simpa using hz)
/-- l.index(n) of a list of ints -/
def gIndex : List D → List D → (D → Prop) → Prop := fun l xs R => match xs with
  | [.int n] => match intsOf l with
    | some ns => n ∈ ns ∧ R (.int (firstI n ns))
    | none => False
  | _ => False
theorem pd_index {o e : Expr} {apos cpos : Pos} {d : DE} {ds : DA} (ho : PD X p o d) (ha : PDA X p [e] ds)
    (hbase : attributeBase o "index" X.env (eval o X.env) = eval o X.env := by rfl)
    (hfew : ((backTo cpos (starEach [e] X.env)).all (fun x => !x.1) && (backToKw cpos (keywordEach [] X.env)).all (fun x => x.1.isSome)
      && decide (([e] : List Expr).length + ([] : List Keyword).length + (if ([] : List Keyword).isEmpty then 0 else 1) < 30)) = true := by rfl)
    (hline : (apos.endLine == cpos.line) = true := by rfl) (hs : starEach [e] X.env = (false, eval e X.env) :: starEach [] X.env := by rfl) (hplain : (backTo cpos (starEach [] X.env)).any (·.1) = false := by rfl) :
    PD X p (.Call (.Attribute o "index" apos) [e] [] cpos) (gMt gIndex d ds) := by
  obtain ⟨t, h1, h2⟩ := ho.run
  obtain ⟨u, k1, k2⟩ := ha.run
  refine ⟨_, pe_bm PySem.F.plainAttrs_list PySem.F.slot_list_index PySem.F.type_list_index mt_index h1 k1 hbase hfew hline hs hplain, fun g0 F σ H τ Q R rel h q => ?_⟩
  refine h2 g0 F σ H τ _ _ rel h fun x v H1 e1 i1 h1 => ?_
  have h1' := h1
  cases i1 with
  | @lst a vs l ls hn hl =>
    refine ⟨.inl ⟨rfl, _, Rdl.sq ls⟩, ?_⟩
    refine k2 g0 F σ H1 τ _ _ (rel.st e1) h1 fun xs ws H2 e2 i2 _ h2 => ?_
    unfold gIndex at h2
    split at h2
    · rename_i n
      split at h2
      · rename_i ns en
        cases i2 with
        | cons i2 i3 =>
          cases i3
          cases i2
          have hl2 := hl.mono e2.kp
          rw [intsOf_eq en] at hl2
          have ev := hl2.ints
          have sq : SqL X.K H2 a (ns.map V.int) := by
            have := Rdl.sq (K := X.K) (Rdl.keep ls hn.1 e2.kp)
            rw [ev] at this
            exact this
          obtain ⟨f1, f2⟩ := firstI_spec n ns h2.1
          refine ⟨a, ns.map V.int, .int n, firstI n ns, .int n, rfl, rfl, sq, rfl, ?_, ?_, ?_, fun m z hm hz => ?_, q _ _ H2 (e1.trans e2) (.int _) h2.2⟩
          · rw [List.all_map]
            exact List.all_eq_true.mpr fun _ _ => rfl
          · rw [List.getElem?_map, f1]
            rfl
          · simp [eqV]
          · rw [List.getElem?_map] at hz
            cases hq : ns[m]? with
            | none => rw [hq] at hz; cases hz
            | some y =>
              rw [hq] at hz
              cases hz
              have := f2 m y hm hq
              simpa [eqV] using this
      · exact h2.elim
    · exact h2.elim
  | _ => exact (show False from h1).elim
end
end DL
/-! The end of a law whose defs show containers and make code objects. -/
namespace DL
open PySem PySem.Spec L2
open PyProof.Rows hiding St

/-- the script, as it stands, and the tables are tracked -/
def onlyAt (a : Addr) (vs : List Value) (ns : List Int) (ts : List Addr) (sc : Bool) : Hp := fun b => if b ∈ ts then some (.tbl #[]) else if sc = true ∧ b = a then some (.frz { cls := .type "list", data := .seq vs.toArray } (.lst (ns.map V.int))) else none
theorem callTop {P : Program} {w : World} {K : PySem.W.Frag} {mg mb : Str → Option Value} {k : Nat} {fa a : Addr} {fd : FuncData} {x : Str} {sp : Sp} {s : Shared} {vs : List Value} {ns : List Int} {cs : List (Addr × Addr)}
    (inK : K.In s.heap) (gl : s.heap.Ns mainGlobals mg) (bl : s.heap.Ns builtinsNs mb) (ble : ∀ x : Str, x ≠ "__name__" → mb x = bootBuiltins x) (lim : s.heap.NoLimit) (gens : s.gens = #[])
    (tabs : ∀ q ∈ cs, s.heap.get? q.2 = some { cls := .none, data := .fields #[] } ∧ K.lookup q.2 = none ∧ PySem.W.CodeHd s.heap q.1 q.2)
    (bmain : ∃ (bm : Addr) (ob : Obj), mg "__builtins__" = some (.ref bm) ∧ bm ≠ builtinsNs ∧ s.heap.get? bm = some ob ∧ ob.cls = .type "module" ∧ ob.dict = some builtinsNs ∧ ob.data = .plain)
    (obj : s.heap.get? a = some { cls := .type "list", data := .seq vs.toArray }) (isI : IntsAre vs ns) (len : ns.length ≤ sizeLine) (room : Room k callerA)
    (F : ∀ base : Heap, K.In base → base.Ns mainGlobals mg → (∀ q ∈ cs, GxR.TabB base mg q.1 q.2) → FnG P w K mg base CX0 k fa fd [x] sp) (bind : ∀ (s : Shared) (u : Value), BindsTo s fd ⟨[u], []⟩ [(x, u)])
    (prom : ∀ H : Hp, (∀ q ∈ cs, GxR.TabG H q.2) → SqL K H a (ns.map V.int) → sp [.ref a] H (fun v _ => v = .bl true) fun _ _ _ => False) :
    codeAny (model P w) callerA (.call (.ref fa) ⟨[.ref a], []⟩) (fun r s' => r = .ok (.ret (.bool true)) ∧ OldK s.heap s'.heap ∧ s'.os = s.os ∧ AllBare s'.gens) s := by
  have vals := vals_ints isI
  -- where the tables stand
  generalize hts : cs.map (·.2) = ts
  have inT : ∀ q ∈ cs, q.2 ∈ ts := fun q hq => by rw [← hts]; exact List.mem_map.mpr ⟨q, hq, rfl⟩
  have ofT : ∀ b ∈ ts, s.heap.get? b = some { cls := .none, data := .fields #[] } ∧ K.lookup b = none := fun b hb => by
    rw [← hts] at hb
    obtain ⟨q, hq, e⟩ := List.mem_map.mp hb
    rw [← e]
    exact ⟨(tabs q hq).1, (tabs q hq).2.1⟩
  have nT : a ∉ ts := fun z => by
    have := (ofT a z).1
    rw [obj] at this
    have z' := congrArg Obj.data (Option.some.inj this)
    exact nomatch (show Data.seq vs.toArray _ = Data.fields #[] from z')
  suffices main : ∀ sc : Bool, SqL K (onlyAt a vs ns ts sc) a (ns.map V.int) → (sc = true → K.lookup a = none) →
      codeAny (model P w) callerA (.call (.ref fa) ⟨[.ref a], []⟩) (fun r s' => r = .ok (.ret (.bool true)) ∧ OldK s.heap s'.heap ∧ s'.os = s.os ∧ AllBare s'.gens) s by
    by_cases hk : K.lookup a = none
    · refine main true (.inl (.inr ⟨{ cls := .type "list", data := .seq vs.toArray }, ?_⟩)) fun _ => hk
      unfold onlyAt
      rw [if_neg nT, if_pos ⟨rfl, rfl⟩]
    · obtain ⟨o, ho⟩ := Option.ne_none_iff_exists'.mp hk
      have same := inK a o ho
      rw [obj] at same
      cases same
      have lv := isI.length
      refine main false (.inr ⟨_, vs.toArray, _, ho, rfl, rfl, rfl, ?_, ?_⟩) fun z => nomatch z
      · rw [List.size_toArray, lv]
        exact len
      · simpa using vals
  intro sc hS hsc
  generalize hH : onlyAt a vs ns ts sc = H at hS
  have look : ∀ b u, H b = some u → (b ∈ ts ∧ u = .tbl #[]) ∨ (b = a ∧ sc = true ∧ u = .frz { cls := .type "list", data := .seq vs.toArray } (.lst (ns.map V.int))) := fun b u e => by
    rw [← hH] at e
    unfold onlyAt at e
    split at e
    · cases e
      exact .inl ⟨by assumption, rfl⟩
    · split at e
      · rename_i q
        cases e
        exact .inr ⟨q.2, q.1, rfl⟩
      · cases e
  have tabH : ∀ b ∈ ts, H b = some (.tbl #[]) := fun b hb => by
    rw [← hH]
    unfold onlyAt
    rw [if_pos hb]
  have ok : HOk P w H s.heap := fun b u e => by
    rcases look b u e with ⟨h1, rfl⟩ | ⟨rfl, _, rfl⟩
    · exact (ofT b h1).1
    · exact ⟨obj, by rw [List.length_map]; exact len, vs, _, vals, obj⟩
  -- an object of another form is not tracked
  have free : ∀ {b : Addr} {o : Obj}, s.heap.get? b = some o → o.data ≠ .fields #[] → (∀ n, o.data ≠ .seq vs.toArray n) → H b = none := fun {b o} e h1 h2 => by
    cases z : H b with
    | none => rfl
    | some u =>
      rcases look b u z with ⟨h, _⟩ | ⟨rfl, _⟩
      · rw [(ofT b h).1] at e
        cases e
        exact absurd rfl h1
      · rw [obj] at e
        cases e
        exact absurd rfl (h2 _)
  have dict : ∀ {b : Addr} {m : Str → Option Value}, s.heap.Ns b m → (hidT s.heap H).Ns b m := by
    rintro b m ⟨o, es, ep, e, d, r⟩
    exact ⟨o, es, ep, hidT_get e (free e (by rw [d]; exact fun z => nomatch z) (by intro n; rw [d]; exact fun z => nomatch z)), d, r⟩
  have kin : K.In (hidT s.heap H) := fun b o e => hidT_get (inK b o e) (by
    cases z : H b with
    | none => rfl
    | some u =>
      rcases look b u z with ⟨h, _⟩ | ⟨rfl, h, _⟩
      · rw [(ofT b h).2] at e
        cases e
      · rw [hsc h] at e
        cases e)
  have mod : Mod K mg (hidT s.heap H) := ⟨kin, dict gl, ⟨mb, dict bl, ble⟩, by
    obtain ⟨mc, h1, h2⟩ := lim
    exact ⟨mc, dict h1, h2⟩⟩
  have e0 : Env0 P w K mg (hidT s.heap H) callerA [] s H := ⟨rfl, mod, fun b o e => of_hidT e, Nat.le_of_eq (hidT_size _ _), trivial, fun b z => absurd (show b ∈ ([] : List Addr) from z) List.not_mem_nil, ok, .of_eq gens⟩
  have TB : ∀ q ∈ cs, GxR.TabB (hidT s.heap H) mg q.1 q.2 := fun q hq => by
    obtain ⟨hP, _, C⟩ := tabs q hq
    obtain ⟨og, es, ep, eg, dg, _⟩ := id gl
    refine ⟨?_, ?_, fun z => ?_⟩
    · obtain ⟨o, us, file, tf, flags, tg, inF, text, tt, e1, r1, r2, r3, rest⟩ := C
      refine ⟨o, us, file, tf, flags, tg, inF, text, tt, hidT_get e1 (free e1 (fun z => ?_) fun n z => ?_), r1, r2, r3, rest⟩
      · rw [r2] at z
        cases z
        simp at r3
      · rw [r2] at z
        cases z
    · obtain ⟨bm, ob, b1, b2, b3, b4, b5, b6⟩ := bmain
      refine ⟨bm, ob, b1, b2, fun z => ?_, fun z => ?_, hidT_get b3 (free b3 (fun z => ?_) fun n z => ?_), b4, b5, b6⟩
      · rw [z, eg] at b3
        cases b3
        rw [dg] at b6
        cases b6
      · rw [z, hP] at b3
        cases b3
        cases b6
      · rw [b6] at z
        cases z
      · rw [b6] at z
        cases z
    · rw [z, hP] at eg
      cases eg
      cases dg
  refine codeAny_mono ((F _ kin (dict gl) TB).go callerA [] s H ⟨[.ref a], []⟩ [.ref a] [.ref a] _ _ rfl room e0 (bind s (.ref a)) (.cons rfl .nil) (prom H (fun q hq => ⟨#[], tabH _ (inT q hq), by simp [TriplesOk]⟩) hS)) ?_
  rintro r s' out
  match r, out with
  | .error _, o => exact False.elim o
  | .ok .next, o => exact False.elim o
  | .ok .brk, o => exact False.elim o
  | .ok .cont, o => exact False.elim o
  | .ok (.ret u), o =>
    obtain ⟨v, H', os, bare, un, ok', rv, ev⟩ := o
    have ev : v = .bl true := ev
    subst ev
    cases rv
    have key : ∀ b o, b ∉ ts → s.heap.get? b = some o → s'.heap.get? b = some o := fun b o nb e => by
      cases z : H b with
      | none => exact un.keep b o e z (fun m => absurd (show b ∈ ([] : List Addr) from m) List.not_mem_nil) (fun m => absurd (show b ∈ ([] : List Addr) from m) List.not_mem_nil)
      | some u =>
        rcases look b u z with ⟨h, _⟩ | ⟨rfl, _, rfl⟩
        · exact absurd h nb
        · obtain ⟨e2, _⟩ := ok' b _ (un.frzs b _ _ z)
          rw [obj] at e
          cases e
          exact e2
    have grown : ∀ b ∈ ts, ∃ more : Array Value, s'.heap.get? b = some { cls := .none, data := .fields more } := fun b hb => by
      obtain ⟨more, z⟩ := un.tbls b #[] (tabH b hb)
      exact ⟨_, ok' b _ z⟩
    refine ⟨rfl, ⟨fun b o e => ?_, fun b o e => ?_⟩, os, bare⟩
    · by_cases hb : b ∈ ts
      · obtain ⟨more, hm⟩ := grown b hb
        have h1 := (ofT b hb).1
        rw [h1] at e
        cases e
        rw [← hts] at hb
        obtain ⟨q, hq, eq⟩ := List.mem_map.mp hb
        obtain ⟨hP, _, C⟩ := tabs q hq
        rw [← eq] at hm ⊢
        exact .inr (.inl ⟨(C.tab hP).isCodeTable, rfl, #[], more, rfl, by rw [Array.empty_append]; exact hm⟩)
      · exact .inl (key b o hb e)
    · by_cases hb : b ∈ ts
      · obtain ⟨more, hm⟩ := grown b hb
        exact ⟨_, hm⟩
      · exact ⟨o, key b o hb e⟩
/-- where the table of the def nm stands, it is empty -/
def OwnTab (K : PySem.W.Frag) (mg : Str → Option Value) (h : Heap) (nm : Str) : Prop := ∀ (f c P : Addr) (o : Obj) (fd : FuncData) (e : Value) (dd : Option Addr) (vs : Array Value) (sl : Array (Option Value)), mg nm = some (.ref f) → K.lookup f = some o → o.data = .func fd → fd.code = .ref c →
  K.lookup c = some ⟨e, dd, .fields vs, sl⟩ → vs[11]? = some (.ref P) → h.get? P = some { cls := .none, data := .fields #[] } ∧ PySem.W.CodeHd h c P
theorem walkG {l : PySem.W.OpenLaw} {n k : Nat} {q : Program} {loose : List Str} {XP : (Str → Option Value) → Heap → Prop} {YP : World → Heap → Prop} {d : DefRec} {K : Params → PySem.W.Frag} {x : Str}
    (hn : l.most = some n) (hn2 : n ≤ sizeLine) (hdf : d.params.defaults = []) (hr : Room k callerA) (hY : ∀ (w : World) (h : Heap), YP w h → (K w.params).In h)
    (F : ∀ (w : World) (mg : Str → Option Value) (fa : Addr) (h : Heap), (K w.params).In h → h.Ns mainGlobals mg → mg d.name = some (.ref fa) → (∀ nm : Str, ((recsOf q).any fun e => e.name == nm) = true → OwnTab (K w.params) mg h nm) →
      ∃ (fd : FuncData) (cs : List (Addr × Addr)) (sp : Sp), (∀ c ∈ cs, h.get? c.2 = some { cls := .none, data := .fields #[] } ∧ (K w.params).lookup c.2 = none ∧ PySem.W.CodeHd h c.1 c.2) ∧ (∀ (s : Shared) (u : Value), BindsTo s fd ⟨[u], []⟩ [(x, u)]) ∧
        (∀ base : Heap, (K w.params).In base → base.Ns mainGlobals mg → (∀ c ∈ cs, GxR.TabB base mg c.1 c.2) → FnG l.prog w (K w.params) mg base CX0 k fa fd [x] sp) ∧
        ∀ (H : Hp) (a : Addr) (ns : List Int), ns.length ≤ n → (∀ c ∈ cs, GxR.TabG H c.2) → SqL (K w.params) H a (ns.map V.int) → sp [.ref a] H (fun v _ => v = .bl true) fun _ _ _ => False) :
    PySem.W.WalkO q loose XP YP l.row.toRowW d [] (fun f vs => PySem.call f vs) := by
  refine Att.attach_callB hn hdf fun w s₀ s₁ mg mb fa o pm cd doc a vs ns G Y ho hd hcd hmg obj isI hlen _ gens => ?_
  have inK := hY w _ Y
  have own : ∀ nm : Str, ((recsOf q).any fun e => e.name == nm) = true → OwnTab (K w.params) mg s₁.heap nm := fun nm hrec f c P o1 fd1 e dd vs1 sl k0 k1 k2 k3 k4 k5 => by
    obtain ⟨dL, hm, hn1⟩ := List.any_eq_true.mp hrec
    have hn2 : dL.name = nm := beq_iff_eq.mp hn1
    obtain ⟨a', o', fd', c', P', h1, h2, h3, h4, h5, h6⟩ := G.T.tab dL hm
    have C := PySem.W.CodeHd.of h5 h6
    obtain ⟨⟨oc, vc, e1, _, e3, e4⟩, hP⟩ := h6
    rw [hn2, k0] at h1
    cases h1
    have g1 := inK _ _ k1
    rw [g1] at h2
    cases h2
    rw [k2] at h3
    cases h3
    rw [k3] at h4
    cases h4
    have g2 := inK _ _ k4
    rw [g2] at e1
    cases e1
    cases e3
    rw [k5] at e4
    cases e4
    exact ⟨hP, C⟩
  obtain ⟨fd, cs, sp, hT, hb, hF, hsp⟩ := F w mg fa _ inK G.T.g hmg own
  exact callTop inK G.T.g G.T.b G.T.builtins G.T.nolimit gens hT G.T.bmain obj isI (Nat.le_trans hlen hn2) hr hF hb fun H hH hS => hsp H a ns hlen hH hS
/-- a def whose code object stands at c -/
theorem tabAt_of {K : PySem.W.Frag} {mg : Str → Option Value} {base : Heap} {tabs : Tf} {x : Str} {f c P : Addr} {oc : Value} {od : Option Addr} {fd : FuncData} {sl : Array (Option Value)} (a : mg x = some (.ref f)) (l : K.lookup f = some ⟨oc, od, .func fd, sl⟩) (hc : fd.code = .ref c) (hP : P ∈ tabs.tabs) (TB : GxR.TabB base mg c P) : TabAt K mg base tabs x := by
  refine ⟨c, P, hP, TB, fun f' fd' qual st e F => ?_⟩
  rw [a] at e
  cases e
  obtain ⟨oc', od', kV, doc, pm, an, cdv, ct, osl, rfl, lk, _⟩ := F.ex
  rw [l] at lk
  cases lk
  exact hc
end DL
/-! What the laws' proofs use. -/
namespace DL
open PySem PySem.Spec L2
open PyProof.Rows hiding St

theorem _root_.L2.Room.u65 {k : Nat} {A : Around} (r : Room k A) : A.units + 65 < cLine := by have := r.un; omega
theorem Cal.cal {P : Program} {w : World} {K : PySem.W.Frag} {mg : Str → Option Value} {base : Heap} {tabs : Tf} {x : Str} {k n : Nat} {ps : List Str} {kb : List (List Str × Nat × List Nat)} {sp : SpD} {p : Qt} (C : Cal P w K mg base tabs x k n ps kb sp) (h : p.tf = tabs) : Cal P w K mg base p.tf x k n ps kb sp := by
  rw [h]
  exact C
/-! ### name = [..] on one line -/
section
variable {X : Cx} {p : Qt} {pos : Pos}
theorem pds_setLc {i : Nat} {y : Str} {py spos : Pos} {elt tg iter : Expr} {scope : Scope} {own : List (Str × Nat)} {it : DI} {g : DG} {te : DE} {t : TG} (hc : X.calm = true) (hN : X.N.Nodup) (hy : X.N[i]? = some y) (hyl : X.env.scope.names.lookup y = some .local)
    (hi : PDI X p tg iter it) (ok : blkC X.N X.env.scope scope own = true)
    (hg : ∀ (s : Shared) (H : Hp) (C : Addr) (cl : List (Str × Addr)) (fp : List Addr), PDGw (X.blk s H scope (compEnvC scope cl C X.env) fp) p (own.map (·.2)) tg g t)
    (he : ∀ (s : Shared) (H : Hp) (C : Addr) (cl : List (Str × Addr)) (fp : List Addr), PD (X.blk s H scope (compEnvC scope cl C X.env) fp) p elt te) (sh : Shared)
    (hsw : swapsWith (.ListComp elt [⟨tg, iter, [], 0⟩] scope pos) (some (.Name y py)) spos.line X.env = pure true := by rfl) (hs : ∀ x, foldedSetIterable iter X.env x = pure x := by intro _; rfl) :
    PDS X p (.Assign [.Name y py] (.ListComp elt [⟨tg, iter, [], 0⟩] scope pos) spos) (dAsg (dLc it g dYes te (own.map (·.2))) (gN i)) := by
  obtain ⟨wi, i1, i2⟩ := hi.run
  refine ⟨_, ps_setLc (te := liftE X.K p te) hc hN hy hyl hsw i1 (blkOk_by ok) (fun s H C cl fp => (hg s H C cl fp).pg) (fun _ _ _ _ _ => pts_nil) (fun s H C cl fp => (he s H C cl fp).pe) hs, fun g0 F σ H τ E E' rel h ag => ?_⟩
  refine i2 g0 F σ H τ _ _ rel h fun J H1 l e1 wd h1 => ?_
  intro D0 hD
  exact lc_run (K := X.K) (tt := dYes) hD wd h1.1.few (rel.st e1) (hg sh H 0 [] []).go (fun g0 F σ H τ Q R rel h q => q true H (.refl rel.pk) h) h1.2 fun x v H' e i r => ag.nx F _ H' _ ((rel.st (e1.trans e)).set i) r
theorem pds_setLcI {i : Nat} {y : Str} {py spos : Pos} {elt tg iter c : Expr} {scope : Scope} {own : List (Str × Nat)} {it : DI} {g : DG} {te : DE} {tt : DT} {t : TG} (hc : X.calm = true) (hN : X.N.Nodup) (hy : X.N[i]? = some y) (hyl : X.env.scope.names.lookup y = some .local)
    (hi : PDI X p tg iter it) (ok : blkC X.N X.env.scope scope own = true)
    (hg : ∀ (s : Shared) (H : Hp) (C : Addr) (cl : List (Str × Addr)) (fp : List Addr), PDGw (X.blk s H scope (compEnvC scope cl C X.env) fp) p (own.map (·.2)) tg g t)
    (ht : ∀ (s : Shared) (H : Hp) (C : Addr) (cl : List (Str × Addr)) (fp : List Addr), PDT (X.blk s H scope (compEnvC scope cl C X.env) fp) p c tt)
    (he : ∀ (s : Shared) (H : Hp) (C : Addr) (cl : List (Str × Addr)) (fp : List Addr), PD (X.blk s H scope (compEnvC scope cl C X.env) fp) p elt te) (sh : Shared)
    (hsw : swapsWith (.ListComp elt [⟨tg, iter, [c], 0⟩] scope pos) (some (.Name y py)) spos.line X.env = pure true := by rfl) (hs : ∀ x, foldedSetIterable iter X.env x = pure x := by intro _; rfl) :
    PDS X p (.Assign [.Name y py] (.ListComp elt [⟨tg, iter, [c], 0⟩] scope pos) spos) (dAsg (dLc it g tt te (own.map (·.2))) (gN i)) := by
  obtain ⟨wi, i1, i2⟩ := hi.run
  refine ⟨_, ps_setLc (te := liftE X.K p te) (tt := liftT X.K p tt) hc hN hy hyl hsw i1 (blkOk_by ok) (fun s H C cl fp => (hg s H C cl fp).pg) (fun s H C cl fp => pts_one (ht s H C cl fp).pt) (fun s H C cl fp => (he s H C cl fp).pe) hs, fun g0 F σ H τ E E' rel h ag => ?_⟩
  refine i2 g0 F σ H τ _ _ rel h fun J H1 l e1 wd h1 => ?_
  intro D0 hD
  exact lc_run (K := X.K) (tt := tt) hD wd h1.1.few (rel.st e1) (hg sh H 0 [] []).go (fun g0 F σ H τ Q R rel h q => ⟨g0, F, τ, R, rel, h, q⟩) h1.2 fun x v H' e i r => ag.nx F _ H' _ ((rel.st (e1.trans e)).set i) r
end
/-- a pair of numbers -/
def ivD (q : Int × Int) : D := .tup [.int q.1, .int q.2]
/-! ### statements, loops -/
/-- a block cut at a statement, by what holds behind it -/
theorem seqI {t u : DS} {E : DEn} {τ : Sl} (Good : Sl → Prop) (h1 : ∀ K : Sl → Prop, (∀ τ', Good τ' → K τ') → t { E with nx := K } τ) (h2 : ∀ τ', Good τ' → u E τ') : dSeq t u E τ := h1 (u E) h2
/-- a loop by an invariant over the place -/
theorem forInv {g : DG} {body : DS} {E : DEn} (I : Nat → Sl → Prop) (l : List D) (τ : Sl) (h0 : I 0 τ)
    (step : ∀ (k : Sl → Prop) (i : Nat) (x : D) (τ : Sl), l[i]? = some x → (∀ τ', I (i + 1) τ' → k τ') → I i τ → g x τ fun τ2 => body { nx := k, rt := E.rt, bk := E.nx, ct := k } τ2)
    (fin : ∀ τ, I l.length τ → E.nx τ) : dForGo g body E l τ := by
  have key : ∀ (r : List D) (i : Nat) (τ : Sl), l.drop i = r → i ≤ l.length → I i τ → dForGo g body E r τ := by
    intro r
    induction r with
    | nil =>
      intro i τ e hi h
      have : l.length ≤ i := by
        have := congrArg List.length e
        rw [List.length_drop, List.length_nil] at this
        omega
      have e2 : i = l.length := by omega
      subst e2
      exact fin τ h
    | cons x r ih =>
      intro i τ e hi h
      have hlt : i < l.length := by
        have := congrArg List.length e
        rw [List.length_drop, List.length_cons] at this
        omega
      rw [List.drop_eq_getElem_cons hlt] at e
      injection e with e1 e2
      exact step _ i x τ (by rw [List.getElem?_eq_getElem hlt, e1]) (fun τ' h' => ih (i + 1) τ' e2 hlt h') h
  exact key l 0 τ rfl (Nat.zero_le _) h0
/-- a loop over a list of values, the done part and the next one at hand -/
theorem forList {α : Type} {g : DG} {body : DS} {E : DEn} (c : α → D) (l : List α) (I : List α → Sl → Prop) (τ : Sl) (h0 : I [] τ)
    (step : ∀ (k : Sl → Prop) (done : List α) (x : α) (rest : List α) (τ : Sl), l = done ++ x :: rest → (∀ τ', I (done ++ [x]) τ' → k τ') → I done τ → g (c x) τ fun τ2 => body { nx := k, rt := E.rt, bk := E.nx, ct := k } τ2)
    (fin : ∀ τ, I l τ → E.nx τ) : dForGo g body E (l.map c) τ := by
  have key : ∀ (r done : List α) (τ : Sl), l = done ++ r → I done τ → dForGo g body E (r.map c) τ := by
    intro r
    induction r with
    | nil =>
      intro done τ e h
      rw [List.append_nil] at e
      subst e
      exact fin τ h
    | cons x r ih =>
      intro done τ e h
      exact step _ done x r τ e (fun τ' h' => ih (done ++ [x]) τ' (by rw [e, List.append_assoc]; rfl) h') h
  exact key l [] τ rfl h0
/-- a loop whose body changes nothing that is kept -/
theorem forAll {α : Type} {g : DG} {body : DS} {E : DEn} (c : α → D) (l : List α) (I : Sl → Prop) (τ : Sl) (h0 : I τ)
    (step : ∀ (k : Sl → Prop) (x : α) (τ : Sl), x ∈ l → (∀ τ', I τ' → k τ') → I τ → g (c x) τ fun τ2 => body { nx := k, rt := E.rt, bk := E.nx, ct := k } τ2)
    (fin : ∀ τ, I τ → E.nx τ) : dForGo g body E (l.map c) τ :=
  forList c l (fun _ => I) τ h0 (fun k done x rest τ e => step k x τ (by rw [e]; simp)) fin
/-- while, by an invariant and a measure -/
theorem whileI {c : DT} {body : DS} {E : DEn} (W : Nat → Sl → Prop) (m : Nat) (τ : Sl) (h0 : W m τ)
    (step : ∀ (m : Nat) (τ : Sl) (k : Sl → Prop), (∀ τ' m', m' < m → W m' τ' → k τ') → W m τ → c τ fun b => if b = true then body { nx := k, rt := E.rt, bk := E.nx, ct := k } τ else E.nx τ) : dWhile c body E τ :=
  ⟨W, ⟨m, h0⟩, fun m τ h => step m τ _ (fun τ' m' h1 h2 => ⟨m', h1, h2⟩) h⟩
theorem ifN {c A : Prop} [Decidable c] (h : ¬ c) (k : A) : if c then False else A := by rw [if_neg h]; exact k
theorem ifNr {c A : Prop} [Decidable c] (h : c) (k : A) : if c then A else False := by rw [if_pos h]; exact k
theorem ite2P {c : Prop} [Decidable c] {A B : Prop} (h1 : c → A) (h2 : ¬ c → B) : if c then A else B := by
  by_cases h : c
  · rw [if_pos h]; exact h1 h
  · rw [if_neg h]; exact h2 h
/-! ### comprehensions over lists of values -/
theorem lc_map {α : Type} {g : DG} {te : DE} {τ : Sl} {R : List D → Prop} (c f : α → D) (l : List α) (acc : List D) (h : ∀ x ∈ l, ∀ Q : D → Prop, Q (f x) → g (c x) τ fun τ2 => te τ2 Q) (hR : R (acc ++ l.map f)) : dLcGo g dYes te τ (l.map c) acc R := by
  induction l generalizing acc with
  | nil => simpa [dLcGo] using hR
  | cons x l ih =>
    refine h x List.mem_cons_self _ ?_
    exact ih (acc ++ [f x]) (fun y hy => h y (List.mem_cons_of_mem _ hy)) (by simpa using hR)
theorem lc_if {α : Type} {g : DG} {tt : DT} {te : DE} {τ : Sl} {R : List D → Prop} (c f : α → D) (t : α → Bool) (l : List α) (acc : List D)
    (h : ∀ x ∈ l, ∀ (Q : D → Prop) (Z : Prop), (t x = true → Q (f x)) → (t x = false → Z) → g (c x) τ fun τ2 => tt τ2 fun b => if b = true then te τ2 Q else Z) (hR : R (acc ++ (l.filter t).map f)) : dLcGo g tt te τ (l.map c) acc R := by
  induction l generalizing acc with
  | nil => simpa [dLcGo] using hR
  | cons x l ih =>
    refine h x List.mem_cons_self _ _ (fun e => ih (acc ++ [f x]) (fun y hy => h y (List.mem_cons_of_mem _ hy)) ?_) fun e => ih acc (fun y hy => h y (List.mem_cons_of_mem _ hy)) ?_
    · rw [List.filter_cons_of_pos e] at hR
      simpa using hR
    · rw [List.filter_cons_of_neg (by rw [e]; exact Bool.false_ne_true)] at hR
      exact hR
theorem gen_all {α : Type} {g : DG} {te : DE} {τ : Sl} {R : Bool → Prop} (c : α → D) (f : α → Bool) (l : List α) (h : ∀ x ∈ l, ∀ Q : D → Prop, Q (.bl (f x)) → g (c x) τ fun τ2 => te τ2 Q) (hR : R (l.all f)) : dGenGo true g te τ (l.map c) R := by
  induction l with
  | nil => exact hR
  | cons x l ih =>
    refine h x List.mem_cons_self _ ?_
    show if f x = true then _ else _
    rw [List.all_cons] at hR
    cases e : f x with
    | true =>
      rw [if_pos rfl]
      rw [e, Bool.true_and] at hR
      exact ih (fun y hy => h y (List.mem_cons_of_mem _ hy)) hR
    | false =>
      rw [if_neg Bool.false_ne_true]
      rw [e, Bool.false_and] at hR
      exact hR
theorem gen_any {α : Type} {g : DG} {te : DE} {τ : Sl} {R : Bool → Prop} (c : α → D) (f : α → Bool) (l : List α) (h : ∀ x ∈ l, ∀ Q : D → Prop, Q (.bl (f x)) → g (c x) τ fun τ2 => te τ2 Q) (hR : R (l.any f)) : dGenGo false g te τ (l.map c) R := by
  induction l with
  | nil => exact hR
  | cons x l ih =>
    refine h x List.mem_cons_self _ ?_
    show if f x = false then _ else _
    rw [List.any_cons] at hR
    cases e : f x with
    | false =>
      rw [if_pos rfl]
      rw [e, Bool.false_or] at hR
      exact ih (fun y hy => h y (List.mem_cons_of_mem _ hy)) hR
    | true =>
      rw [if_neg (by decide)]
      rw [e, Bool.true_or] at hR
      exact hR
theorem zipD_map {α β : Type} (c : α → D) (c' : β → D) : ∀ (l : List α) (m : List β), zipD (l.map c) (m.map c') = (l.zip m).map fun q => .tup [c q.1, c' q.2]
  | [], _ => by simp [zipD]
  | _ :: _, [] => by simp [zipD]
  | x :: l, y :: m => by
    simp only [List.map_cons, zipD, List.zip_cons_cons]
    rw [zipD_map c c' l m]
theorem boolsOf_map {α : Type} (f : α → Bool) : ∀ l : List α, boolsOf (l.map fun x => .bl (f x)) = some (l.map f)
  | [] => rfl
  | x :: l => by simp only [List.map_cons, boolsOf, boolsOf_map f l]; rfl
theorem intsOf_map {α : Type} (f : α → Int) : ∀ l : List α, intsOf (l.map fun x => .int (f x)) = some (l.map f)
  | [] => rfl
  | x :: l => by simp only [List.map_cons, intsOf, intsOf_map f l]; rfl
theorem intsOf_int (l : List Int) : intsOf (l.map D.int) = some l := by
  have := intsOf_map (fun x : Int => x) l
  simpa using this
/-! ### shape -/
theorem shps_map {α : Type} {n : Nat} {c : α → D} {l : List α} (h : ∀ x ∈ l, shp n (c x) = true) : shps n (l.map c) = true := by
  induction l with
  | nil => rfl
  | cons x l ih =>
    rw [List.map_cons, shps, h x List.mem_cons_self, ih fun y hy => h y (List.mem_cons_of_mem _ hy)]
    rfl
theorem intsOks_map {α : Type} {c : α → D} {l : List α} (h : ∀ x ∈ l, intsOk (c x)) : intsOks (l.map c) := by
  induction l with
  | nil => exact trivial
  | cons x l ih => exact ⟨h x List.mem_cons_self, ih fun y hy => h y (List.mem_cons_of_mem _ hy)⟩
theorem cnts_map {α : Type} {c : α → D} {l : List α} (k : Nat) (h : ∀ x ∈ l, cnt (c x) ≤ k) : cnts (l.map c) ≤ k * l.length := by
  induction l with
  | nil => exact Nat.le_refl _
  | cons x l ih =>
    have h1 := h x List.mem_cons_self
    have h2 := ih fun y hy => h y (List.mem_cons_of_mem _ hy)
    rw [List.map_cons, cnts, List.length_cons, Nat.mul_succ]
    omega
/-- x == x -/
theorem eqv_self {d : D} (h : shp 60 d = true) : PyData.eqv (toP d) (toP d) = true := PySem.SeqAt.eqv_refl _ ((shp_all 60).1 d h).2.1
theorem gEq_self {d : D} {R : D → Prop} (h : shp 60 d = true) (k : R (.bl true)) : gEq d d R := by
  unfold gEq
  split
  · simpa using k
  · simpa using k
  · simpa using k
  · exact ⟨⟨h, h⟩, by rw [eqv_self h]; exact k⟩
theorem gNe_self {d : D} {R : D → Prop} (h : shp 60 d = true) (k : R (.bl false)) : gNe d d R := by
  unfold gNe
  split
  · simpa using k
  · simpa using k
  · simpa using k
  · exact ⟨⟨h, h⟩, by rw [eqv_self h]; exact k⟩
/-! ### numbers -/
theorem em0 {a n : Int} (h : 0 < n) : 0 ≤ a % n := Int.emod_nonneg a (by omega)
theorem em1 {a n : Int} (h : 0 < n) : a % n < n := Int.emod_lt_of_pos a h
theorem ed0 {a n : Int} (h : 0 ≤ a) (h1 : 0 < n) : 0 ≤ a / n := Int.ediv_nonneg h (by omega)
theorem pot_lo {a n : Int} (h : 0 < n) : 0 ≤ a % n + 1 := by have := em0 (a := a) h; omega
theorem pot_hi {a n : Int} (h : 0 < n) (h2 : n < 4294967295) : a % n + 1 < 4294967296 := by have := em1 (a := a) h; omega
theorem le_sq {r : Int} (h : 0 ≤ r) : r ≤ r * r := by
  by_cases e : r = 0
  · subst e; decide
  · have := Int.mul_le_mul_of_nonneg_left (show 1 ≤ r by omega) h
    omega
theorem sq_le_sq {a b : Int} (h : 0 ≤ a) (hab : a ≤ b) : a * a ≤ b * b := Int.mul_le_mul hab hab h (by omega)
theorem of_sq_lt {a b : Int} (hb : 0 ≤ b) (h : a * a < b * b) : a < b := by
  by_cases c : a < b
  · exact c
  · have := sq_le_sq hb (show b ≤ a by omega)
    omega
theorem of_sq_le {a b : Int} (hb : 0 ≤ b) (h : a * a ≤ b * b) : a ≤ b := by
  by_cases c : a ≤ b
  · exact c
  · have h1 : (b + 1) * (b + 1) ≤ a * a := sq_le_sq (by omega) (by omega)
    have h2 : (b + 1) * (b + 1) = b * b + 2 * b + 1 := by rw [Int.add_mul, Int.mul_add]; omega
    omega
theorem small_log {i : Int} (h0 : -1606938044258990275541962092341162602522202993782792835301376 < i) (h1 : i < 1606938044258990275541962092341162602522202993782792835301376) : i.natAbs.log2 < 1920 := by
  have e : (2 : Nat) ^ 200 = 1606938044258990275541962092341162602522202993782792835301376 := by decide +kernel
  exact Nat.lt_of_lt_of_le (PySem.Flt.log2_lt_of (k := 200) (by decide) (by rw [e]; omega)) (by decide)
end DL
/-! Lists that a def has made and changes. -/
namespace DL
open PySem PySem.Spec L2
open PyProof.Rows hiding St

section
variable {K : PySem.W.Frag} {p : Qt} {g : Gd} {F : List Addr} {H H' : Hp} {σ : L2.St} {τ : Sl} {i : Nat} {a : Addr} {vs : List V} {l : List D}
/-- what a slot held is forgotten, and the slot holds anything -/
theorem Rel.junk (r : Rel K p g F σ H τ) {v : Option V} : Rel K p g F (σ.set i v) H (τ.set i none) := by
  have oth : ∀ (j : Nat) (d : D), (τ.set i none)[j]? = some (some d) → i ≠ j ∧ τ[j]? = some (some d) := fun j l q => by
    rcases set_get q with ⟨rfl, e2, hl⟩ | q
    · cases e2
    · exact q
  refine ⟨r.pk, r.kp, r.sub, r.al, r.fo, fun j e q n => ?_, fun j l q => ?_, fun a b l l' c q1 q2 s1 s2 => ?_, by simp [r.len]⟩
  · obtain ⟨hj, q⟩ := oth j e q
    obtain ⟨u, h1, h2⟩ := r.sl j e q n
    exact ⟨u, by rw [List.getElem?_set_ne hj]; exact h1, h2⟩
  · obtain ⟨hj, q⟩ := oth j _ q
    obtain ⟨a, vs, h1, h2⟩ := r.ow j l q
    exact ⟨a, vs, by rw [List.getElem?_set_ne hj]; exact h1, h2⟩
  · obtain ⟨n1, q1⟩ := oth a _ q1
    obtain ⟨n2, q2⟩ := oth b _ q2
    rw [List.getElem?_set_ne n1] at s1
    rw [List.getElem?_set_ne n2] at s2
    exact r.un a b l l' c q1 q2 s1 s2
theorem set_same {α : Type} : ∀ {σ : List α} {i : Nat} {v : α}, σ[i]? = some v → σ.set i v = σ
  | _ :: _, 0, _, h => by cases h; rfl
  | x :: s, i + 1, v, h => by
    show x :: s.set i v = x :: s
    rw [set_same (by simpa using h)]
theorem Rel.forget (r : Rel K p g F σ H τ) : Rel K p g F σ H (τ.set i none) := by
  by_cases hi : i < σ.length
  · have := r.junk (i := i) (v := σ[i])
    rwa [set_same (List.getElem?_eq_getElem hi)] at this
  · have e : τ.set i none = τ := List.set_eq_of_length_le (by rw [r.len]; omega)
    rw [e]
    exact r
/-- a slot becomes the holder of a list -/
theorem Rel.addOwn (r : Rel K p g F σ H (τ.set i none)) (h1 : σ[i]? = some (some (.ref a))) (h2 : H a = some (.lst vs)) (h3 : a ∈ F) (h4 : a ∉ g.F0) (h5 : IsL K p F H vs l)
    (h6 : ∀ (j : Nat) (m : List D), j ≠ i → τ[j]? = some (some (.own m)) → σ[j]? ≠ some (some (.ref a))) : Rel K p g F σ H (τ.set i (some (.own l))) := by
  have oth : ∀ (j : Nat) (d : D), i ≠ j → τ[j]? = some (some d) → (τ.set i none)[j]? = some (some d) := fun j d n q => by rw [List.getElem?_set_ne n]; exact q
  refine ⟨r.pk, r.kp, r.sub, r.al, r.fo, fun j e q n => ?_, fun j m q => ?_, fun b c m m' x q1 q2 s1 s2 => ?_, by simpa using r.len⟩
  · rcases set_get q with ⟨rfl, e2, _⟩ | ⟨hj, q⟩
    · cases e2
      cases n
    · exact r.sl j e (oth j e hj q) n
  · rcases set_get q with ⟨rfl, e2, _⟩ | ⟨hj, q⟩
    · cases e2
      exact ⟨a, vs, h1, h2, h3, h4, h5⟩
    · exact r.ow j m (oth j _ hj q)
  · rcases set_get q1 with ⟨rfl, e1, _⟩ | ⟨n1, q1⟩
    · rcases set_get q2 with ⟨rfl, _, _⟩ | ⟨n2, q2⟩
      · rfl
      · rw [h1] at s1
        cases s1
        exact absurd s2 (h6 c m' (fun z => n2 z.symm) q2)
    · rcases set_get q2 with ⟨rfl, _, _⟩ | ⟨n2, q2⟩
      · rw [h1] at s2
        cases s2
        exact absurd s1 (h6 b m (fun z => n1 z.symm) q1)
      · exact r.un b c m m' x (oth b _ n1 q1) (oth c _ n2 q2) s1 s2
/-- a new list, shut -/
theorem Rel.shut2 (r : Rel K p g F σ H τ) (e : Ex p H H') (nP : a ≠ p.pot) (hn : ∀ o, NoT o → H a ≠ some o) (hD : H' a = some (.lst vs)) : Rel K p g (a :: F) σ H' τ := by
  have r' := r.st e
  have mo : ∀ b ∈ a :: F, b ∈ F ∨ ∀ o, NoT o → H b ≠ some o := fun b hb => by
    rcases List.mem_cons.mp hb with z | z
    · exact .inr (by rw [z]; exact hn)
    · exact .inl z
  refine ⟨r'.pk, r'.kp, fun b hb => List.mem_cons_of_mem _ (r.sub b hb), fun b hb => ?_, fun b hb => ?_, fun j d h n => ?_, fun j m h => ?_, r.un, r.len⟩
  · rcases List.mem_cons.mp hb with z | z
    · subst z
      exact ⟨nP, _, hD, trivial⟩
    · exact r'.al b z
  · rcases List.mem_cons.mp hb with z | z
    · subst z
      by_cases hB : b ∈ g.B
      · exact .inr (.inl hB)
      · exact .inr (.inr fun o t q => hn o t (r.kp b o nP hB t q))
    · exact r.fo b z
  · obtain ⟨v, h1, h2⟩ := r.sl j d h n
    exact ⟨v, h1, (h2.more mo).mono e.kp⟩
  · obtain ⟨b, ws, h1, h2, h3, h4, h6⟩ := r.ow j m h
    exact ⟨b, ws, h1, e.kp _ _ (r.al b h3).1 (fun _ z => nomatch z) h2, List.mem_cons_of_mem _ h3, h4, (h6.more mo).mono e.kp⟩
/-- a slot takes a new list -/
theorem Rel.takes (r : Rel K p g F σ H τ) (e : Ex p H H') (nP : a ≠ p.pot) (hn : ∀ o, NoT o → H a ≠ some o) (hD : H' a = some (.lst vs)) (il : IsL K p (a :: F) H' vs l) (hi : i < σ.length) : Rel K p g (a :: F) (σ.set i (some (.ref a))) H' (τ.set i (some (.own l))) := by
  have r1 := r.shut2 e nP hn hD
  have nF : a ∉ F := fun z => by
    obtain ⟨_, o, h1, h2⟩ := r.al a z
    exact hn o h2.noT h1
  have r2 : Rel K p g (a :: F) (σ.set i (some (.ref a))) H' (τ.set i none) := r1.junk
  refine r2.addOwn (by rw [List.getElem?_set_self hi]) hD List.mem_cons_self (fun z => nF (r.sub a z)) il fun j m hj hm z => ?_
  rw [List.getElem?_set_ne (fun y => hj y.symm)] at z
  obtain ⟨b, ws, h1, _, h3, _⟩ := r.ow j m hm
  rw [z] at h1
  cases h1
  exact nF h3
/-- a list changed -/
theorem Rel.puts {ws : List V} {l' : List D} (r : Rel K p g F σ H τ) (hτ : τ[i]? = some (some (.own l))) (h1 : σ[i]? = some (some (.ref a))) (il : IsL K p F H ws l') : Rel K p g F σ (upd H a (.lst ws)) (τ.set i (some (.own l'))) ∧ ∀ w y, Is K p F H w y → Is K p F (upd H a (.lst ws)) w y := by
  obtain ⟨b, us, k1, k2, k3, k4, k5⟩ := r.ow i l hτ
  rw [h1] at k1
  cases k1
  have ho : ∀ (j : Nat) (m : List D), j ≠ i → τ[j]? = some (some (.own m)) → σ[j]? ≠ some (some (.ref a)) := fun j m hj hm z => hj (r.un j i m l a hm hτ z h1)
  have hg : a ∈ g.B ∨ ∀ o, NoT o → g.H0 a ≠ some o := (r.fo a k3).elim (fun z => absurd z k4) id
  obtain ⟨r2, isk⟩ := (r.forget (i := i)).wrote (xs := ws) k3 k2 hg fun j m q z => by
    rcases set_get q with ⟨rfl, e2, _⟩ | ⟨hj, q⟩
    · cases e2
    · exact ho j m (fun y => hj y.symm) q z
  exact ⟨r2.addOwn h1 upd_same k3 k4 (il.all isk) ho, isk⟩
/-- a list no more changed -/
theorem Rel.frees (r : Rel K p g F σ H τ) (hτ : τ[i]? = some (some (.own l))) (h1 : σ[i]? = some (some (.ref a))) : Rel K p g (F.filter fun b => decide (b ≠ a)) σ H (τ.set i (some (.lst l))) := by
  obtain ⟨b, us, k1, k2, k3, k4, k5⟩ := r.ow i l hτ
  rw [h1] at k1
  cases k1
  have inF : ∀ b, b ∈ F.filter (fun b => decide (b ≠ a)) ↔ b ∈ F ∧ b ≠ a := fun b => by rw [List.mem_filter, decide_eq_true_iff]
  have sub : ∀ b ∈ F.filter (fun b => decide (b ≠ a)), b ∈ F := fun b hb => ((inF b).mp hb).1
  have hi : i < τ.length := (List.getElem?_eq_some_iff.mp hτ).1
  refine ⟨r.pk, r.kp, fun b hb => (inF b).mpr ⟨r.sub b hb, fun z => k4 (z ▸ hb)⟩, fun b hb => r.al b (sub b hb), fun b hb => r.fo b (sub b hb), fun j d q n => ?_, fun j m q => ?_, fun b c m m' x q1 q2 s1 s2 => ?_, by simpa using r.len⟩
  · rcases set_get q with ⟨rfl, e2, _⟩ | ⟨hj, q⟩
    · cases e2
      exact ⟨.ref a, h1, .lst (Rd.of k2) ⟨(r.al a k3).1, fun z => ((inF a).mp z).2 rfl⟩ (k5.less sub)⟩
    · obtain ⟨v, g1, g2⟩ := r.sl j d q n
      exact ⟨v, g1, g2.less sub⟩
  · rcases set_get q with ⟨rfl, e2, _⟩ | ⟨hj, q⟩
    · cases e2
    · obtain ⟨b, ws, g1, g2, g3, g4, g5⟩ := r.ow j m q
      exact ⟨b, ws, g1, g2, (inF b).mpr ⟨g3, fun z => hj (r.un i j l m a hτ q h1 (by rw [g1, z]))⟩, g4, g5.less sub⟩
  · rcases set_get q1 with ⟨rfl, e1, _⟩ | ⟨n1, q1⟩
    · cases e1
    · rcases set_get q2 with ⟨rfl, e2, _⟩ | ⟨n2, q2⟩
      · cases e2
      · exact r.un b c m m' x q1 q2 s1 s2
end

/-! ### new lists -/
structure PDF (X : Cx) (p : Qt) (e : Expr) (d : DA) : Prop where
  run : ∃ t, PE X e t ∧ ∀ (g0 : Gd) (F : List Addr) (σ : L2.St) (H : Hp) (τ : Sl) (Q : VK) (R : List D → Prop), Rel X.K p g0 F σ H τ → d τ R →
    (∀ l a vs H', Ex p H H' → a ≠ p.pot → (∀ o, NoT o → H a ≠ some o) → H' a = some (.lst vs) → IsL X.K p (a :: F) H' vs l → R l → Q (.ref a) H') → t σ H Q
section
variable {X : Cx} {p : Qt} {pos : Pos}
theorem IsL.fresh {K : PySem.W.Frag} {F : List Addr} {H : Hp} {a : Addr} {o : HO} {vs : List V} {l : List D} (pk : Pk p H) (hn : H a = none) (h : IsL K p F H vs l) : IsL K p (a :: F) (upd H a o) vs l := by
  refine (h.more fun b hb => ?_).mono (Ex.new (o := o) pk hn).kp
  rcases List.mem_cons.mp hb with z | z
  · exact .inr fun o _ q => by rw [z, hn] at q; cases q
  · exact .inl z
theorem Ex.nothere {H H1 : Hp} {a : Addr} (e : Ex p H H1) (hn : H1 a = none) : a ≠ p.pot ∧ ∀ o, NoT o → H a ≠ some o := by
  have nP := e.pk.ne hn
  exact ⟨nP, fun o t q => by
    have := e.kp a o nP t q
    rw [hn] at this
    cases this⟩
theorem pdf_lst {es : List Expr} {ds : DA} (ha : PDA X p es ds) (hl : es.length ≤ sizeLine := by decide) : PDF X p (.List es pos) ds := by
  obtain ⟨t, h1, h2⟩ := ha.run
  refine ⟨_, pe_lst h1, fun g0 F σ H τ Q R rel h q => ?_⟩
  refine h2 g0 F σ H τ _ _ rel h fun xs vs H1 e1 i1 l1 h1 => ⟨by rw [l1]; exact hl, fun a hn => ?_⟩
  obtain ⟨nP, nh⟩ := e1.nothere hn
  exact q xs a vs _ (e1.trans (.new e1.pk hn)) nP nh upd_same (i1.fresh e1.pk hn) h1
theorem lc_runF {K : PySem.W.Frag} {J : It} {g0 : Gd} {F : List Addr} {H1 : Hp} {l : List D} {D0 : Addr} {g : DG} {tt : DT} {te : DE} {tgt : TG} {tT : TT} {vs : List Nat} {σ : L2.St} {τ : Sl} {Q : VK} {R : List D → Prop} (hD : H1 D0 = none) (wd : WD K p F J H1 l) (hl : l.length ≤ 1000000) (rel : Rel K p g0 F σ H1 τ)
    (hg : ∀ (v : V) (x : D) (g0 : Gd) (F : List Addr) (σ : L2.St) (H : Hp) (τ : Sl) (Q : L2.St → Hp → Prop) (R : Sl → Prop), Rel K p g0 F σ H τ → Is K p F H v x → g x τ R → (∀ σ' H' τ', Ex p H H' → Rel K p g0 F σ' H' τ' → wipe σ' vs = wipe σ vs → R τ' → Q σ' H') → tgt v σ H Q)
    (ht : ∀ (g0 : Gd) (F : List Addr) (σ : L2.St) (H : Hp) (τ : Sl) (Q : Bool → Hp → Prop) (R : Bool → Prop), Rel K p g0 F σ H τ → tt τ R → (∀ b H', Ex p H H' → R b → Q b H') → tT σ H Q)
    (h : dLcGo g tt te (wipeD τ vs) l [] R) (q : ∀ l a vs H', Ex p H1 H' → a ≠ p.pot → (∀ o, NoT o → H1 a ≠ some o) → H' a = some (.lst vs) → IsL K p (a :: F) H' vs l → R l → Q (.ref a) H') :
    ∃ W : Nat → Nat → Hp → Prop, (∃ m, W 0 m (upd H1 D0 (.lst []))) ∧ ∀ i m H, W i m H → (J.stop i H ∧ Q (.ref D0) H) ∨ (J.go i H ∧ ∃ Nx : Hp → Prop, (∀ H', Nx H' → ∃ m', m' < m ∧ W (i + 1) m' H') ∧
      ∀ x H', J.yld i H x H' → tgt x (wipe σ vs) H' fun σ2 H2 => wipe σ2 vs = wipe σ vs ∧ tT σ2 H2 fun b H3 => if b = true then liftE K p te σ2 H3 fun y H4 => ∃ acc, H4 D0 = some (.lst acc) ∧ acc.length < sizeLine ∧ Nx (upd H4 D0 (.lst (acc ++ [y]))) else Nx H3) := by
  have nD := rel.notF hD
  have r0 := rel.wipe vs
  have start : Ex p H1 (upd H1 D0 (.lst [])) := .new rel.pk hD
  have mo : ∀ b ∈ D0 :: F, b ∈ F ∨ ∀ o, NoT o → H1 b ≠ some o := fun b hb => by
    rcases List.mem_cons.mp hb with z | z
    · exact .inr fun o _ q => by rw [z, hD] at q; cases q
    · exact .inl z
  have hgD : D0 ∈ g0.B ∨ ∀ o, NoT o → g0.H0 D0 ≠ some o := by
    by_cases hB : D0 ∈ g0.B
    · exact .inl hB
    · exact .inr fun o t q => by
        have := rel.kp D0 o nD.1 hB t q
        rw [hD] at this
        cases this
  have ho : ∀ (i : Nat) (l : List D), (wipeD τ vs)[i]? = some (some (D.own l)) → (wipe σ vs)[i]? ≠ some (some (V.ref D0)) := fun i l h1 h2 => by
    obtain ⟨a, us, k1, k2, _⟩ := r0.ow i l h1
    rw [h2] at k1
    cases k1
    rw [hD] at k2
    cases k2
  refine ⟨fun i m H => i ≤ l.length ∧ m = l.length - i ∧ Ex p H1 H ∧ Rel K p g0 (D0 :: F) (wipe σ vs) H (wipeD τ vs) ∧ ∃ va acc, H D0 = some (.lst va) ∧ IsL K p (D0 :: F) H va acc ∧ acc.length ≤ i ∧ dLcGo g tt te (wipeD τ vs) (l.drop i) acc R,
    ⟨_, Nat.zero_le _, rfl, start, r0.shut hD, [], [], upd_same, .nil, Nat.le_refl _, h⟩, ?_⟩
  rintro i m H ⟨hi, rfl, ex, rl, va, acc, hva, iva, lva, h⟩
  by_cases hlt : i < l.length
  · obtain ⟨go, y⟩ := wd.step i H (D0 :: F) ex.toF (fun z => (z.more mo).mono ex.kp) rl.pkf hlt
    refine .inr ⟨go, fun H' => Ex p H1 H' ∧ Rel K p g0 (D0 :: F) (wipe σ vs) H' (wipeD τ vs) ∧ ∃ va acc, H' D0 = some (.lst va) ∧ IsL K p (D0 :: F) H' va acc ∧ acc.length ≤ i + 1 ∧ dLcGo g tt te (wipeD τ vs) (l.drop (i + 1)) acc R, fun H' ⟨q1, q2, q3⟩ => ⟨_, by omega, hlt, rfl, q1, q2, q3⟩, fun x H2 yl => ?_⟩
    obtain ⟨e2, d, hd, hx⟩ := y x H2 yl
    rw [drop_at hd] at h
    refine hg x d g0 (D0 :: F) _ H2 _ _ _ (rl.st e2) hx h fun σ3 H3 τ3 e3 rel3 w3 h3 => ⟨by rw [w3, wipe_idem], ?_⟩
    refine ht g0 (D0 :: F) σ3 H3 τ3 _ _ rel3 h3 fun b H4 e4 h4 => ?_
    have e24 := (e2.trans e3).trans e4
    have ex4 := ex.trans e24
    have nDp : D0 ≠ p.pot := nD.1
    have hva4 : H4 D0 = some (.lst va) := e24.kp _ _ nDp (fun _ z => nomatch z) hva
    cases b with
    | true =>
      rw [if_pos rfl] at h4 ⊢
      refine ⟨g0, D0 :: F, τ3, _, rel3.st e4, h4, fun z v H5 e5 i5 h5 => ?_⟩
      have hva5 : H5 D0 = some (.lst va) := e5.kp _ _ nDp (fun _ z => nomatch z) hva4
      have len := iva.len
      have rl5 := (rl.st e24).st e5
      obtain ⟨rw5, isk⟩ := rl5.wrote List.mem_cons_self hva5 hgD ho (xs := va ++ [v])
      refine ⟨va, hva5, ?_, ?_, rw5, va ++ [v], acc ++ [z], upd_same, (((iva.mono e24.kp).mono e5.kp).app (.cons i5 .nil)).all isk, by rw [List.length_append]; simp; omega, h5⟩
      · have : sizeLine = 16777216 := sizeLine_eq
        omega
      · have ex5 := ex4.trans e5
        exact ⟨fun b o nb t e => by rw [upd_ne (ne_of_none e hD)]; exact ex5.kp b o nb t e, rw5.pk⟩
    | false =>
      rw [if_neg Bool.false_ne_true] at h4 ⊢
      exact ⟨ex4, rl.st e24, va, acc, hva4, iva.mono e24.kp, by omega, h4⟩
  · have e : i = l.length := by omega
    subst e
    rw [List.drop_length] at h
    exact .inl ⟨wd.stop H ex.toF, q acc D0 va H ex nD.1 (fun o _ z => by rw [hD] at z; cases z) hva iva h⟩

def dLcF (it : DI) (g : DG) (tt : DT) (te : DE) (own : List Nat) : DA := fun τ R => it τ fun l => LenOk l ∧ dLcGo g tt te (wipeD τ own) l [] R
theorem pdf_lc {elt tg iter : Expr} {scope : Scope} {own : List (Str × Nat)} {it : DI} {g : DG} {te : DE} {t : TG} (hc : X.calm = true) (hN : X.N.Nodup) (hi : PDI X p tg iter it) (ok : blkC X.N X.env.scope scope own = true)
    (hg : ∀ (s : Shared) (H : Hp) (C : Addr) (cl : List (Str × Addr)) (fp : List Addr), PDGw (X.blk s H scope (compEnvC scope cl C X.env) fp) p (own.map (·.2)) tg g t)
    (he : ∀ (s : Shared) (H : Hp) (C : Addr) (cl : List (Str × Addr)) (fp : List Addr), PD (X.blk s H scope (compEnvC scope cl C X.env) fp) p elt te) (hs : ∀ x, foldedSetIterable iter X.env x = pure x := by intro _; rfl) (sh : Shared) :
    PDF X p (.ListComp elt [⟨tg, iter, [], 0⟩] scope pos) (dLcF it g dYes te (own.map (·.2))) := by
  obtain ⟨wi, i1, i2⟩ := hi.run
  refine ⟨_, pe_lc (te := liftE X.K p te) hc hN i1 (blkOk_by ok) (fun s H C cl fp => (hg s H C cl fp).pg) (fun _ _ _ _ _ => pts_nil) (fun s H C cl fp => (he s H C cl fp).pe) hs, fun g0 F σ H τ Q R rel h q => ?_⟩
  refine i2 g0 F σ H τ _ _ rel h fun J H1 l e1 wd h1 => ?_
  intro D0 hD
  exact lc_runF (K := X.K) (tt := dYes) hD wd h1.1.few (rel.st e1) (hg sh H 0 [] []).go (fun g0 F σ H τ Q R rel h q => q true H (.refl rel.pk) h) h1.2 fun l a vs H' e n1 n2 h3 i r => q l a vs H' (e1.trans e) n1 (fun o t z => n2 o t (e1.kp a o n1 t z)) h3 i r
theorem pdf_lcI {elt tg iter c : Expr} {scope : Scope} {own : List (Str × Nat)} {it : DI} {g : DG} {te : DE} {tt : DT} {t : TG} (hc : X.calm = true) (hN : X.N.Nodup) (hi : PDI X p tg iter it) (ok : blkC X.N X.env.scope scope own = true)
    (hg : ∀ (s : Shared) (H : Hp) (C : Addr) (cl : List (Str × Addr)) (fp : List Addr), PDGw (X.blk s H scope (compEnvC scope cl C X.env) fp) p (own.map (·.2)) tg g t)
    (ht : ∀ (s : Shared) (H : Hp) (C : Addr) (cl : List (Str × Addr)) (fp : List Addr), PDT (X.blk s H scope (compEnvC scope cl C X.env) fp) p c tt)
    (he : ∀ (s : Shared) (H : Hp) (C : Addr) (cl : List (Str × Addr)) (fp : List Addr), PD (X.blk s H scope (compEnvC scope cl C X.env) fp) p elt te) (hs : ∀ x, foldedSetIterable iter X.env x = pure x := by intro _; rfl) (sh : Shared) :
    PDF X p (.ListComp elt [⟨tg, iter, [c], 0⟩] scope pos) (dLcF it g tt te (own.map (·.2))) := by
  obtain ⟨wi, i1, i2⟩ := hi.run
  refine ⟨_, pe_lc (te := liftE X.K p te) (tt := liftT X.K p tt) hc hN i1 (blkOk_by ok) (fun s H C cl fp => (hg s H C cl fp).pg) (fun s H C cl fp => pts_one (ht s H C cl fp).pt) (fun s H C cl fp => (he s H C cl fp).pe) hs, fun g0 F σ H τ Q R rel h q => ?_⟩
  refine i2 g0 F σ H τ _ _ rel h fun J H1 l e1 wd h1 => ?_
  intro D0 hD
  exact lc_runF (K := X.K) (tt := tt) hD wd h1.1.few (rel.st e1) (hg sh H 0 [] []).go (fun g0 F σ H τ Q R rel h q => ⟨g0, F, τ, R, rel, h, q⟩) h1.2 fun l a vs H' e n1 n2 h3 i r => q l a vs H' (e1.trans e) n1 (fun o t z => n2 o t (e1.kp a o n1 t z)) h3 i r
/-! ### statements -/
def dOwn (d : DA) (i : Nat) : DS := fun E τ => d τ fun l => E.nx (τ.set i (some (.own l)))
theorem pds_own {i : Nat} {x : Str} {pos' : Pos} {e : Expr} {d : DA} (hN : X.N.Nodup) (hi : X.N[i]? = some x) (hx : Loc X.env.scope x) (he : PDF X p e d) (hs : swapsWith e (some (.Name x pos')) pos.line X.env = pure false := by rfl) (hf : X.fn x = true ∨ X.env.scope.names.lookup x = some .local := by first | exact .inl rfl | exact .inr rfl | assumption) :
    PDS X p (.Assign [.Name x pos'] e pos) (dOwn d i) := by
  obtain ⟨a, a1, a2⟩ := he.run
  refine ⟨_, ps_set hN hi hx a1 hs hf, fun g F σ H τ E E' rel h ag => ?_⟩
  refine a2 g F σ H τ _ _ rel h fun l a vs H' e nP hn hD il r => ?_
  by_cases hl : i < σ.length
  · exact ag.nx _ _ H' _ (rel.takes e nP hn hD il hl) r
  · have e1 : τ.set i (some (.own l)) = τ := List.set_eq_of_length_le (by rw [rel.len]; omega)
    have e2 : σ.set i (some (V.ref a)) = σ := List.set_eq_of_length_le (by omega)
    rw [e1] at r
    show E.nx (σ.set i (some (V.ref a))) H'
    rw [e2]
    exact ag.nx _ _ H' _ (rel.st e) r
/-- name = [..] on one line -/
theorem pds_ownLc {i : Nat} {y : Str} {py spos : Pos} {elt tg iter : Expr} {scope : Scope} {own : List (Str × Nat)} {it : DI} {g : DG} {te : DE} {t : TG} (hc : X.calm = true) (hN : X.N.Nodup) (hy : X.N[i]? = some y) (hyl : X.env.scope.names.lookup y = some .local)
    (hi : PDI X p tg iter it) (ok : blkC X.N X.env.scope scope own = true)
    (hg : ∀ (s : Shared) (H : Hp) (C : Addr) (cl : List (Str × Addr)) (fp : List Addr), PDGw (X.blk s H scope (compEnvC scope cl C X.env) fp) p (own.map (·.2)) tg g t)
    (he : ∀ (s : Shared) (H : Hp) (C : Addr) (cl : List (Str × Addr)) (fp : List Addr), PD (X.blk s H scope (compEnvC scope cl C X.env) fp) p elt te) (sh : Shared)
    (hsw : swapsWith (.ListComp elt [⟨tg, iter, [], 0⟩] scope pos) (some (.Name y py)) spos.line X.env = pure true := by rfl) (hs : ∀ x, foldedSetIterable iter X.env x = pure x := by intro _; rfl) :
    PDS X p (.Assign [.Name y py] (.ListComp elt [⟨tg, iter, [], 0⟩] scope pos) spos) (dOwn (dLcF it g dYes te (own.map (·.2))) i) := by
  obtain ⟨wi, i1, i2⟩ := hi.run
  refine ⟨_, ps_setLc (te := liftE X.K p te) hc hN hy hyl hsw i1 (blkOk_by ok) (fun s H C cl fp => (hg s H C cl fp).pg) (fun _ _ _ _ _ => pts_nil) (fun s H C cl fp => (he s H C cl fp).pe) hs, fun g0 F σ H τ E E' rel h ag => ?_⟩
  refine i2 g0 F σ H τ _ _ rel h fun J H1 l e1 wd h1 => ?_
  intro D0 hD
  refine lc_runF (K := X.K) (tt := dYes) (tT := tYes) (Q := fun x H1 => gName i x σ H1 E.nx) hD wd h1.1.few (rel.st e1) (hg sh H 0 [] []).go (fun g0 F σ H τ Q R rel h q => q true H (.refl rel.pk) h) h1.2 fun l a vs H' e n1 n2 h3 il r => ?_
  by_cases hl : i < σ.length
  · exact ag.nx _ _ H' _ (rel.takes (e1.trans e) n1 (fun o t z => n2 o t (e1.kp a o n1 t z)) h3 il hl) r
  · have e1' : τ.set i (some (.own l)) = τ := List.set_eq_of_length_le (by rw [rel.len]; omega)
    have e2' : σ.set i (some (V.ref a)) = σ := List.set_eq_of_length_le (by omega)
    rw [e1'] at r
    show E.nx (σ.set i (some (V.ref a))) H'
    rw [e2']
    exact ag.nx _ _ H' _ (rel.st (e1.trans e)) r
/-- x.append(e) -/
def dApp (i : Nat) (d : DE) : DS := fun E τ => match τ[i]? with
  | some (some (.own l)) => d τ fun x => l.length ≤ 1000000 ∧ E.nx (τ.set i (some (.own (l ++ [x]))))
  | _ => False
theorem pds_app {i : Nat} {x : Str} {px apos cpos : Pos} {e : Expr} {d : DE} (he : PD X p e d) (hN : X.N[i]? = some x := by rfl) (hv : Vis X.env.scope x := by first | exact Or.inl rfl | exact Or.inr (Or.inl rfl) | exact Or.inr (Or.inr rfl)) (hd : (x == ("__debug__" : Str)) = false := by decide)
    (hcd : (x == ("__classdict__" : Str)) = false := by decide) (hs : swapsWith (.Call (.Attribute (.Name x px) "append" apos) [e] [] cpos) none pos.line X.env = pure false := by rfl)
    (hbase : attributeBase (.Name x px) "append" X.env (eval (.Name x px) X.env) = eval (.Name x px) X.env := by rfl)
    (hfew : ((backTo cpos (starEach [e] X.env)).all (fun x => !x.1) && (backToKw cpos (keywordEach [] X.env)).all (fun x => x.1.isSome)
      && decide (([e] : List Expr).length + ([] : List Keyword).length + (if ([] : List Keyword).isEmpty then 0 else 1) < 30)) = true := by rfl)
    (hline : (apos.endLine == cpos.line) = true := by rfl) (hst : starEach [e] X.env = (false, eval e X.env) :: starEach [] X.env := by rfl) (hplain : (backTo cpos (starEach [] X.env)).any (·.1) = false := by rfl) :
    PDS X p (.Expr (.Call (.Attribute (.Name x px) "append" apos) [e] [] cpos) pos) (dApp i d) := by
  obtain ⟨t, h1, h2⟩ := (pda_cons he pda_nil hst).run
  refine ⟨_, ps_expr (pe_bm PySem.F.plainAttrs_list PySem.F.slot_list_append PySem.F.type_list_append mt_append (pe_var hN hv hd hcd) h1 hbase hfew hline hst hplain) hs, fun g0 F σ H τ E E' rel h ag => ?_⟩
  unfold dApp at h
  split at h
  · rename_i l ht
    obtain ⟨a, vs, s1, s2, s3, s4, s5⟩ := rel.ow i l ht
    refine ⟨.ref a, s1, .inl ⟨rfl, vs, .inl (.inl s2)⟩, ?_⟩
    refine h2 g0 F σ H τ _ (fun xs => match xs with | [x] => l.length ≤ 1000000 ∧ E'.nx (τ.set i (some (.own (l ++ [x])))) | _ => False) rel h fun xs ws H1 e1 i1 l1 h1 => ?_
    cases i1 with
    | nil => exact h1.elim
    | cons i1 i2 =>
      cases i2 with
      | cons _ _ => exact h1.elim
      | nil =>
        have s2' := e1.kp a (.lst vs) (rel.al a s3).1 (fun _ z => nomatch z) s2
        have len := s5.len
        refine ⟨a, vs, _, rfl, rfl, s2', by have : sizeLine = 16777216 := sizeLine_eq; omega, ?_⟩
        exact ag.nx F σ _ _ ((rel.st e1).puts ht s1 ((s5.mono e1.kp).app (.cons i1 .nil))).1 h1.2
  · exact h.elim
/-- x.extend([..]) -/
def dExt (i : Nat) (d : DA) : DS := fun E τ => match τ[i]? with
  | some (some (.own l)) => d τ fun m => l.length + m.length ≤ 1000000 ∧ E.nx (τ.set i (some (.own (l ++ m))))
  | _ => False
theorem pds_ext {i : Nat} {x : Str} {px apos cpos : Pos} {e : Expr} {d : DA} (he : PDF X p e d) (hN : X.N[i]? = some x := by rfl) (hv : Vis X.env.scope x := by first | exact Or.inl rfl | exact Or.inr (Or.inl rfl) | exact Or.inr (Or.inr rfl)) (hd : (x == ("__debug__" : Str)) = false := by decide)
    (hcd : (x == ("__classdict__" : Str)) = false := by decide) (hs : swapsWith (.Call (.Attribute (.Name x px) "extend" apos) [e] [] cpos) none pos.line X.env = pure false := by rfl)
    (hbase : attributeBase (.Name x px) "extend" X.env (eval (.Name x px) X.env) = eval (.Name x px) X.env := by rfl)
    (hfew : ((backTo cpos (starEach [e] X.env)).all (fun x => !x.1) && (backToKw cpos (keywordEach [] X.env)).all (fun x => x.1.isSome)
      && decide (([e] : List Expr).length + ([] : List Keyword).length + (if ([] : List Keyword).isEmpty then 0 else 1) < 30)) = true := by rfl)
    (hline : (apos.endLine == cpos.line) = true := by rfl) (hst : starEach [e] X.env = (false, eval e X.env) :: starEach [] X.env := by rfl) (hplain : (backTo cpos (starEach [] X.env)).any (·.1) = false := by rfl) :
    PDS X p (.Expr (.Call (.Attribute (.Name x px) "extend" apos) [e] [] cpos) pos) (dExt i d) := by
  obtain ⟨t, h1, h2⟩ := he.run
  refine ⟨_, ps_expr (pe_bm PySem.F.plainAttrs_list PySem.F.slot_list_extend PySem.F.type_list_extend mt_extend (pe_var hN hv hd hcd) (pa_cons h1 pa_nil hst) hbase hfew hline hst hplain) hs, fun g0 F σ H τ E E' rel h ag => ?_⟩
  unfold dExt at h
  split at h
  · rename_i l ht
    obtain ⟨a, vs, s1, s2, s3, s4, s5⟩ := rel.ow i l ht
    refine ⟨.ref a, s1, .inl ⟨rfl, vs, .inl (.inl s2)⟩, ?_⟩
    refine h2 g0 F σ H τ _ _ rel h fun m b ws H1 e1 nP hn hD il h1 => ?_
    have s2' := e1.kp a (.lst vs) (rel.al a s3).1 (fun _ z => nomatch z) s2
    have len := s5.len
    have len2 := il.len
    refine ⟨a, b, vs, ws, rfl, rfl, s2', hD, by have : sizeLine = 16777216 := sizeLine_eq; omega, ?_⟩
    exact ag.nx F σ _ _ ((rel.st e1).puts ht s1 ((s5.mono e1.kp).app (il.less fun b hb => List.mem_cons_of_mem _ hb))).1 h1.2
  · exact h.elim
/-- a list is no more changed -/
def dFree (i : Nat) (d : DS) : DS := fun E τ => match τ[i]? with
  | some (some (.own l)) => d E (τ.set i (some (.lst l)))
  | _ => d E τ
theorem pds_free {st : Stmt} {d : DS} (i : Nat) (h : PDS X p st d) : PDS X p st (dFree i d) := by
  obtain ⟨t, h1, h2⟩ := h.run
  refine ⟨t, h1, fun g F σ H τ E E' rel hh ag => ?_⟩
  unfold dFree at hh
  split at hh
  · rename_i l ht
    obtain ⟨a, vs, s1, _⟩ := rel.ow i l ht
    exact h2 g _ σ H _ E E' (rel.frees ht s1) hh ag
  · exact h2 g F σ H τ E E' rel hh ag
/-- x[i] = .. -/
def gPutO (i : Nat) (d : DE) : DG := fun x τ R => match τ[i]? with
  | some (some (.own l)) => d τ fun k => match k with
    | .int k => (0 ≤ k ∧ k.toNat < l.length) ∧ R (τ.set i (some (.own (l.set k.toNat x))))
    | _ => False
  | _ => False
theorem IsL.set {K : PySem.W.Frag} {F : List Addr} {H : Hp} {v : V} {d : D} (hv : Is K p F H v d) : ∀ {vs : List V} {l : List D} (j : Nat), IsL K p F H vs l → IsL K p F H (vs.set j v) (l.set j d)
  | _, _, _, .nil => .nil
  | _, _, 0, .cons _ t => .cons hv t
  | _, _, j + 1, .cons h t => .cons h (IsL.set hv j t)
theorem pdg_putO {i : Nat} {x : Str} {px tpos : Pos} {e : Expr} {d : DE} (he : PD X p e d) (hN : X.N[i]? = some x := by rfl) (hv : Vis X.env.scope x := by first | exact Or.inl rfl | exact Or.inr (Or.inl rfl) | exact Or.inr (Or.inr rfl)) (hd : (x == ("__debug__" : Str)) = false := by decide)
    (hcd : (x == ("__classdict__" : Str)) = false := by decide)
    (ha : ∀ v, assign (.Subscript (.Name x px) e tpos) X.env v = (do
      let ov ← holding [v] (eval (.Name x px) X.env)
      let iv ← holding [v, ov] (eval e X.env)
      standAt tpos
      holding [v, ov, iv] (setItem ov iv v)
      release [v, ov, iv] []) := by intro _; rfl) : PDG X p (.Subscript (.Name x px) e tpos) (gPutO i d) := by
  obtain ⟨t, h1, h2⟩ := he.run
  refine ⟨_, pg_sub (pe_var hN hv hd hcd) h1 set_list ha, fun v y g F σ H τ Q R rel iv h q => ?_⟩
  unfold gPutO at h
  split at h
  · rename_i l ht
    obtain ⟨a, vs, s1, s2, s3, s4, s5⟩ := rel.ow i l ht
    refine ⟨.ref a, s1, ?_⟩
    refine h2 g F σ H τ _ _ rel h fun k kv H1 e1 i1 h1 => ?_
    have s2' := e1.kp a (.lst vs) (rel.al a s3).1 (fun _ z => nomatch z) s2
    have len := s5.len
    cases i1 with
    | int k =>
      obtain ⟨⟨k0, k1⟩, h1⟩ := h1
      have hj : ixN vs.length k = some k.toNat := by
        unfold ixN
        rw [if_pos k0, if_pos (by omega)]
      refine ⟨a, vs, k, k.toNat, rfl, rfl, s2', hj, ?_⟩
      obtain ⟨r2, isk⟩ := (rel.st e1).puts ht s1 (IsL.set (iv.mono e1.kp) k.toNat (s5.mono e1.kp))
      exact q σ _ _ r2 (fun w y z => isk w y (z.mono e1.kp)) h1
    | _ => exact (show False from h1).elim
  · exact h.elim
/-! ### looks at a list that is changed -/
/-- x[i] -/
def dIxO (i : Nat) (d : DE) : DE := fun τ R => match τ[i]? with
  | some (some (.own l)) => d τ fun k => match k with
    | .int k => match atD l k with
      | some x => R x
      | none => False
    | _ => False
  | _ => False
theorem pd_ixO {i : Nat} {x : Str} {px : Pos} {e : Expr} {d : DE} (he : PD X p e d) (hN : X.N[i]? = some x := by rfl) (hv : Vis X.env.scope x := by first | exact Or.inl rfl | exact Or.inr (Or.inl rfl) | exact Or.inr (Or.inr rfl)) (hd : (x == ("__debug__" : Str)) = false := by decide)
    (hcd : (x == ("__classdict__" : Str)) = false := by decide) (hn : ∀ lo hi st sp, e ≠ .Slice lo hi st sp := by intros; exact fun z => nomatch z) : PD X p (.Subscript (.Name x px) e pos) (dIxO i d) := by
  obtain ⟨t, h1, h2⟩ := he.run
  refine ⟨_, pe_ix ix_list (pe_var hN hv hd hcd) h1 (fun _ _ => by cases e <;> first | rfl | exact absurd rfl (hn _ _ _ _)), fun g F σ H τ Q R rel h q => ?_⟩
  unfold dIxO at h
  split at h
  · rename_i l ht
    obtain ⟨a, vs, s1, s2, s3, s4, s5⟩ := rel.ow i l ht
    refine ⟨.ref a, s1, ?_⟩
    refine h2 g F σ H τ _ _ rel h fun k kv H1 e1 i1 h1 => ?_
    have s2' := e1.kp a (.lst vs) (rel.al a s3).1 (fun _ z => nomatch z) s2
    cases i1 with
    | int k =>
      have h1' : match atD l k with | some x => R x | none => False := h1
      split at h1'
      · rename_i y ey
        obtain ⟨w, k1, k2⟩ := (s5.mono e1.kp).atI (atD_at ey)
        exact ⟨a, vs, k, w, rfl, rfl, .inl (.inl s2'), k1, q y w H1 e1 k2 h1'⟩
      · exact h1'.elim
    | _ => exact (show False from h1).elim
  · exact h.elim
/-- an expression that looks at it, and whose value holds no list -/
def dLend (i : Nat) (d : DE) : DE := fun τ R => match τ[i]? with
  | some (some (.own l)) => d (τ.set i (some (.lst l))) fun x => noL x = true ∧ R x
  | _ => d τ R
theorem pd_lend {e : Expr} {d : DE} (i : Nat) (he : PD X p e d) : PD X p e (dLend i d) := by
  obtain ⟨t, h1, h2⟩ := he.run
  refine ⟨t, h1, fun g F σ H τ Q R rel h q => ?_⟩
  unfold dLend at h
  split at h
  · rename_i l ht
    obtain ⟨a, vs, s1, s2, s3, s4, s5⟩ := rel.ow i l ht
    exact h2 g _ σ H _ _ _ (rel.frees ht s1) h fun x v H' e i r => q x v H' e (i.noL r.1) r.2
  · exact h2 g F σ H τ Q R rel h q
def dLendT (i : Nat) (d : DT) : DT := fun τ R => match τ[i]? with
  | some (some (.own l)) => d (τ.set i (some (.lst l))) R
  | _ => d τ R
theorem pdt_lend {e : Expr} {d : DT} (i : Nat) (he : PDT X p e d) : PDT X p e (dLendT i d) := by
  obtain ⟨t, h1, h2⟩ := he.run
  refine ⟨t, h1, fun g F σ H τ Q R rel h q => ?_⟩
  unfold dLendT at h
  split at h
  · rename_i l ht
    obtain ⟨a, vs, s1, s2, s3, s4, s5⟩ := rel.ow i l ht
    exact h2 g _ σ H _ _ _ (rel.frees ht s1) h q
  · exact h2 g F σ H τ Q R rel h q
end
end DL
/-! max, min of a tuple; x += .. -/
namespace DL
open PySem PySem.Spec L2
open PyProof.Rows hiding St
open PySem.W (HoldAll Holds maxOf minOf max_tuple_datum min_tuple_datum DatumOrd)

section
variable {X : Cx} {p : Qt}
theorem vals_hold {ns : List Int} : ∀ {us : List Value} (h : Heap), Vals (ns.map V.int) us → HoldAll h us ns := by
  induction ns with
  | nil =>
    intro us h r
    cases r
    exact ⟨[], .nil⟩
  | cons n ns ih =>
    intro us h r
    cases r with
    | cons r1 r2 =>
      obtain ⟨t, rfl⟩ := r1
      obtain ⟨as, q⟩ := ih h r2
      exact ⟨[] ++ as, .cons (.int n t) q⟩
theorem maxOf_eq (n : Int) (ns : List Int) : maxOf n ns = maxL n ns := by
  unfold maxOf
  induction ns generalizing n with
  | nil => rfl
  | cons m ns ih =>
    show List.foldl _ (if DatumOrd.lt n m = true then m else n) ns = maxL (max n m) ns
    have e : (if DatumOrd.lt n m = true then m else n) = max n m := by
      show (if decide (n < m) = true then m else n) = max n m
      by_cases c : n < m
      · rw [if_pos (decide_eq_true c), Int.max_eq_right (by omega)]
      · rw [if_neg (by simpa using c), Int.max_eq_left (by omega)]
    rw [e]
    exact ih _
theorem minOf_eq (n : Int) (ns : List Int) : minOf n ns = minL n ns := by
  unfold minOf
  induction ns generalizing n with
  | nil => rfl
  | cons m ns ih =>
    show List.foldl _ (if DatumOrd.lt m n = true then m else n) ns = minL (min n m) ns
    have e : (if DatumOrd.lt m n = true then m else n) = min n m := by
      show (if decide (m < n) = true then m else n) = min n m
      by_cases c : m < n
      · rw [if_pos (decide_eq_true c), Int.min_eq_right (by omega)]
      · rw [if_neg (by simpa using c), Int.min_eq_left (by omega)]
    rw [e]
    exact ih _
theorem cr_maxT (hc : X.calm = true) (hu : X.A.units + 65 < cLine) : CallR X (.builtin "max") (fun xs H Q => ∃ (a : Addr) (n : Int) (ns : List Int), xs = [V.ref a] ∧ SqT X.K H a ((n :: ns).map V.int) ∧ Q (.int (maxL n ns)) H) := by
  intro pins s σ H vs us Q I r h
  obtain ⟨a, n, ns, rfl, hs, q⟩ := h
  obtain ⟨its, rv, hl, _⟩ := I.tuple hs
  rw [Vals.ref1 r]
  refine max_tuple_datum (α := Int) (I.ok.hd hc) hl (vals_hold s.heap rv) (by show X.A.units + 1 + 0 < cLine; omega) fun i v h' tk _ hv hk => ?_
  obtain ⟨as, hv⟩ := hv
  cases hv
  exact ⟨.int _, H, I.kept hk, ⟨_, rfl⟩, by rw [maxOf_eq]; exact q⟩
theorem cr_minT (hc : X.calm = true) (hu : X.A.units + 65 < cLine) : CallR X (.builtin "min") (fun xs H Q => ∃ (a : Addr) (n : Int) (ns : List Int), xs = [V.ref a] ∧ SqT X.K H a ((n :: ns).map V.int) ∧ Q (.int (minL n ns)) H) := by
  intro pins s σ H vs us Q I r h
  obtain ⟨a, n, ns, rfl, hs, q⟩ := h
  obtain ⟨its, rv, hl, _⟩ := I.tuple hs
  rw [Vals.ref1 r]
  refine min_tuple_datum (α := Int) (I.ok.hd hc) hl (vals_hold s.heap rv) (by show X.A.units + 1 + 0 < cLine; omega) fun i v h' tk _ hv hk => ?_
  obtain ⟨as, hv⟩ := hv
  cases hv
  exact ⟨.int _, H, I.kept hk, ⟨_, rfl⟩, by rw [minOf_eq]; exact q⟩
def cMaxT : List D → (D → Prop) → Prop := fun xs R => match xs with
  | [.int i, .int j] => R (.int (max i j))
  | [.lst l] => match intsOf l with
    | some (n :: ns) => R (.int (maxL n ns))
    | _ => False
  | [.tup l] => match intsOf l with
    | some (n :: ns) => R (.int (maxL n ns))
    | _ => False
  | _ => False
def cMinT : List D → (D → Prop) → Prop := fun xs R => match xs with
  | [.int i, .int j] => R (.int (min i j))
  | [.lst l] => match intsOf l with
    | some (n :: ns) => R (.int (minL n ns))
    | _ => False
  | [.tup l] => match intsOf l with
    | some (n :: ns) => R (.int (minL n ns))
    | _ => False
  | _ => False
theorem cd_maxT (hc : X.calm = true) (hu : X.A.units + 65 < cLine) : CallD X p (.builtin "max") cMaxT := by
  obtain ⟨r, h1, h2⟩ := cd_max (X := X) (p := p) hc
  refine ⟨_, h1.or (cr_maxT hc hu), fun F H xs vs Q R pk ix hh q => ?_⟩
  unfold cMaxT at hh
  split at hh
  · exact .inl (h2 F H _ vs Q R pk ix hh q)
  · exact .inl (h2 F H _ vs Q R pk ix hh q)
  · split at hh
    · rename_i l n ns e
      cases ix with
      | cons i1 i2 =>
        cases i2
        cases i1 with
        | tup hs hn hl =>
          rw [intsOf_eq e] at hl
          rw [hl.ints] at hs
          exact .inr ⟨_, n, ns, rfl, hs, q _ _ H (.refl pk.pk) (.int _) hh⟩
    · exact hh.elim
  · exact hh.elim
theorem cd_minT (hc : X.calm = true) (hu : X.A.units + 65 < cLine) : CallD X p (.builtin "min") cMinT := by
  obtain ⟨r, h1, h2⟩ := cd_min (X := X) (p := p) hc
  refine ⟨_, h1.or (cr_minT hc hu), fun F H xs vs Q R pk ix hh q => ?_⟩
  unfold cMinT at hh
  split at hh
  · exact .inl (h2 F H _ vs Q R pk ix hh q)
  · exact .inl (h2 F H _ vs Q R pk ix hh q)
  · split at hh
    · rename_i l n ns e
      cases ix with
      | cons i1 i2 =>
        cases i2
        cases i1 with
        | tup hs hn hl =>
          rw [intsOf_eq e] at hl
          rw [hl.ints] at hs
          exact .inr ⟨_, n, ns, rfl, hs, q _ _ H (.refl pk.pk) (.int _) hh⟩
    · exact hh.elim
  · exact hh.elim
abbrev gModN := gIIc (fun _ j => j ≠ 0) fun i j => .int (i.fmod j)
theorem opd_modN : OpD X p (binaryOp .Mod) gModN := opd_I op_modN (fun _ _ h => h) fun _ _ _ _ _ => .int _
/-- x += e, x -= e, of ints -/
def dAug (i : Nat) (f : Int → Int → Int) (d : DE) : DS := fun E τ => match τ[i]? with
  | some (some (.int a)) => d τ fun y => match y with
    | .int b => E.nx (τ.set i (some (.int (f a b))))
    | _ => False
  | _ => False
theorem pds_aug {i : Nat} {x : Str} {e : Expr} {d : DE} {op : Operator} {f : Int → Int → Int} {pos pos' : Pos} (hN : X.N.Nodup) (hi : X.N[i]? = some x) (hx : Loc X.env.scope x) (ho : PIp X op (ipI f)) (he : PD X p e d) (hf : X.fn x = true ∨ X.env.scope.names.lookup x = some .local := by first | exact .inl rfl | exact .inr rfl | assumption) :
    PDS X p (.AugAssign (.Name x pos') op e pos) (dAug i f d) := by
  obtain ⟨t, h1, h2⟩ := he.run
  refine ⟨_, ps_aug hN hi hx h1 ho hf, fun g F σ H τ E E' rel h ag => ?_⟩
  unfold dAug at h
  split at h
  · rename_i a ht
    obtain ⟨v, s1, s2⟩ := rel.sl i _ ht rfl
    cases s2
    refine ⟨_, s1, h2 g F σ H τ _ _ rel h fun y w H1 e1 i1 h1 => ?_⟩
    cases i1 with
    | int b => exact ⟨_, _, rfl, rfl, ag.nx F _ H1 _ ((rel.st e1).set (.int _)) h1⟩
    | _ => exact (show False from h1).elim
  · exact h.elim
end
end DL
/-! The top's functions as values: read, compared, called by a local name; range with a step. -/
namespace DL
open PySem PySem.Spec L2
open PyProof.Rows hiding St

/-! ### functions compared -/
theorem fnSlot : Slot "function" "__eq__" "object.__eq__" := by
  refine Slot.of (owner := "object") (n := "__eq__") ?_ (by decide +kernel) (by decide +kernel) (by decide +kernel) ?_ ?_
  · rw [typeLookup_type, builtinLookup_eq_fast]
    kernel_rfl
  · first
      | exact .inl (by decide +kernel)
      | exact .inr (by decide +kernel)
  · rw [isSubtype_type]
    kernel_rfl
theorem fnIsObj {M : Model} {h : Heap} : PySem.W.Looks M h (isSubtype (.type "function") (.type "object")) true := by
  rw [isSubtype_type]
  exact PySem.W.Looks.of_pure (by kernel_rfl)
section
variable {prog : Program} {w : World} {A : Around} {E : Value → Shared → Prop} {s : Shared} {f g : Addr} {of og : Obj}
theorem fnCallEq (hf : s.heap.get? f = some of) (cf : of.cls = .type "function") (hg : s.heap.get? g = some og) {Q : Value → Shared → Prop}
    (q : Q (if f = g then .bool true else .notImplemented) s) : wpAny (model prog w) A (call (.builtin "object.__eq__") [.ref f, .ref g]) Q E s := by
  have lt : PySem.W.Looks (model prog w) s.heap (typeOf (.ref f)) (.type "function") := fun A Q E s' k q' => wpAny_typeOf_ref (k _ _ hf) (by rw [cf]; exact q')
  refine wpAny_call (codeAny_call_builtin fnSlot.plain F.cmpEntry_eq ?_)
  refine @PySem.W.check_slot (model prog w) _ _ s "object.__eq__" "object" "__eq__" (.ref f) [.ref g] [] _ F.cmpKind_eq F.cmpSplit_eq (lt.andThen fnIsObj) (F.cmpArgs_eq _ _) ?_
  by_cases e : f = g
  · subst e
    rw [if_pos rfl] at q
    exact objEq_entry_same q
  · rw [if_neg e] at q
    exact objEq_entry_other e hf hg (by rw [cf]; intro z; injection z with z; exact absurd z (by decide)) q
theorem fnEq (hf : s.heap.get? f = some of) (cf : of.cls = .type "function") (hg : s.heap.get? g = some og) (cg : og.cls = .type "function") (hu : A.units < cLine) {Q : Value → Shared → Prop}
    (q : Q (.bool (decide (f = g))) s) : wpAny (model prog w) A (richCompare .Eq (.ref f) (.ref g)) Q E s := by
  have ta : s.TypeIs (.ref f) "function" := ⟨_, hf, cf⟩
  have tb : s.TypeIs (.ref g) "function" := ⟨_, hg, cg⟩
  have sl := fnSlot
  simp only [richCompare, cmpInfo_Eq, ta.oneThing_none]
  try with_reducible refine wpAny_holding ?_
  refine wpAny_bind (wpAny_cRoomFor hu ?_)
  refine wpAny_bind (wpAny_typeOf ta (wpAny_bind (wpAny_typeOf tb ?_)))
  rw [if_neg (by simp)]
  refine wpAny_bind (wpAny_pure ?_)
  simp only [Bool.false_eq_true, if_false, Bool.not_false, if_true]
  by_cases e : f = g
  · rw [decide_eq_true e] at q
    refine wpAny_bind (wpAny_tryCompare_slot ta sl (fnCallEq hf cf hg ?_))
    rw [if_pos e]
    exact ⟨fun z => (nomatch z), wpAny_pure q⟩
  · rw [decide_eq_false e] at q
    refine wpAny_bind (wpAny_tryCompare_declines ta sl (fnCallEq hf cf hg ?_))
    rw [if_neg e]
    refine ⟨rfl, ?_⟩
    refine wpAny_bind (wpAny_tryCompare_declines tb sl (fnCallEq hg cg hf ?_))
    rw [if_neg (fun z => e z.symm)]
    refine ⟨rfl, ?_⟩
    exact wpAny_bind (wpAny_rule (wpAny_bind (wpAny_isSame_ref_other e hf hg (by rw [cf]; intro z; injection z with z; exact absurd z (by decide)) (wpAny_pure q))))
end
/-- x is a def of the top -/
def FnAt (K : PySem.W.Frag) (tf : Tf) (x : Str) : Prop := ∃ (f : Addr) (od : Option Addr) (fd : FuncData) (sl : Array (Option Value)), tf.fns x = some (.ref f) ∧ K.lookup f = some ⟨.type "function", od, .func fd, sl⟩ ∧ fd.name = x
/-- x == y: defs of the top, and all that gEq has -/
def gEqF (L : List Str) : D → D → (D → Prop) → Prop := fun x y R => match x, y with
  | .fn x, .fn y => (x ∈ L ∧ y ∈ L) ∧ R (.bl (decide (x = y)))
  | x, y => gEq x y R
section
variable {X : Cx} {p : Qt}
def rFnEq (K : PySem.W.Frag) : R2 := fun v u H Q => ∃ (f g : Addr) (of og : Obj), v = .ref f ∧ u = .ref g ∧ K.lookup f = some of ∧ of.cls = .type "function" ∧ K.lookup g = some og ∧ og.cls = .type "function" ∧ Q (.bl (decide (f = g))) H
theorem op_fnEq (hu : X.A.units + 64 < cLine) : OpR X (compareOp .Eq) (rFnEq X.K) := by
  intro pins s σ H x y v u Q I rx ry h
  obtain ⟨f, g, of, og, rfl, rfl, lf, cf, lg, cg, q⟩ := h
  cases rx
  cases ry
  exact fnEq (I.kIn _ _ lf) cf (I.kIn _ _ lg) cg (by omega) ⟨.bl _, H, I, rfl, q⟩
theorem opd_eqF {L : List Str} (hL : ∀ x ∈ L, FnAt X.K p.tf x) (hu : X.A.units + 64 < cLine) : OpD X p (compareOp .Eq) (gEqF L) := by
  obtain ⟨r, h1, h2⟩ := opd_eq (X := X) (p := p) hu
  refine ⟨_, h1.or (op_fnEq hu), fun F H x y v u Q R pk ix iy hh q => ?_⟩
  unfold gEqF at hh
  split at hh
  · rename_i a b
    obtain ⟨⟨ha, hb⟩, hR⟩ := hh
    obtain ⟨f, od, fd, sl, f1, f2, f3⟩ := hL _ ha
    obtain ⟨g, od', fd', sl', g1, g2, g3⟩ := hL _ hb
    cases ix with
    | fn e1 =>
      cases iy with
      | fn e2 =>
        rw [f1] at e1
        rw [g1] at e2
        cases e1
        cases e2
        refine .inr ⟨f, g, _, _, rfl, rfl, f2, rfl, g2, rfl, ?_⟩
        have e : decide (f = g) = decide (a = b) := by
          by_cases c : a = b
          · subst c
            rw [f1] at g1
            cases g1
            simp
          · rw [decide_eq_false c]
            refine decide_eq_false fun z => ?_
            subst z
            rw [f2] at g2
            cases g2
            exact c (f3.symm.trans g3)
        rw [e]
        exact q _ _ H (.refl pk.pk) (.bl _) hR
  · exact .inl (h2 F H _ _ v u Q R pk ix iy hh q)
/-- a def's name as a value -/
theorem pd_fn {x : Str} {f : Addr} {pos : Pos} (hf : p.tf.fns = X.mg) (hm : X.mg x = some (.ref f)) (hg : Gl X x := by rfl) (hd : (x == ("__debug__" : Str)) = false := by decide) : PD X p (.Name x pos) (dC (.fn x)) :=
  ⟨_, pe_glob (v := .ref f) hg hm rfl hd, fun g0 F σ H τ Q R rel h q => q _ _ H (.refl rel.pk) (.fn (by rw [hf]; exact hm)) h⟩
theorem pd_fnC {x : Str} {j n : Nat} {ps : List Str} {kb : List (List Str × Nat × List Nat)} {sp : SpD} {pos : Pos} (C : Cal X.prog X.w X.K X.mg X.base p.tf x j n ps kb sp) (hf : p.tf.fns = X.mg) (hg : Gl X x := by rfl) (hd : (x == ("__debug__" : Str)) = false := by decide) : PD X p (.Name x pos) (dC (.fn x)) := by
  obtain ⟨f, fd, F, hm, _⟩ := C.ex
  exact pd_fn hf hm hg hd

/-! ### a local name that holds a def, called -/
inductive CalT (P : Program) (w : World) (K : PySem.W.Frag) (mg : Str → Option Value) (base : Heap) (tf : Tf) (k n : Nat) : List (Str × SpD) → Prop
  | nil : CalT P w K mg base tf k n []
  | cons {x : Str} {j : Nat} {ps : List Str} {kb : List (List Str × Nat × List Nat)} {sp : SpD} {l : List (Str × SpD)} (C : Cal P w K mg base tf x j n ps kb sp) (hj : j ≤ k) (r : CalT P w K mg base tf k n l) : CalT P w K mg base tf k n ((x, sp) :: l)
/-- what is promised of the def named x -/
def spOf (S : List (Str × SpD)) (x : Str) : SpD := fun ds R => match S with
  | [] => False
  | (y, sp) :: l => if x = y then sp ds R else spOf l x ds R
def dCallV (i : Nat) (S : List (Str × SpD)) (t : DA) : DE := fun τ R => match τ[i]? with
  | some (some (.fn x)) => x ∈ S.map (·.1) ∧ t τ fun xs => spOf S x xs R
  | _ => False
theorem CalT.run {S : List (Str × SpD)} {k n : Nat} (C : CalT X.prog X.w X.K X.mg X.base p.tf k n S) (hf : p.tf.fns = X.mg) (hgu : X.A.guards = some []) (hr : Room k X.A) {x : Str} {f : Addr} (ht : p.tf.fns x = some (.ref f)) {pins : List (Addr × Obj)} {σ : L2.St} {H : Hp} {s : Shared} {Q : VK} {us : List Value} {vs : List V}
    (I : Inv X pins σ H s) (r : Vals vs us) (h : toSp X.K p.tf n (spOf S x) vs H Q fun _ _ _ => False) : PySem.W.keepIn X.K (.ref f) = true ∧ wpAny (model X.prog X.w) X.A (call (.ref f) us []) (EP X pins σ Q) X.xe s := by
  induction C with
  | nil =>
    obtain ⟨_, _, _, _, _, _, _, z, _⟩ := h
    exact z.elim
  | @cons y j ps kb sp l C hj _ ih =>
    by_cases e : x = y
    · subst e
      obtain ⟨g, fd, F, hm, hk, hb, _⟩ := C.ex
      rw [hf, hm] at ht
      cases ht
      have h' : toSp X.K p.tf n sp vs H Q fun _ _ _ => False := by
        obtain ⟨hl, pot, Fb, ds, R, pk, is, z, q⟩ := h
        refine ⟨hl, pot, Fb, ds, R, pk, is, ?_, q⟩
        unfold spOf at z
        rw [if_pos rfl] at z
        exact z
      refine ⟨hk, ?_⟩
      have hl : (us ++ []).length = ps.length := by rw [List.append_nil, ← r.length]; exact F.len _ _ _ _ h'
      have b := hb s us I.kIn hl
      rw [List.append_nil] at b
      exact goG (args := ⟨us, []⟩) (F.weak hj) hgu hr pass0 I b r h'
    · refine ih ?_
      obtain ⟨hl, pot, Fb, ds, R, pk, is, z, q⟩ := h
      refine ⟨hl, pot, Fb, ds, R, pk, is, ?_, q⟩
      unfold spOf at z
      rw [if_neg e] at z
      exact z
/-- the defs of the table stand in the written part -/
theorem CalT.keepN {S : List (Str × SpD)} {k n : Nat} (C : CalT X.prog X.w X.K X.mg X.base p.tf k n S) (hf : p.tf.fns = X.mg) {x : Str} {f : Addr} (ht : p.tf.fns x = some (.ref f)) (h : x ∈ S.map (·.1)) : PySem.W.keepIn X.K (.ref f) = true := by
  induction C with
  | nil => cases h
  | @cons y j ps kb sp l C hj _ ih =>
    by_cases e : x = y
    · subst e
      obtain ⟨g, fd, F, hm, hk, hb, _⟩ := C.ex
      rw [hf, hm] at ht
      cases ht
      exact hk
    · refine ih ?_
      rcases List.mem_cons.mp h with z | z
      · exact absurd z e
      · exact z
theorem pd_callV {S : List (Str × SpD)} {k n i : Nat} {x : Str} {q pos : Pos} {e : Expr} {es : List Expr} {ds : DA} (C : CalT X.prog X.w X.K X.mg X.base p.tf k n S) (hf : p.tf.fns = X.mg) (hgu : X.A.guards = some []) (hr : Room k X.A) (ha : PDA X p (e :: es) ds)
    (hN : X.N[i]? = some x := by rfl) (hv : Vis X.env.scope x := by first | exact Or.inl rfl | exact Or.inr (Or.inl rfl) | exact Or.inr (Or.inr rfl)) (hn : (e :: es).length = n := by rfl) (hd : (x == ("__debug__" : Str)) = false := by decide) (hcd : (x == ("__classdict__" : Str)) = false := by decide)
    (he : starEach (e :: es) X.env = (false, eval e X.env) :: starEach es X.env := by rfl) (hpl : (backTo pos (starEach es X.env)).any (·.1) = false := by rfl) : PD X p (.Call (.Name x q) (e :: es) [] pos) (dCallV i S ds) := by
  obtain ⟨t, h1, h2⟩ := ha.run
  refine ⟨fun σ H Q => ∃ (y : Str) (f : Addr), σ[i]? = some (some (.ref f)) ∧ p.tf.fns y = some (.ref f) ∧ y ∈ S.map (·.1) ∧ t σ H fun vs H1 => toSp X.K p.tf n (spOf S y) vs H1 Q fun _ _ _ => False, ⟨fun pins s σ H Q I h => ?_⟩, fun g0 F σ H τ Q R rel h qq => ?_⟩
  · obtain ⟨y, f, hs, ht, hy, hq⟩ := h
    refine wpAny_Call_Name_kw (thn ((pe_var (pos := q) hN hv hd hcd).run pins s σ H (fun v H1 => v = .ref f ∧ H1 = H) I ⟨.ref f, hs, rfl, rfl⟩) ?_)
    rintro u s1 ⟨v, H1, I1, r1, rfl, rfl⟩
    cases r1
    refine PySem.W.callWith_K (h₀ := X.base) I.ok.mod.kin (C.keepN hf ht hy) (thn (h1.run pos pins s1 σ _ _ I1 hq) ?_) he hpl
    rintro us s2 ⟨vs, H2, I2, r, z⟩
    exact ⟨I2.kIn, (C.run hf hgu hr ht I2 r z).2⟩
  · unfold dCallV at h
    split at h
    · rename_i y hy
      obtain ⟨v, s1, s2⟩ := rel.sl i _ hy rfl
      cases s2 with
      | fn e =>
        refine ⟨y, _, s1, e, h.1, h2 g0 F σ H τ _ _ rel h.2 fun xs vs H1 e1 i1 l1 z => ?_⟩
        exact ⟨by rw [l1]; exact hn, p.pot, F, xs, R, (rel.st e1).pkf, i1, z, fun z v' H' e i r => qq z v' H' (e1.trans e) i r⟩
    · exact h.elim

/-! ### range with a step -/
/-- lo, lo + c, .. -/
def rngC (lo c : Int) (n : Nat) : List D := (List.range n).map fun (k : Nat) => D.int (lo + (k : Int) * c)
theorem rngC_get {lo c : Int} {n i : Nat} (h : i < n) : (rngC lo c n)[i]? = some (.int (lo + i * c)) := by simp [rngC, h]
theorem wd_rngC {K : PySem.W.Frag} {F : List Addr} {H : Hp} {lo c : Int} {n : Nat} : WD K p F (Itc lo c n) H (rngC lo c n) := by
  have hl : (rngC lo c n).length = n := by simp [rngC]
  refine ⟨fun i H' F' e k pk hi => ?_, fun H' e => by rw [hl]; exact Nat.le_refl _⟩
  rw [hl] at hi
  refine ⟨hi, fun x H2 y => ?_⟩
  obtain ⟨rfl, rfl⟩ := y
  exact ⟨.refl e.pk, _, rngC_get hi, .int _⟩
/-- downwards -/
def dRgN (d : DA) : DI := fun τ R => d τ fun xs => match xs with
  | [.int i, .int j, .int (-1)] => (-(2 ^ 62) ≤ i ∧ i < 2 ^ 62 ∧ -(2 ^ 62) ≤ j ∧ j < 2 ^ 62) ∧ R (rngC i (-1) (i - j).toNat)
  | _ => False
theorem pdi_rgN {tg a b c : Expr} {q pos : Pos} {d : DA} (hm : X.mg "range" = none) (ha : PDA X p [a, b, c] d) (hg : Gl X "range" := by rfl) (he : starEach [a, b, c] X.env = (false, eval a X.env) :: starEach [b, c] X.env := by rfl) (hpl : (backTo pos (starEach [b, c] X.env)).any (·.1) = false := by rfl) : PDI X p tg (.Call (.Name "range" q) [a, b, c] [] pos) (dRgN d) := by
  obtain ⟨t, h1, h2⟩ := ha.run
  refine ⟨_, pi_range3 hg hm h1 he hpl, fun g F σ H τ Rw R rel hd q => ?_⟩
  refine h2 g F σ H τ _ _ rel hd fun xs vs H1 e1 i1 l1 h1 => ?_
  split at h1
  · cases i1 with
    | cons i1 i2 =>
      cases i2 with
      | cons i2 i3 =>
        cases i3 with
        | cons i3 i4 =>
          cases i4
          cases i1
          cases i2
          cases i3
          exact ⟨_, _, _, _, rfl, RgC.neg h1.1.1 h1.1.2.1 h1.1.2.2.1 h1.1.2.2.2, q _ H1 _ e1 wd_rngC h1.2⟩
  · exact h1.elim
end
end DL
/-! Ratios in lowest terms as rational numbers; sizes by bits. -/
namespace DL
open PySem PySem.Spec L2
open PyProof.Rows hiding St

/-! ### sizes -/
structure Big (a : Nat) (i : Int) : Prop where
  lt : i.natAbs < 2 ^ a
section
variable {a b : Nat} {i j : Int}
theorem Big.mono (h : Big a i) (l : a ≤ b) : Big b i := ⟨Nat.lt_of_lt_of_le h.lt (Nat.pow_le_pow_right (by decide) l)⟩
theorem Big.neg (h : Big a i) : Big a (-i) := ⟨by rw [Int.natAbs_neg]; exact h.lt⟩
theorem Big.abs (h : Big a i) : Big a (i.natAbs : Int) := ⟨by rw [Int.natAbs_natCast]; exact h.lt⟩
theorem Big.mul (h : Big a i) (k : Big b j) : Big (a + b) (i * j) := ⟨by
  rw [Int.natAbs_mul, Nat.pow_add]
  exact Nat.mul_lt_mul'' h.lt k.lt⟩
theorem Big.add (h : Big a i) (k : Big b j) : Big (max a b + 1) (i + j) := ⟨by
  have h1 := (h.mono (Nat.le_max_left a b)).lt
  have h2 := (k.mono (Nat.le_max_right a b)).lt
  have h3 := Int.natAbs_add_le i j
  rw [Nat.pow_succ]
  omega⟩
theorem Big.sub (h : Big a i) (k : Big b j) : Big (max a b + 1) (i - j) := by
  rw [Int.sub_eq_add_neg]
  exact h.add k.neg
theorem Big.div (h : Big a i) : Big a (i / j) := ⟨Nat.lt_of_le_of_lt (Int.natAbs_ediv_le_natAbs i j) h.lt⟩
theorem Big.of_le (h : Big a i) (l : j.natAbs ≤ i.natAbs) : Big a j := ⟨Nat.lt_of_le_of_lt l h.lt⟩
theorem Big.one : Big 1 1 := ⟨by decide⟩
theorem Big.zero : Big a 0 := ⟨Nat.two_pow_pos a⟩
theorem Big.of (h : i.natAbs < 2 ^ a) : Big a i := ⟨h⟩
theorem Big.pow (h : Big a i) : ∀ n : Nat, Big (a * n + 1) (i ^ n)
  | 0 => by rw [Int.pow_zero]; exact Big.one.mono (by omega)
  | n + 1 => by
    rw [Int.pow_succ]
    refine ⟨?_⟩
    have h1 := (Big.pow h n).lt
    have h2 := h.lt
    rw [Int.natAbs_mul]
    have e : 2 ^ (a * (n + 1) + 1) = 2 ^ (a * n + 1) * 2 ^ a := by rw [← Nat.pow_add]; congr 1; rw [Nat.mul_succ]; omega
    rw [e]
    exact Nat.mul_lt_mul'' h1 h2
theorem MulC.big (h : Big a i) (k : Big b j) (l : a + b ≤ 900000) : MulC i j := by
  refine ⟨CMulW.ok (wide_mul (h.mono (Nat.le_succ a)).lt (k.mono (Nat.le_succ b)).lt (by omega) (by omega) (by omega))⟩
theorem BD.big (h0 : 0 < j) (h : Big a j) (l : a ≤ 8980) : BD j := ⟨h0, Nat.lt_of_lt_of_le (PySem.Flt.log2_lt_of (by omega) (h.mono (Nat.le_succ a)).lt) (by omega)⟩
theorem Big.log (h : Big a i) : i.natAbs.log2 < a + 1 := PySem.Flt.log2_lt_of (by omega) (h.mono (Nat.le_succ a)).lt
end

/-! ### ratios -/
/-- a ratio in lowest terms, by its value -/
def rd (x : Rat) : D := .tup [.int x.num, .int (x.den : Int)]
structure Sz (a : Nat) (x : Rat) : Prop where
  n : Big a x.num
  d : Big a (x.den : Int)
theorem den_pos (x : Rat) : 0 < (x.den : Int) := by have := x.den_pos; omega
theorem val_eq (x : Rat) : x = (x.num : Rat) / ((x.den : Int) : Rat) := by
  rw [← Rat.divInt_eq_div]
  exact (Rat.num_divInt_den x).symm
theorem rd_inj {x y : Rat} (h : rd x = rd y) : x = y := by
  unfold rd at h
  injection h with h
  injection h with h1 h
  injection h with h2 _
  injection h1 with h1
  injection h2 with h2
  exact Rat.ext h1 (by omega)
/-- a fraction, in lowest terms -/
theorem frac_num {n u : Int} (h : 0 < u) : ((n : Rat) / (u : Rat)).num = n / (Nat.gcd n.natAbs u.natAbs : Int) := by
  rw [← Rat.divInt_eq_div, Rat.num_divInt, Int.sign_eq_one_of_pos h, Int.one_mul, Int.gcd_comm]
  rfl
theorem frac_den {n u : Int} (h : 0 < u) : (((n : Rat) / (u : Rat)).den : Int) = u / (Nat.gcd n.natAbs u.natAbs : Int) := by
  rw [← Rat.divInt_eq_div, Rat.den_divInt, if_neg (by omega), Int.gcd_comm]
  show ((u.natAbs / Nat.gcd n.natAbs u.natAbs : Nat) : Int) = _
  rw [Int.natCast_ediv]
  congr 1
  omega
theorem frac_flip (n u : Int) : ((-n : Int) : Rat) / ((-u : Int) : Rat) = (n : Rat) / (u : Rat) := by
  rw [← Rat.divInt_eq_div, ← Rat.divInt_eq_div, Rat.neg_divInt_neg]
theorem gcdBD {n u : Int} {a : Nat} (h : u ≠ 0) (k : Big a u) (c : a ≤ 8900) : BD (Nat.gcd n.natAbs u.natAbs : Int) := by
  refine BD.big ?_ (k.of_le ?_) (show a ≤ 8980 by omega)
  · have := Nat.gcd_pos_of_pos_right n.natAbs (show 0 < u.natAbs by omega)
    omega
  · rw [Int.natAbs_natCast]
    exact Nat.gcd_le_right _ (by omega)
theorem rd_frac {n u : Int} (h : 0 < u) : rd ((n : Rat) / (u : Rat)) = .tup [.int (n / (Nat.gcd n.natAbs u.natAbs : Int)), .int (u / (Nat.gcd n.natAbs u.natAbs : Int))] := by
  unfold rd
  rw [frac_num h, frac_den h]
section
variable {a b : Nat} {x y : Rat}
theorem Sz.mono (h : Sz a x) (l : a ≤ b) : Sz b x := ⟨h.n.mono l, h.d.mono l⟩
theorem Sz.of_frac {n u : Int} (h : 0 < u) (hn : Big a n) (hu : Big a u) : Sz a ((n : Rat) / (u : Rat)) := ⟨by rw [frac_num h]; exact hn.div, by rw [frac_den h]; exact hu.div⟩
theorem add_frac (x y : Rat) : x + y = ((x.num * y.den + y.num * x.den : Int) : Rat) / ((x.den * y.den : Int) : Rat) := by
  have h1 : ((x.den : Int) : Rat) ≠ 0 := by have := den_pos x; exact_mod_cast (show (x.den : Int) ≠ 0 by omega)
  have h2 : ((y.den : Int) : Rat) ≠ 0 := by have := den_pos y; exact_mod_cast (show (y.den : Int) ≠ 0 by omega)
  have e1 := val_eq x
  have e2 := val_eq y
  rw [Rat.intCast_add, Rat.intCast_mul, Rat.intCast_mul, Rat.intCast_mul]
  grind
theorem mul_frac (x y : Rat) : x * y = ((x.num * y.num : Int) : Rat) / ((x.den * y.den : Int) : Rat) := by
  have h1 : ((x.den : Int) : Rat) ≠ 0 := by have := den_pos x; exact_mod_cast (show (x.den : Int) ≠ 0 by omega)
  have h2 : ((y.den : Int) : Rat) ≠ 0 := by have := den_pos y; exact_mod_cast (show (y.den : Int) ≠ 0 by omega)
  have e1 := val_eq x
  have e2 := val_eq y
  rw [Rat.intCast_mul, Rat.intCast_mul]
  grind
theorem div_frac (x y : Rat) (h : y ≠ 0) : x / y = ((x.num * y.den : Int) : Rat) / ((x.den * y.num : Int) : Rat) := by
  have h1 : ((x.den : Int) : Rat) ≠ 0 := by have := den_pos x; exact_mod_cast (show (x.den : Int) ≠ 0 by omega)
  have h2 : ((y.den : Int) : Rat) ≠ 0 := by have := den_pos y; exact_mod_cast (show (y.den : Int) ≠ 0 by omega)
  have h3 : ((y.num : Int) : Rat) ≠ 0 := by
    intro z
    apply h
    have : y.num = 0 := by exact_mod_cast z
    exact Rat.num_eq_zero.mp this
  have e1 := val_eq x
  have e2 := val_eq y
  rw [Rat.intCast_mul, Rat.intCast_mul]
  grind
theorem Sz.add (h : Sz a x) (k : Sz b y) : Sz (a + b + 1) (x + y) := by
  rw [add_frac]
  refine Sz.of_frac (Int.mul_pos (den_pos x) (den_pos y)) ?_ ((h.d.mul k.d).mono (by omega))
  exact ((h.n.mul k.d).add (k.n.mul h.d)).mono (by omega)
theorem Sz.neg (h : Sz a x) : Sz a (-x) := ⟨by rw [Rat.neg_num]; exact h.n.neg, by rw [Rat.neg_den]; exact h.d⟩
theorem Sz.sub (h : Sz a x) (k : Sz b y) : Sz (a + b + 1) (x - y) := by
  rw [Rat.sub_eq_add_neg]
  exact h.add k.neg
theorem Sz.mul (h : Sz a x) (k : Sz b y) : Sz (a + b) (x * y) := by
  rw [mul_frac]
  exact Sz.of_frac (Int.mul_pos (den_pos x) (den_pos y)) (h.n.mul k.n) (h.d.mul k.d)
theorem Sz.zero : Sz 1 0 := ⟨Big.zero, Big.one⟩
theorem Sz.one : Sz 1 1 := ⟨Big.one, Big.one⟩
end
/-- of whole numbers -/
theorem rat_int (x : Rat) (h : (x.den : Int) = 1) : x = (x.num : Rat) := by
  have e := val_eq x
  rw [h] at e
  have e1 : ((1 : Int) : Rat) = 1 := rfl
  rw [e1] at e
  grind
theorem rd_of_int (n : Int) : rd (n : Rat) = .tup [.int n, .int 1] := rfl
/-- the value of a pair -/
def vl (q : Int × Int) : Rat := (q.1 : Rat) / (q.2 : Rat)
theorem vl_rd (x : Rat) : vl (x.num, (x.den : Int)) = x := (val_eq x).symm
theorem vl_eq {p q : Int × Int} (hp : 0 < p.2) (hq : 0 < q.2) : vl p = vl q ↔ p.1 * q.2 = q.1 * p.2 := by
  unfold vl
  rw [← Rat.divInt_eq_div, ← Rat.divInt_eq_div, Rat.divInt_eq_divInt_iff (by omega) (by omega)]
theorem vl_nonneg {p : Int × Int} (hp : 0 < p.2) : 0 ≤ vl p ↔ 0 ≤ p.1 := by
  unfold vl
  rw [← Rat.divInt_eq_div, Rat.divInt_nonneg_iff_of_pos_right hp]
section
variable {p q : Int × Int}
theorem ratNe {d : Int} (h : 0 < d) : (d : Rat) ≠ 0 := by exact_mod_cast (show d ≠ 0 by omega)
theorem vl_add (hp : 0 < p.2) (hq : 0 < q.2) : vl (p.1 * q.2 + q.1 * p.2, p.2 * q.2) = vl p + vl q := by
  have h1 := ratNe hp
  have h2 := ratNe hq
  unfold vl
  show (((p.1 * q.2 + q.1 * p.2 : Int) : Rat)) / ((p.2 * q.2 : Int) : Rat) = _
  rw [Rat.intCast_add, Rat.intCast_mul, Rat.intCast_mul, Rat.intCast_mul]
  grind
theorem vl_sub (hp : 0 < p.2) (hq : 0 < q.2) : vl (p.1 * q.2 - q.1 * p.2, p.2 * q.2) = vl p - vl q := by
  have h1 := ratNe hp
  have h2 := ratNe hq
  unfold vl
  show (((p.1 * q.2 - q.1 * p.2 : Int) : Rat)) / ((p.2 * q.2 : Int) : Rat) = _
  rw [Rat.intCast_sub, Rat.intCast_mul, Rat.intCast_mul, Rat.intCast_mul]
  grind
theorem vl_mul (hp : 0 < p.2) (hq : 0 < q.2) : vl (p.1 * q.1, p.2 * q.2) = vl p * vl q := by
  have h1 := ratNe hp
  have h2 := ratNe hq
  unfold vl
  show (((p.1 * q.1 : Int) : Rat)) / ((p.2 * q.2 : Int) : Rat) = _
  rw [Rat.intCast_mul, Rat.intCast_mul]
  grind
end
end DL
/-! enumerate of a tuple, tuple * int, changes of places in an own list. -/
namespace DL
open PySem PySem.Spec L2
theorem meets1 {v : Value} {o : Obj} {H : Heap → Prop} (B : Begins v o H) :
    Meets (Builtin.«enumerate.__new__» { pos := [Value.type "enumerate", v] }) fun x R s => H s.heap ∧
      R (Except.ok (Flow.ret (Value.ref (s.heap.push o).objs.size)))
        { heap := (s.heap.push o).push { cls := Value.type "enumerate", data := Data.fields #[Value.none, Value.bool false, Value.ref s.heap.objs.size, rawInt 0, Value.none, Value.none] },
          gens := s.gens, drawn := s.drawn, toks := s.toks, os := s.os } := by
  refine Meets.of_wp fun prog w A R s h => ?_
  obtain ⟨hp, g, d, tk, os⟩ := s
  obtain ⟨h1, h⟩ := h
  have q1 := fun {A'} {E Q} q => B.iter prog w A' E { heap := hp, gens := g, drawn := d, toks := tk, os := os } Q h1 q
  unfold Builtin.«enumerate.__new__»
  refine wpAny_bind ?_
  unfold Builtin.SmallTypes.newClass
  refine wpAny_bind ?_
  refine wpAny_pure ?_
  refine wpAny_ite_false rfl ?_
  refine wpAny_bind (wpAny_of_eq sub_enumerate ?_)
  refine wpAny_ite_false rfl ?_
  refine wpAny_pure ?_
  refine wpAny_ite_true rfl ?_
  refine wpAny_bind ?_
  unfold Builtin.SmallTypes.calledThroughType
  refine wpAny_bind ?_
  refine wpAny_stack_any fun st => ?_
  refine wpAny_pure ?_
  split
  · rename_i c _ _ _ _ _
    cases hb : (c == Value.type "enumerate") with
    | true =>
      refine wpAny_ite_true rfl ?_
      refine wpAny_bind ?_
      refine wpAny_pure ?_
      refine wpAny_bind (q1 ?_)
      refine wpAny_bind ?_
      unfold Builtin.SmallTypes.newRecord
      dsimp only
      unfold newObj
      dsimp only
      refine wpAny_ite_false rfl ?_
      try refine wpAny_bind ?_
      refine wpAny_alloc' ?_
      refine wpAny_pure ?_
      refine wpAny_pure ?_
      exact ⟨_, rfl, h⟩
    | false =>
      refine wpAny_ite_false rfl ?_
      refine wpAny_bind ?_
      refine wpAny_pure ?_
      refine wpAny_bind (q1 ?_)
      refine wpAny_bind ?_
      unfold Builtin.SmallTypes.newRecord
      dsimp only
      unfold newObj
      dsimp only
      refine wpAny_ite_false rfl ?_
      try refine wpAny_bind ?_
      refine wpAny_alloc' ?_
      refine wpAny_pure ?_
      refine wpAny_pure ?_
      exact ⟨_, rfl, h⟩
  · refine wpAny_ite_false rfl ?_
    refine wpAny_bind ?_
    refine wpAny_pure ?_
    refine wpAny_bind (q1 ?_)
    refine wpAny_bind ?_
    unfold Builtin.SmallTypes.newRecord
    dsimp only
    unfold newObj
    dsimp only
    refine wpAny_ite_false rfl ?_
    try refine wpAny_bind ?_
    refine wpAny_alloc' ?_
    refine wpAny_pure ?_
    refine wpAny_pure ?_
    exact ⟨_, rfl, h⟩
theorem call_enumT {prog : Program} {w : World} {A : Around} {E : Value → Shared → Prop} {s : Shared} {a : Addr} {items : Array Value} {Q : Value → Shared → Prop} (hT : s.heap.IsTuple a items)
    (h : ∀ (h' : Heap), IsEnum h' (s.heap.objs.size + 1) s.heap.objs.size 0 Value.none → h'.IsTupleIter s.heap.objs.size a 0 → (∀ (b : Addr) (o : Obj), s.heap.get? b = some o → h'.get? b = some o) →
      Q (Value.ref (s.heap.objs.size + 1)) { heap := h', gens := s.gens, drawn := s.drawn, toks := s.toks, os := s.os }) :
    wpAny (model prog w) A (call (Value.type "enumerate") [Value.ref a]) Q E s := by
  have B : Begins (Value.ref a) { cls := Value.type "tuple_iterator", data := Data.fields #[Value.ref a, Value.int 0 0] } (fun h => h.IsTuple a items) :=
    ⟨fun prog w A E s Q h1 q => wpAny_pyIter_tuple h1 q, fun h h' h1 k => Heap.IsTuple.at h1 fun o e => k a o e, rfl⟩
  refine callType_new F.called_enumerate (by decide) (F.typeCall_enumerate_1 (Value.ref a)) (F.newCall_enumerate_1 (Value.ref a)) (fun obj => F.args_object_init_2 obj (Value.ref a)) F.entry_enumerate_new (meets1 B) ⟨hT, ?_⟩
  have hz := Heap.size_push s.heap { cls := Value.type "tuple_iterator", data := Data.fields #[Value.ref a, Value.int 0 0] }
  show _ ∧ _
  have he : ((s.heap.push { cls := Value.type "tuple_iterator", data := Data.fields #[Value.ref a, Value.int 0 0] }).push { cls := Value.type "enumerate", data := Data.fields #[Value.none, Value.bool false, Value.ref s.heap.objs.size, rawInt 0, Value.none, Value.none] }).get? (s.heap.objs.size + 1) = some { cls := Value.type "enumerate", data := Data.fields #[Value.none, Value.bool false, Value.ref s.heap.objs.size, rawInt 0, Value.none, Value.none] } := by
    have := Heap.get?_push_size (s.heap.push { cls := Value.type "tuple_iterator", data := Data.fields #[Value.ref a, Value.int 0 0] }) (o := { cls := Value.type "enumerate", data := Data.fields #[Value.none, Value.bool false, Value.ref s.heap.objs.size, rawInt 0, Value.none, Value.none] }) rfl
    rw [hz] at this
    exact this
  rw [hz]
  refine ⟨⟨_, he, rfl⟩, h _ he ⟨_, Heap.get?_push_of_some _ (Heap.get?_push_size s.heap rfl), rfl, rfl⟩ fun b o x => Heap.get?_push_of_some _ (Heap.get?_push_of_some _ x)⟩
/-- the walk of enumerate over a tuple -/
def IteT (K : PySem.W.Frag) (a : Addr) : It where
  go := fun i H => ∃ xs x, SqT K H a xs ∧ xs[i]? = some x
  yld := fun i H v H' => ∃ T x, v = V.ref T ∧ H T = none ∧ H' = upd H T (HO.tup [V.int (i : Nat), x]) ∧ ∀ (xs : List V), SqT K H a xs → xs[i]? = some x
  stop := fun i H => ∃ xs, SqT K H a xs ∧ xs.length = i
theorem turn_enumT {P : Program} {w : World} {K : PySem.W.Frag} {elts : List Expr} {kk : Nat} {tpos : Pos} (a e it : Addr) :
    Turn P w K (Expr.Tuple elts kk tpos) (IteT K a) [e, it] e fun i h => (∃ old, IsEnum h e it (i : Nat) old) ∧ h.IsTupleIter it a i ∧ e ≠ it where
  mem := by simp
  obj := fun i h st b hb => by
    obtain ⟨⟨old, he⟩, ⟨o, ho, hc, hd⟩, _⟩ := st
    simp at hb
    rcases hb with rfl | rfl
    · exact ⟨_, he, fun v q => nomatch q⟩
    · exact ⟨o, ho, fun v q => by rw [hd] at q; cases q⟩
  keep := fun i h h' st k => by
    obtain ⟨⟨old, he⟩, hi, hne⟩ := st
    exact ⟨⟨old, k e (by simp) _ he⟩, Heap.IsTupleIter.at hi fun o q => k it (by simp) o q, hne⟩
  item := fun X hP hw hK hc i pins s σ H E I hf st hg => by
    subst hP hw hK
    obtain ⟨⟨old, he⟩, hit, hne⟩ := st
    obtain ⟨xs, x, hq, hx⟩ := hg
    obtain ⟨its, rv, p, hz⟩ := Inv.tuple I hq
    obtain ⟨u, hu, ru⟩ := Vals.get rv hx
    obtain ⟨oa, ha, ca, na, da⟩ := p
    have ne1 : a ≠ it := fun z => by
      obtain ⟨o, h1, h2, h3⟩ := hit
      rw [← z, ha] at h1
      cases h1
      rw [ca] at h2
      exact absurd h2 (by decide)
    have ne2 : e ≠ a := fun z => by
      have h1 : s.heap.get? e = _ := he
      rw [z, ha] at h1
      cases h1
      exact absurd (show Value.type "enumerate" = Value.type "tuple" from ca) (by decide)
    have D := Draws.tuple (prog := X.prog) (w := X.w) (A := X.A.in1) (I.ok.hd hc) it a ne1 its.toArray
    have G := GoesN.enumFrom (elts := elts) (x1 := kk) (pos := tpos) (A := X.A) 0 D e hne (by simp [hne, ne2]) (by simp)
    refine G.goes i s _ E (by have := (List.getElem?_eq_some_iff.mp hu).1; simpa using this) ⟨⟨old, by rw [Int.zero_add]; exact he⟩, hit, ⟨oa, ha, ca, na, da⟩⟩ fun v h' tk y st' fr le => ?_
    obtain ⟨T, t, x', rfl, hT, hx', oT, hoT, cT, nT, dT⟩ := y
    have ex : x' = u := by
      have : its.toArray[i]? = some x' := hx'
      rw [List.getElem?_toArray, hu] at this
      exact (Option.some.inj this).symm
    subst ex
    obtain ⟨he', hit', hta⟩ := st'
    have I1 := Inv.turnedNew (t' := tk) (ob := .tup [V.int (i : Nat), x]) I (ch := [e, it]) fr hf hT ⟨by show 2 ≤ sizeLine; decide, [Value.int (i : Nat) t, x'], Paired.cons ⟨t, rfl⟩ (Paired.cons ru Paired.nil), oT, hoT, cT, nT, by rw [Int.zero_add] at dT; exact dT⟩
    refine ⟨V.ref T, _, I1, rfl, ⟨T, x, rfl, HOk.fresh I.hok hT, rfl, fun ys hy => by rw [Inv.tuple_inj I hy hq]; exact hx⟩, ⟨by obtain ⟨o2, h2⟩ := he'; exact ⟨o2, by rw [Int.zero_add] at h2; exact h2⟩, hit', hne⟩, fun b hb => ?_⟩
    have nb := (hf b hb).1
    have lt : b < s.heap.objs.size := by
      simp at hb
      rcases hb with rfl | rfl
      · exact Heap.lt_size he
      · obtain ⟨o, q, _⟩ := hit
        exact Heap.lt_size q
    rw [upd_ne (Nat.ne_of_lt (Nat.lt_of_lt_of_le lt hT))]
    exact nb
  done := fun X hP hw hK hc i pins s σ H E I hf st hg => by
    subst hP hw hK
    obtain ⟨⟨old, he⟩, hit, hne⟩ := st
    obtain ⟨xs, hq, hx⟩ := hg
    obtain ⟨its, rv, p, hz⟩ := Inv.tuple I hq
    obtain ⟨oa, ha, ca, na, da⟩ := p
    have ne1 : a ≠ it := fun z => by
      obtain ⟨o, h1, h2, h3⟩ := hit
      rw [← z, ha] at h1
      cases h1
      rw [ca] at h2
      exact absurd h2 (by decide)
    have ne2 : e ≠ a := fun z => by
      have h1 : s.heap.get? e = _ := he
      rw [z, ha] at h1
      cases h1
      exact absurd (show Value.type "enumerate" = Value.type "tuple" from ca) (by decide)
    have D := Draws.tuple (prog := X.prog) (w := X.w) (A := X.A.in1) (I.ok.hd hc) it a ne1 its.toArray
    have G := GoesN.enumFrom (elts := elts) (x1 := kk) (pos := tpos) (A := X.A) 0 D e hne (by simp [hne, ne2]) (by simp)
    have hl := rv.length
    have hi : i = its.toArray.size := by simp; omega
    subst hi
    refine G.stops s _ E ⟨⟨old, by rw [Int.zero_add]; exact he⟩, hit, ⟨oa, ha, ca, na, da⟩⟩ fun h' tk fr le => ?_
    exact Inv.turnedL I fr hf
  self := fun A i s Q E st h => by
    obtain ⟨⟨old, he⟩, _⟩ := st
    exact wpAny_pyIter_enum he h
def iEnumT (K : PySem.W.Frag) (ta : TA) : TI := fun σ H R => ta σ H fun vs H1 => ∃ a xs, vs = [V.ref a] ∧ SqT K H1 a xs ∧ R (IteT K a) H1
section
variable {X : Cx} {p : Qt}
theorem pi_enumT {e : Expr} {ta : TA} {q pos tpos : Pos} {elts : List Expr} {kk : Nat} (hg : Gl X "enumerate") (hm : X.mg "enumerate" = none) (ha : PA X [e] ta) (hs : starEach [e] X.env = [(false, eval e X.env)] := by rfl) :
    PI X (Expr.Tuple elts kk tpos) ((Expr.Name "enumerate" q).Call [e] [] pos) (iEnumT X.K ta) where
  run := fun pins s σ H R I h => by
    refine PyProof.Rows.Call_ (ld_blt I hg hm PyProof.Rows.boot_enumerate (PyProof.Rows.callWith_type1 (thn (ha.run pos pins s σ H (fun vs H1 => ∃ a xs, vs = [V.ref a] ∧ SqT X.K H1 a xs ∧ R (IteT X.K a) H1) I h) fun us s1 x => ?_) hs rfl))
    obtain ⟨vs, H1, I1, r1, a, xs, rfl, hq, hR⟩ := x
    cases r1 with
    | cons r rr =>
      cases rr
      cases r
      obtain ⟨its, rv, p', hz⟩ := Inv.tuple I1 hq
      refine call_enumT p' fun h' he hit hk => wpAny_pyIter_enum he ?_
      have I2 := Inv.kept (t' := s1.toks) I1 hk
      refine ⟨s1.heap.objs.size + 1, [s1.heap.objs.size + 1, s1.heap.objs.size], _, IteT X.K a, H1, rfl, I2, turn_enumT a _ _, ⟨⟨_, he⟩, hit, Nat.succ_ne_self _⟩, fun b hb => ?_, hR⟩
      have hle : s1.heap.objs.size ≤ b := by
        simp at hb
        rcases hb with rfl | rfl
        · exact Nat.le_succ _
        · exact Nat.le_refl _
      exact Inv.fpOk I1 hle (HOk.fresh I1.hok hle)
def enumD (l : List D) : List D := zipD (rng 0 l.length) l
theorem enumD_len (l : List D) : (enumD l).length = l.length := by
  unfold enumD
  rw [zipD_len, rng_len, Nat.min_self]
theorem enumD_get {l : List D} {i : Nat} {d : D} (h : l[i]? = some d) : (enumD l)[i]? = some (.tup [.int (i : Int), d]) := by
  have := (List.getElem?_eq_some_iff.mp h).1
  have e := zipD_get (rng_get (lo := 0) this) h
  rw [Int.zero_add] at e
  exact e
def dEnum (d : DA) : DI := fun τ R => d τ fun xs => match xs with
  | [.tup l] => R (enumD l)
  | _ => False
theorem pdi_enum {a : Expr} {q pos tpos : Pos} {elts : List Expr} {kk : Nat} {d : DA} (hm : X.mg "enumerate" = none) (ha : PDA X p [a] d) (hg : Gl X "enumerate" := by rfl) (hs : starEach [a] X.env = [(false, eval a X.env)] := by rfl) :
    PDI X p (.Tuple elts kk tpos) (.Call (.Name "enumerate" q) [a] [] pos) (dEnum d) := by
  obtain ⟨t, h1, h2⟩ := ha.run
  refine ⟨_, pi_enumT hg hm h1 hs, fun g F σ H τ Rw R rel hd q => ?_⟩
  refine h2 g F σ H τ _ _ rel hd fun xs vs H1 e1 i1 l1 h1 => ?_
  have pk := (rel.st e1).pkf
  split at h1
  · rename_i l
    cases i1 with
    | cons i1 i2 =>
      cases i2
      cases i1 with
      | @tup ax vs _ hs hn hl =>
        refine ⟨ax, vs, rfl, hs, q _ H1 _ e1 ⟨fun n H' F' e k pk' hx => ?_, fun H' e => ⟨vs, SqT.since hs hn pk e, by rw [enumD_len, hl.len]⟩⟩ h1⟩
        rw [enumD_len] at hx
        have la := hl.len
        have q1 : SqT X.K H' ax vs := SqT.since hs hn pk e
        have va : n < vs.length := by omega
        refine ⟨⟨vs, vs[n], q1, by simp [va]⟩, fun x H2 y => ?_⟩
        obtain ⟨T, x', rfl, hT, rfl, f1⟩ := y
        obtain ⟨da, ea, ia⟩ := (k hl).get (f1 vs q1)
        have e2 : Ex p H' (upd H' T (.tup [.int (n : Nat), x'])) := .new pk'.pk hT
        exact ⟨e2, _, enumD_get ea, .tup (SqT.of upd_same) (pk'.ne hT) (.cons (.int _) (.cons (ia.mono e2.kp) .nil))⟩
  · exact h1.elim

/-! ### tuple * int -/
def gMulT : D → D → (D → Prop) → Prop := fun x y R => match x, y with
  | .tup l, .int k => (1 ≤ l.length ∧ 2 ≤ k ∧ k ≤ 1000 ∧ l.length ≤ 1000) ∧ R (.tup (List.replicate k.toNat l).flatten)
  | .int i, .int j => MulC i j ∧ R (.int (i * j))
  | _, _ => False
theorem isl_rep {K : PySem.W.Frag} {F : List Addr} {H : Hp} {vs : List V} {l : List D} (h : IsL K p F H vs l) : ∀ n : Nat, IsL K p F H (List.replicate n vs).flatten (List.replicate n l).flatten
  | 0 => .nil
  | n + 1 => by
    rw [List.replicate_succ, List.replicate_succ, List.flatten_cons, List.flatten_cons]
    exact h.app (isl_rep h n)
theorem opd_mulT : OpD X p (binaryOp .Mult) gMulT := by
  obtain ⟨r1, a1, a2⟩ := opd_mul (X := X) (p := p)
  refine ⟨_, a1.or op_repT, fun F H x y v u Q R pk ix iy hh q => ?_⟩
  cases ix with
  | int i =>
    cases iy with
    | int j => exact .inl (a2 F H _ _ _ _ Q R pk (.int i) (.int j) hh q)
    | _ => exact hh.elim
  | @tup a vs l hs hn hl =>
    cases iy with
    | int k =>
      obtain ⟨⟨c1, c2, c3, c4⟩, hR⟩ := hh
      have h1 := hl.len
      refine .inr ⟨a, k, vs, rfl, rfl, hs, fun z => by subst z; simp at h1; omega, c2, c3, by omega, fun c hc => ?_⟩
      have e := Ex.new (o := .tup (List.replicate k.toNat vs).flatten) pk.pk hc
      exact q _ _ _ e (.tup (SqT.of upd_same) (pk.ne hc) (isl_rep (hl.mono e.kp) k.toNat)) hR
    | _ => exact hh.elim
  | _ => exact hh.elim
/-- a divisor of either sign -/
structure CN (j : Int) : Prop where
  ne : j ≠ 0
  few : j.natAbs < 1073741824
abbrev gDivN := gIIc (fun _ j => CN j) fun i j => .int (i.fdiv j)
theorem opd_divN : OpD X p (binaryOp .FloorDiv) gDivN := opd_I op_fdivN (fun _ _ h => ⟨h.ne, h.few⟩) fun _ _ _ _ _ => .int _
end
theorem relabel_lookup {sc : Scope} {env : Env} {x : Str} (h : List.lookup x sc.names = some .cell ∨ List.lookup x sc.names = some .free) : List.lookup x (relabel sc env).names = some .cell ∨ List.lookup x (relabel sc env).names = some .free := by
  unfold relabel
  simp only []
  generalize sc.names = l at h ⊢
  induction l with
  | nil => simp at h
  | cons y l ih =>
    obtain ⟨n, k⟩ := y
    by_cases e : x = n
    · subst e
      have h' : k = .cell ∨ k = .free := by simpa using h
      rw [List.map_cons]
      split
      · left; simp
      · rcases h' with rfl | rfl
        · left; simp
        · right; simp
    · have e' : (x == n) = false := by simpa using e
      rw [List.lookup_cons, e'] at h
      have := ih h
      rw [List.map_cons]
      split
      · rw [List.lookup_cons, e']
        exact this
      · rw [List.lookup_cons, e']
        exact this
theorem blkC_relabel {N : List Str} {sc scope : Scope} {env : Env} {own : List (Str × Nat)} (h : blkC N sc scope own = true) : blkC N (relabel sc env) scope own = true := by
  unfold blkC at h ⊢
  rw [Bool.and_eq_true] at h ⊢
  refine ⟨h.1, List.all_eq_true.mpr fun y hy => ?_⟩
  have := List.all_eq_true.mp h.2 y hy
  split
  · rename_i e
    rw [e] at this
    simp only [] at this
    have q : List.lookup y.1 sc.names = some .cell ∨ List.lookup y.1 sc.names = some .free := by
      split at this
      · rename_i z; exact .inl z
      · rename_i z; exact .inr z
      · cases this
    rcases relabel_lookup (env := env) q with z | z <;> rw [z]
  · rename_i e
    rw [e] at this
    exact this
  · rename_i e
    rw [e] at this
    exact this
  · rfl
section
variable {X : Cx} {p : Qt} {pos : Pos} {s0 : Shared} {H0 : Hp} {sc0 : Scope} {cl0 : List (Str × Addr)} {C0 : Addr} {fp0 : List Addr}
/-- a comprehension within one -/
theorem pd_lcB {elt tg iter : Expr} {scope : Scope} {own : List (Str × Nat)} {it : DI} {g : DG} {te : DE} {t : TG} (hc : X.calm = true) (hN : X.N.Nodup) (hi : PDI (X.blk s0 H0 sc0 (compEnvC sc0 cl0 C0 X.env) fp0) p tg iter it) (ok : blkC X.N sc0 scope own = true)
    (hg : ∀ (s : Shared) (H : Hp) (C : Addr) (cl : List (Str × Addr)) (fp : List Addr), PDGw ((X.blk s0 H0 sc0 (compEnvC sc0 cl0 C0 X.env) fp0).blk s H scope (compEnvC scope cl C (X.blk s0 H0 sc0 (compEnvC sc0 cl0 C0 X.env) fp0).env) fp) p (own.map (·.2)) tg g t)
    (he : ∀ (s : Shared) (H : Hp) (C : Addr) (cl : List (Str × Addr)) (fp : List Addr), PD ((X.blk s0 H0 sc0 (compEnvC sc0 cl0 C0 X.env) fp0).blk s H scope (compEnvC scope cl C (X.blk s0 H0 sc0 (compEnvC sc0 cl0 C0 X.env) fp0).env) fp) p elt te) (hs : ∀ x, foldedSetIterable iter (X.blk s0 H0 sc0 (compEnvC sc0 cl0 C0 X.env) fp0).env x = pure x := by intro _; rfl) (sh : Shared) :
    PD (X.blk s0 H0 sc0 (compEnvC sc0 cl0 C0 X.env) fp0) p (.ListComp elt [⟨tg, iter, [], 0⟩] scope pos) (dLc it g dYes te (own.map (·.2))) :=
  pd_lc (X := X.blk s0 H0 sc0 (compEnvC sc0 cl0 C0 X.env) fp0) hc hN hi (blkC_relabel ok) hg he hs sh
theorem pd_lcIB {elt tg iter c : Expr} {scope : Scope} {own : List (Str × Nat)} {it : DI} {g : DG} {te : DE} {tt : DT} {t : TG} (hc : X.calm = true) (hN : X.N.Nodup) (hi : PDI (X.blk s0 H0 sc0 (compEnvC sc0 cl0 C0 X.env) fp0) p tg iter it) (ok : blkC X.N sc0 scope own = true)
    (hg : ∀ (s : Shared) (H : Hp) (C : Addr) (cl : List (Str × Addr)) (fp : List Addr), PDGw ((X.blk s0 H0 sc0 (compEnvC sc0 cl0 C0 X.env) fp0).blk s H scope (compEnvC scope cl C (X.blk s0 H0 sc0 (compEnvC sc0 cl0 C0 X.env) fp0).env) fp) p (own.map (·.2)) tg g t)
    (ht : ∀ (s : Shared) (H : Hp) (C : Addr) (cl : List (Str × Addr)) (fp : List Addr), PDT ((X.blk s0 H0 sc0 (compEnvC sc0 cl0 C0 X.env) fp0).blk s H scope (compEnvC scope cl C (X.blk s0 H0 sc0 (compEnvC sc0 cl0 C0 X.env) fp0).env) fp) p c tt)
    (he : ∀ (s : Shared) (H : Hp) (C : Addr) (cl : List (Str × Addr)) (fp : List Addr), PD ((X.blk s0 H0 sc0 (compEnvC sc0 cl0 C0 X.env) fp0).blk s H scope (compEnvC scope cl C (X.blk s0 H0 sc0 (compEnvC sc0 cl0 C0 X.env) fp0).env) fp) p elt te) (hs : ∀ x, foldedSetIterable iter (X.blk s0 H0 sc0 (compEnvC sc0 cl0 C0 X.env) fp0).env x = pure x := by intro _; rfl) (sh : Shared) :
    PD (X.blk s0 H0 sc0 (compEnvC sc0 cl0 C0 X.env) fp0) p (.ListComp elt [⟨tg, iter, [c], 0⟩] scope pos) (dLc it g tt te (own.map (·.2))) :=
  pd_lcI (X := X.blk s0 H0 sc0 (compEnvC sc0 cl0 C0 X.env) fp0) hc hN hi (blkC_relabel ok) hg ht he hs sh
end
/-! == of given kinds -/
theorem gEq_nn {R : D → Prop} : gEq D.non D.non R = ((shp 60 D.non = true ∧ shp 60 D.non = true) ∧ R (.bl (PyData.eqv (toP D.non) (toP D.non)))) := rfl
theorem gEq_nb {b : Bool} {R : D → Prop} : gEq D.non (.bl b) R = ((shp 60 D.non = true ∧ shp 60 (.bl b) = true) ∧ R (.bl (PyData.eqv (toP D.non) (toP (.bl b))))) := rfl
theorem gEq_ni {b : Int} {R : D → Prop} : gEq D.non (.int b) R = ((shp 60 D.non = true ∧ shp 60 (.int b) = true) ∧ R (.bl (PyData.eqv (toP D.non) (toP (.int b))))) := rfl
theorem gEq_ns {b : Str} {R : D → Prop} : gEq D.non (.str b) R = ((shp 60 D.non = true ∧ shp 60 (.str b) = true) ∧ R (.bl (PyData.eqv (toP D.non) (toP (.str b))))) := rfl
theorem gEq_nt {b : List D} {R : D → Prop} : gEq D.non (.tup b) R = ((shp 60 D.non = true ∧ shp 60 (.tup b) = true) ∧ R (.bl (PyData.eqv (toP D.non) (toP (.tup b))))) := rfl
theorem gEq_nl {b : List D} {R : D → Prop} : gEq D.non (.lst b) R = ((shp 60 D.non = true ∧ shp 60 (.lst b) = true) ∧ R (.bl (PyData.eqv (toP D.non) (toP (.lst b))))) := rfl
theorem gEq_bn {a : Bool} {R : D → Prop} : gEq (.bl a) D.non R = ((shp 60 (.bl a) = true ∧ shp 60 D.non = true) ∧ R (.bl (PyData.eqv (toP (.bl a)) (toP D.non)))) := rfl
theorem gEq_bb {a : Bool} {b : Bool} {R : D → Prop} : gEq (.bl a) (.bl b) R = R (.bl (decide (a = b))) := rfl
theorem gEq_bi {a : Bool} {b : Int} {R : D → Prop} : gEq (.bl a) (.int b) R = ((shp 60 (.bl a) = true ∧ shp 60 (.int b) = true) ∧ R (.bl (PyData.eqv (toP (.bl a)) (toP (.int b))))) := rfl
theorem gEq_bs {a : Bool} {b : Str} {R : D → Prop} : gEq (.bl a) (.str b) R = ((shp 60 (.bl a) = true ∧ shp 60 (.str b) = true) ∧ R (.bl (PyData.eqv (toP (.bl a)) (toP (.str b))))) := rfl
theorem gEq_bt {a : Bool} {b : List D} {R : D → Prop} : gEq (.bl a) (.tup b) R = ((shp 60 (.bl a) = true ∧ shp 60 (.tup b) = true) ∧ R (.bl (PyData.eqv (toP (.bl a)) (toP (.tup b))))) := rfl
theorem gEq_bl {a : Bool} {b : List D} {R : D → Prop} : gEq (.bl a) (.lst b) R = ((shp 60 (.bl a) = true ∧ shp 60 (.lst b) = true) ∧ R (.bl (PyData.eqv (toP (.bl a)) (toP (.lst b))))) := rfl
theorem gEq_in {a : Int} {R : D → Prop} : gEq (.int a) D.non R = ((shp 60 (.int a) = true ∧ shp 60 D.non = true) ∧ R (.bl (PyData.eqv (toP (.int a)) (toP D.non)))) := rfl
theorem gEq_ib {a : Int} {b : Bool} {R : D → Prop} : gEq (.int a) (.bl b) R = ((shp 60 (.int a) = true ∧ shp 60 (.bl b) = true) ∧ R (.bl (PyData.eqv (toP (.int a)) (toP (.bl b))))) := rfl
theorem gEq_ii {a : Int} {b : Int} {R : D → Prop} : gEq (.int a) (.int b) R = R (.bl (decide (a = b))) := rfl
theorem gEq_is {a : Int} {b : Str} {R : D → Prop} : gEq (.int a) (.str b) R = ((shp 60 (.int a) = true ∧ shp 60 (.str b) = true) ∧ R (.bl (PyData.eqv (toP (.int a)) (toP (.str b))))) := rfl
theorem gEq_it {a : Int} {b : List D} {R : D → Prop} : gEq (.int a) (.tup b) R = ((shp 60 (.int a) = true ∧ shp 60 (.tup b) = true) ∧ R (.bl (PyData.eqv (toP (.int a)) (toP (.tup b))))) := rfl
theorem gEq_il {a : Int} {b : List D} {R : D → Prop} : gEq (.int a) (.lst b) R = ((shp 60 (.int a) = true ∧ shp 60 (.lst b) = true) ∧ R (.bl (PyData.eqv (toP (.int a)) (toP (.lst b))))) := rfl
theorem gEq_sn {a : Str} {R : D → Prop} : gEq (.str a) D.non R = ((shp 60 (.str a) = true ∧ shp 60 D.non = true) ∧ R (.bl (PyData.eqv (toP (.str a)) (toP D.non)))) := rfl
theorem gEq_sb {a : Str} {b : Bool} {R : D → Prop} : gEq (.str a) (.bl b) R = ((shp 60 (.str a) = true ∧ shp 60 (.bl b) = true) ∧ R (.bl (PyData.eqv (toP (.str a)) (toP (.bl b))))) := rfl
theorem gEq_si {a : Str} {b : Int} {R : D → Prop} : gEq (.str a) (.int b) R = ((shp 60 (.str a) = true ∧ shp 60 (.int b) = true) ∧ R (.bl (PyData.eqv (toP (.str a)) (toP (.int b))))) := rfl
theorem gEq_ss {a : Str} {b : Str} {R : D → Prop} : gEq (.str a) (.str b) R = R (.bl (decide (a = b))) := rfl
theorem gEq_st {a : Str} {b : List D} {R : D → Prop} : gEq (.str a) (.tup b) R = ((shp 60 (.str a) = true ∧ shp 60 (.tup b) = true) ∧ R (.bl (PyData.eqv (toP (.str a)) (toP (.tup b))))) := rfl
theorem gEq_sl {a : Str} {b : List D} {R : D → Prop} : gEq (.str a) (.lst b) R = ((shp 60 (.str a) = true ∧ shp 60 (.lst b) = true) ∧ R (.bl (PyData.eqv (toP (.str a)) (toP (.lst b))))) := rfl
theorem gEq_tn {a : List D} {R : D → Prop} : gEq (.tup a) D.non R = ((shp 60 (.tup a) = true ∧ shp 60 D.non = true) ∧ R (.bl (PyData.eqv (toP (.tup a)) (toP D.non)))) := rfl
theorem gEq_tb {a : List D} {b : Bool} {R : D → Prop} : gEq (.tup a) (.bl b) R = ((shp 60 (.tup a) = true ∧ shp 60 (.bl b) = true) ∧ R (.bl (PyData.eqv (toP (.tup a)) (toP (.bl b))))) := rfl
theorem gEq_ti {a : List D} {b : Int} {R : D → Prop} : gEq (.tup a) (.int b) R = ((shp 60 (.tup a) = true ∧ shp 60 (.int b) = true) ∧ R (.bl (PyData.eqv (toP (.tup a)) (toP (.int b))))) := rfl
theorem gEq_ts {a : List D} {b : Str} {R : D → Prop} : gEq (.tup a) (.str b) R = ((shp 60 (.tup a) = true ∧ shp 60 (.str b) = true) ∧ R (.bl (PyData.eqv (toP (.tup a)) (toP (.str b))))) := rfl
theorem gEq_tt {a : List D} {b : List D} {R : D → Prop} : gEq (.tup a) (.tup b) R = ((shp 60 (.tup a) = true ∧ shp 60 (.tup b) = true) ∧ R (.bl (PyData.eqv (toP (.tup a)) (toP (.tup b))))) := rfl
theorem gEq_tl {a : List D} {b : List D} {R : D → Prop} : gEq (.tup a) (.lst b) R = ((shp 60 (.tup a) = true ∧ shp 60 (.lst b) = true) ∧ R (.bl (PyData.eqv (toP (.tup a)) (toP (.lst b))))) := rfl
theorem gEq_ln {a : List D} {R : D → Prop} : gEq (.lst a) D.non R = ((shp 60 (.lst a) = true ∧ shp 60 D.non = true) ∧ R (.bl (PyData.eqv (toP (.lst a)) (toP D.non)))) := rfl
theorem gEq_lb {a : List D} {b : Bool} {R : D → Prop} : gEq (.lst a) (.bl b) R = ((shp 60 (.lst a) = true ∧ shp 60 (.bl b) = true) ∧ R (.bl (PyData.eqv (toP (.lst a)) (toP (.bl b))))) := rfl
theorem gEq_li {a : List D} {b : Int} {R : D → Prop} : gEq (.lst a) (.int b) R = ((shp 60 (.lst a) = true ∧ shp 60 (.int b) = true) ∧ R (.bl (PyData.eqv (toP (.lst a)) (toP (.int b))))) := rfl
theorem gEq_ls {a : List D} {b : Str} {R : D → Prop} : gEq (.lst a) (.str b) R = ((shp 60 (.lst a) = true ∧ shp 60 (.str b) = true) ∧ R (.bl (PyData.eqv (toP (.lst a)) (toP (.str b))))) := rfl
theorem gEq_lt {a : List D} {b : List D} {R : D → Prop} : gEq (.lst a) (.tup b) R = ((shp 60 (.lst a) = true ∧ shp 60 (.tup b) = true) ∧ R (.bl (PyData.eqv (toP (.lst a)) (toP (.tup b))))) := rfl
theorem gEq_ll {a : List D} {b : List D} {R : D → Prop} : gEq (.lst a) (.lst b) R = ((shp 60 (.lst a) = true ∧ shp 60 (.lst b) = true) ∧ R (.bl (PyData.eqv (toP (.lst a)) (toP (.lst b))))) := rfl
theorem gNe_nn {R : D → Prop} : gNe D.non D.non R = ((shp 60 D.non = true ∧ shp 60 D.non = true) ∧ R (.bl (!PyData.eqv (toP D.non) (toP D.non)))) := rfl
theorem gNe_nb {b : Bool} {R : D → Prop} : gNe D.non (.bl b) R = ((shp 60 D.non = true ∧ shp 60 (.bl b) = true) ∧ R (.bl (!PyData.eqv (toP D.non) (toP (.bl b))))) := rfl
theorem gNe_ni {b : Int} {R : D → Prop} : gNe D.non (.int b) R = ((shp 60 D.non = true ∧ shp 60 (.int b) = true) ∧ R (.bl (!PyData.eqv (toP D.non) (toP (.int b))))) := rfl
theorem gNe_ns {b : Str} {R : D → Prop} : gNe D.non (.str b) R = ((shp 60 D.non = true ∧ shp 60 (.str b) = true) ∧ R (.bl (!PyData.eqv (toP D.non) (toP (.str b))))) := rfl
theorem gNe_nt {b : List D} {R : D → Prop} : gNe D.non (.tup b) R = ((shp 60 D.non = true ∧ shp 60 (.tup b) = true) ∧ R (.bl (!PyData.eqv (toP D.non) (toP (.tup b))))) := rfl
theorem gNe_nl {b : List D} {R : D → Prop} : gNe D.non (.lst b) R = ((shp 60 D.non = true ∧ shp 60 (.lst b) = true) ∧ R (.bl (!PyData.eqv (toP D.non) (toP (.lst b))))) := rfl
theorem gNe_bn {a : Bool} {R : D → Prop} : gNe (.bl a) D.non R = ((shp 60 (.bl a) = true ∧ shp 60 D.non = true) ∧ R (.bl (!PyData.eqv (toP (.bl a)) (toP D.non)))) := rfl
theorem gNe_bb {a : Bool} {b : Bool} {R : D → Prop} : gNe (.bl a) (.bl b) R = R (.bl (!decide (a = b))) := rfl
theorem gNe_bi {a : Bool} {b : Int} {R : D → Prop} : gNe (.bl a) (.int b) R = ((shp 60 (.bl a) = true ∧ shp 60 (.int b) = true) ∧ R (.bl (!PyData.eqv (toP (.bl a)) (toP (.int b))))) := rfl
theorem gNe_bs {a : Bool} {b : Str} {R : D → Prop} : gNe (.bl a) (.str b) R = ((shp 60 (.bl a) = true ∧ shp 60 (.str b) = true) ∧ R (.bl (!PyData.eqv (toP (.bl a)) (toP (.str b))))) := rfl
theorem gNe_bt {a : Bool} {b : List D} {R : D → Prop} : gNe (.bl a) (.tup b) R = ((shp 60 (.bl a) = true ∧ shp 60 (.tup b) = true) ∧ R (.bl (!PyData.eqv (toP (.bl a)) (toP (.tup b))))) := rfl
theorem gNe_bl {a : Bool} {b : List D} {R : D → Prop} : gNe (.bl a) (.lst b) R = ((shp 60 (.bl a) = true ∧ shp 60 (.lst b) = true) ∧ R (.bl (!PyData.eqv (toP (.bl a)) (toP (.lst b))))) := rfl
theorem gNe_in {a : Int} {R : D → Prop} : gNe (.int a) D.non R = ((shp 60 (.int a) = true ∧ shp 60 D.non = true) ∧ R (.bl (!PyData.eqv (toP (.int a)) (toP D.non)))) := rfl
theorem gNe_ib {a : Int} {b : Bool} {R : D → Prop} : gNe (.int a) (.bl b) R = ((shp 60 (.int a) = true ∧ shp 60 (.bl b) = true) ∧ R (.bl (!PyData.eqv (toP (.int a)) (toP (.bl b))))) := rfl
theorem gNe_ii {a : Int} {b : Int} {R : D → Prop} : gNe (.int a) (.int b) R = R (.bl (!decide (a = b))) := rfl
theorem gNe_is {a : Int} {b : Str} {R : D → Prop} : gNe (.int a) (.str b) R = ((shp 60 (.int a) = true ∧ shp 60 (.str b) = true) ∧ R (.bl (!PyData.eqv (toP (.int a)) (toP (.str b))))) := rfl
theorem gNe_it {a : Int} {b : List D} {R : D → Prop} : gNe (.int a) (.tup b) R = ((shp 60 (.int a) = true ∧ shp 60 (.tup b) = true) ∧ R (.bl (!PyData.eqv (toP (.int a)) (toP (.tup b))))) := rfl
theorem gNe_il {a : Int} {b : List D} {R : D → Prop} : gNe (.int a) (.lst b) R = ((shp 60 (.int a) = true ∧ shp 60 (.lst b) = true) ∧ R (.bl (!PyData.eqv (toP (.int a)) (toP (.lst b))))) := rfl
theorem gNe_sn {a : Str} {R : D → Prop} : gNe (.str a) D.non R = ((shp 60 (.str a) = true ∧ shp 60 D.non = true) ∧ R (.bl (!PyData.eqv (toP (.str a)) (toP D.non)))) := rfl
theorem gNe_sb {a : Str} {b : Bool} {R : D → Prop} : gNe (.str a) (.bl b) R = ((shp 60 (.str a) = true ∧ shp 60 (.bl b) = true) ∧ R (.bl (!PyData.eqv (toP (.str a)) (toP (.bl b))))) := rfl
theorem gNe_si {a : Str} {b : Int} {R : D → Prop} : gNe (.str a) (.int b) R = ((shp 60 (.str a) = true ∧ shp 60 (.int b) = true) ∧ R (.bl (!PyData.eqv (toP (.str a)) (toP (.int b))))) := rfl
theorem gNe_ss {a : Str} {b : Str} {R : D → Prop} : gNe (.str a) (.str b) R = R (.bl (!decide (a = b))) := rfl
theorem gNe_st {a : Str} {b : List D} {R : D → Prop} : gNe (.str a) (.tup b) R = ((shp 60 (.str a) = true ∧ shp 60 (.tup b) = true) ∧ R (.bl (!PyData.eqv (toP (.str a)) (toP (.tup b))))) := rfl
theorem gNe_sl {a : Str} {b : List D} {R : D → Prop} : gNe (.str a) (.lst b) R = ((shp 60 (.str a) = true ∧ shp 60 (.lst b) = true) ∧ R (.bl (!PyData.eqv (toP (.str a)) (toP (.lst b))))) := rfl
theorem gNe_tn {a : List D} {R : D → Prop} : gNe (.tup a) D.non R = ((shp 60 (.tup a) = true ∧ shp 60 D.non = true) ∧ R (.bl (!PyData.eqv (toP (.tup a)) (toP D.non)))) := rfl
theorem gNe_tb {a : List D} {b : Bool} {R : D → Prop} : gNe (.tup a) (.bl b) R = ((shp 60 (.tup a) = true ∧ shp 60 (.bl b) = true) ∧ R (.bl (!PyData.eqv (toP (.tup a)) (toP (.bl b))))) := rfl
theorem gNe_ti {a : List D} {b : Int} {R : D → Prop} : gNe (.tup a) (.int b) R = ((shp 60 (.tup a) = true ∧ shp 60 (.int b) = true) ∧ R (.bl (!PyData.eqv (toP (.tup a)) (toP (.int b))))) := rfl
theorem gNe_ts {a : List D} {b : Str} {R : D → Prop} : gNe (.tup a) (.str b) R = ((shp 60 (.tup a) = true ∧ shp 60 (.str b) = true) ∧ R (.bl (!PyData.eqv (toP (.tup a)) (toP (.str b))))) := rfl
theorem gNe_tt {a : List D} {b : List D} {R : D → Prop} : gNe (.tup a) (.tup b) R = ((shp 60 (.tup a) = true ∧ shp 60 (.tup b) = true) ∧ R (.bl (!PyData.eqv (toP (.tup a)) (toP (.tup b))))) := rfl
theorem gNe_tl {a : List D} {b : List D} {R : D → Prop} : gNe (.tup a) (.lst b) R = ((shp 60 (.tup a) = true ∧ shp 60 (.lst b) = true) ∧ R (.bl (!PyData.eqv (toP (.tup a)) (toP (.lst b))))) := rfl
theorem gNe_ln {a : List D} {R : D → Prop} : gNe (.lst a) D.non R = ((shp 60 (.lst a) = true ∧ shp 60 D.non = true) ∧ R (.bl (!PyData.eqv (toP (.lst a)) (toP D.non)))) := rfl
theorem gNe_lb {a : List D} {b : Bool} {R : D → Prop} : gNe (.lst a) (.bl b) R = ((shp 60 (.lst a) = true ∧ shp 60 (.bl b) = true) ∧ R (.bl (!PyData.eqv (toP (.lst a)) (toP (.bl b))))) := rfl
theorem gNe_li {a : List D} {b : Int} {R : D → Prop} : gNe (.lst a) (.int b) R = ((shp 60 (.lst a) = true ∧ shp 60 (.int b) = true) ∧ R (.bl (!PyData.eqv (toP (.lst a)) (toP (.int b))))) := rfl
theorem gNe_ls {a : List D} {b : Str} {R : D → Prop} : gNe (.lst a) (.str b) R = ((shp 60 (.lst a) = true ∧ shp 60 (.str b) = true) ∧ R (.bl (!PyData.eqv (toP (.lst a)) (toP (.str b))))) := rfl
theorem gNe_lt {a : List D} {b : List D} {R : D → Prop} : gNe (.lst a) (.tup b) R = ((shp 60 (.lst a) = true ∧ shp 60 (.tup b) = true) ∧ R (.bl (!PyData.eqv (toP (.lst a)) (toP (.tup b))))) := rfl
theorem gNe_ll {a : List D} {b : List D} {R : D → Prop} : gNe (.lst a) (.lst b) R = ((shp 60 (.lst a) = true ∧ shp 60 (.lst b) = true) ∧ R (.bl (!PyData.eqv (toP (.lst a)) (toP (.lst b))))) := rfl
/-- an if that is known, ahead of all that follows -/
theorem seqIf {c : DT} {t u w : DS} {E : DEn} {τ : Sl} (b : Bool) (hc : ∀ Q : Bool → Prop, Q b → c τ Q) (h : if b = true then t { E with nx := w E } τ else u { E with nx := w E } τ) : dSeq (dIfS c t u) w E τ :=
  hc _ h
theorem seqNext {u : DS} {E : DEn} {τ : Sl} (h : u E τ) : dSeq dNext u E τ := h
theorem ofNext {u : DS} {E : DEn} {τ : Sl} {rt : D → Prop} {bk ct : Sl → Prop} (h : u E τ) : dNext { nx := u E, rt := rt, bk := bk, ct := ct } τ := h
theorem seqAsg {i : Nat} {d : DE} {w : DS} {E : DEn} {τ : Sl} (x : D) (hd : ∀ Q : D → Prop, Q x → d τ Q) (h : w E (τ.set i (some x))) : dSeq (dAsg d (gN i)) w E τ := hd _ h
theorem seqFor {it : DI} {g : DG} {body w : DS} {E : DEn} {τ : Sl} (l : List D) (hd : ∀ Q : List D → Prop, Q l → it τ Q) (h : dForGo g body { E with nx := w E } l τ) : dSeq (dFor it g body) w E τ := hd (fun l => dForGo g body { E with nx := w E } l τ) h
theorem forStep {g : DG} {body : DS} {E : DEn} {x : D} {r : List D} {τ : Sl} (I : Sl → Prop) (h1 : ∀ k : Sl → Prop, (∀ τ', I τ' → k τ') → g x τ fun τ2 => body { nx := k, rt := E.rt, bk := E.nx, ct := k } τ2) (h2 : ∀ τ', I τ' → dForGo g body E r τ') : dForGo g body E (x :: r) τ := h1 _ h2
theorem seqOwn {i : Nat} {d : DA} {w : DS} {E : DEn} {τ : Sl} (l : List D) (hd : ∀ Q : List D → Prop, Q l → d τ Q) (h : w E (τ.set i (some (.own l)))) : dSeq (dOwn d i) w E τ := hd _ h
theorem seqPar {i j : Nat} {d : DA} {w : DS} {E : DEn} {τ : Sl} (x y : D) (hd : ∀ Q : List D → Prop, Q [x, y] → d τ Q) (h : w E ((τ.set i (some x)).set j (some y))) : dSeq (dPar i j d) w E τ := by
  unfold dSeq dPar
  exact hd _ h
theorem seqAsgP {i : Nat} {d : DE} {w : DS} {E : DEn} {τ : Sl} (I : D → Prop) (hd : ∀ Q : D → Prop, (∀ x, I x → Q x) → d τ Q) (h : ∀ x, I x → w E (τ.set i (some x))) : dSeq (dAsg d (gN i)) w E τ := hd _ h
theorem seqApp {i : Nat} {d : DE} {w : DS} {E : DEn} {τ : Sl} (h : dApp i d { nx := w E, rt := E.rt, bk := E.bk, ct := E.ct } τ) : dSeq (dApp i d) w E τ := h
theorem seqFree {i : Nat} {d : DS} {w : DS} {E : DEn} {τ : Sl} (h : dFree i d { nx := w E, rt := E.rt, bk := E.bk, ct := E.ct } τ) : dSeq (dFree i d) w E τ := h
theorem seqIfAny {c : DT} {t u w : DS} {E : DEn} {τ : Sl} (hc : ∀ Q : Bool → Prop, (∀ b, Q b) → c τ Q) (h1 : t { E with nx := w E } τ) (h2 : u { E with nx := w E } τ) : dSeq (dIfS c t u) w E τ :=
  hc _ fun b => by
    cases b
    · rw [if_neg Bool.false_ne_true]
      exact h2
    · rw [if_pos rfl]
      exact h1
/-! ### a value as a test -/
def dTru (d : DE) : DT := fun τ R => d τ fun x => match x with
  | .tup l => R (!l.isEmpty)
  | .lst l => R (!l.isEmpty)
  | _ => False
theorem pdt_tru {X : Cx} {p : Qt} {a : Expr} {da : DE} (ha : PD X p a da) (he : ∀ whole, isTrue a X.env whole = (do let v ← whole; standAt a.pos; holding [v] (truthy v)) := by intro _; rfl) : PDT X p a (dTru da) := by
  obtain ⟨ta, a1, a2⟩ := ha.run
  refine ⟨_, pt_truth a1 he, fun g F σ H τ Q R rel h q => ?_⟩
  refine a2 g F σ H τ _ _ rel h fun x v H1 e1 i1 h1 => ?_
  cases i1 with
  | @tup a vs l hs hn hl =>
    have e : (!vs.isEmpty) = (!l.isEmpty) := by
      have := hl.len
      cases vs <;> cases l <;> simp at this ⊢
    exact ⟨_, .inr (.inl ⟨vs, hs, rfl⟩), by rw [e]; exact q _ H1 e1 h1⟩
  | @lst a vs l hs hn hl =>
    have e : (!vs.isEmpty) = (!l.isEmpty) := by
      have := hl.len
      cases vs <;> cases l <;> simp at this ⊢
    exact ⟨_, .inl ⟨vs, Rdl.sq hs, rfl⟩, by rw [e]; exact q _ H1 e1 h1⟩
  | _ => exact (show False from h1).elim
theorem seqTo {t u : DS} {E : DEn} {τ : Sl} (τ1 : Sl) (h1 : ∀ k : Sl → Prop, k τ1 → t { nx := k, rt := E.rt, bk := E.bk, ct := E.ct } τ) (h2 : u E τ1) : dSeq t u E τ := h1 _ h2
theorem lastFor {it : DI} {g : DG} {body : DS} {E : DEn} {τ : Sl} (l : List D) (hd : ∀ Q : List D → Prop, Q l → it τ Q) (h : dForGo g body E l τ) : dFor it g body E τ := hd (fun l => dForGo g body E l τ) h
theorem forId {g : DG} {body : DS} {E : DEn} (l : List D) (I : List D → Sl → Prop) (τ : Sl) (h0 : I [] τ)
    (step : ∀ (k : Sl → Prop) (done : List D) (x : D) (rest : List D) (τ : Sl), l = done ++ x :: rest → (∀ τ', I (done ++ [x]) τ' → k τ') → I done τ → g x τ fun τ2 => body { nx := k, rt := E.rt, bk := E.nx, ct := k } τ2)
    (fin : ∀ τ, I l τ → E.nx τ) : dForGo g body E l τ := by
  have := forList (c := fun x : D => x) l I τ h0 step fin
  rwa [List.map_id'] at this
theorem lcId {g : DG} {te : DE} {τ : Sl} {R : List D → Prop} (f : D → D) (l : List D) (acc : List D) (h : ∀ x ∈ l, ∀ Q : D → Prop, Q (f x) → g x τ fun τ2 => te τ2 Q) (hR : R (acc ++ l.map f)) : dLcGo g dYes te τ l acc R := by
  have := lc_map (fun x : D => x) f l acc h hR
  rwa [List.map_id'] at this
theorem seqParP {i j : Nat} {d : DA} {w : DS} {E : DEn} {τ : Sl} (I : D → D → Prop) (hd : ∀ Q : List D → Prop, (∀ x y, I x y → Q [x, y]) → d τ Q) (h : ∀ x y, I x y → w E ((τ.set i (some x)).set j (some y))) : dSeq (dPar i j d) w E τ := by
  unfold dSeq dPar
  exact hd _ h
theorem seqPar3P {i j l : Nat} {d : DA} {w : DS} {E : DEn} {τ : Sl} (I : D → D → D → Prop) (hd : ∀ Q : List D → Prop, (∀ x y z, I x y z → Q [x, y, z]) → d τ Q) (h : ∀ x y z, I x y z → w E (((τ.set i (some x)).set j (some y)).set l (some z))) : dSeq (dPar3 i j l d) w E τ := by
  unfold dSeq dPar3
  exact hd _ h
theorem seqOwnP {i : Nat} {d : DA} {w : DS} {E : DEn} {τ : Sl} (I : List D → Prop) (hd : ∀ Q : List D → Prop, (∀ l, I l → Q l) → d τ Q) (h : ∀ l, I l → w E (τ.set i (some (.own l)))) : dSeq (dOwn d i) w E τ := hd _ h
theorem seqFreeFor {i : Nat} {g : DG} {body w : DS} {E : DEn} {τ : Sl} {l : List D} (ht : τ[i]? = some (some (.own l))) (h : dForGo g body { nx := w E, rt := E.rt, bk := E.bk, ct := E.ct } l (τ.set i (some (.lst l)))) : dSeq (dFree i (dFor (dSq (dVar i)) g body)) w E τ := by
  unfold dSeq dFree
  rw [ht]
  show dSq (dVar i) (τ.set i (some (.lst l))) _
  unfold dSq dVar
  have hi := (List.getElem?_eq_some_iff.mp ht).1
  rw [List.getElem?_set_self hi]
  exact h
end DL
namespace LW
open PySem PySem.Spec L2 DL
open PyProof.Rows hiding St
def top (i : Nat) : Stmt := PySem.Challenge.pw_truecourse_k14_whole_boxes.main.body.getD i (.Pass ⟨0, 0, 0, 0⟩)
abbrev s_floor_of : Stmt := top 11
theorem sc_floor_of : FnScope ["ratio", "times"] ["ratio", "times"] (defScope s_floor_of) := ⟨rfl, rfl, rfl, by decide +kernel, rfl, by decide +kernel, by decide +kernel⟩
abbrev s_ceiling_of : Stmt := top 12
theorem sc_ceiling_of : FnScope ["ratio", "times"] ["ratio", "times"] (defScope s_ceiling_of) := ⟨rfl, rfl, rfl, by decide +kernel, rfl, by decide +kernel, by decide +kernel⟩
abbrev s_in_bounds : Stmt := top 16
theorem sc_in_bounds : FnScope ["low", "high"] ["low", "high"] (defScope s_in_bounds) := ⟨rfl, rfl, rfl, by decide +kernel, rfl, by decide +kernel, by decide +kernel⟩
abbrev s_grain_around : Stmt := top 17
theorem sc_grain_around : FnScope ["ratio"] ["ratio"] (defScope s_grain_around) := ⟨rfl, rfl, rfl, by decide +kernel, rfl, by decide +kernel, by decide +kernel⟩
abbrev s_grain_hull : Stmt := top 18
theorem sc_grain_hull : FnScope ["one", "other"] ["one", "other"] (defScope s_grain_hull) := ⟨rfl, rfl, rfl, by decide +kernel, rfl, by decide +kernel, by decide +kernel⟩
abbrev s_grain_meet : Stmt := top 19
theorem sc_grain_meet : FnScope ["one", "other", "low", "high"] ["one", "other"] (defScope s_grain_meet) := ⟨rfl, rfl, rfl, by decide +kernel, rfl, by decide +kernel, by decide +kernel⟩
abbrev s_lies_within : Stmt := top 20
theorem sc_lies_within : FnScope ["one", "other"] ["one", "other"] (defScope s_lies_within) := ⟨rfl, rfl, rfl, by decide +kernel, rfl, by decide +kernel, by decide +kernel⟩
abbrev s_middle_of : Stmt := top 21
theorem sc_middle_of : FnScope ["interval"] ["interval"] (defScope s_middle_of) := ⟨rfl, rfl, rfl, by decide +kernel, rfl, by decide +kernel, by decide +kernel⟩
abbrev s_has_ratio : Stmt := top 22
theorem sc_has_ratio : FnScope ["interval", "ratio", "number"] ["interval", "ratio"] (defScope s_has_ratio) := ⟨rfl, rfl, rfl, by decide +kernel, rfl, by decide +kernel, by decide +kernel⟩
abbrev s_is_integer : Stmt := top 25
theorem sc_is_integer : FnScope ["value"] ["value"] (defScope s_is_integer) := ⟨rfl, rfl, rfl, by decide +kernel, rfl, by decide +kernel, by decide +kernel⟩
abbrev s_is_from_to : Stmt := top 26
theorem sc_is_from_to : FnScope ["value", "least", "most"] ["value", "least", "most"] (defScope s_is_from_to) := ⟨rfl, rfl, rfl, by decide +kernel, rfl, by decide +kernel, by decide +kernel⟩
abbrev s_is_some_tuple : Stmt := top 27
theorem sc_is_some_tuple : FnScope ["value"] ["value"] (defScope s_is_some_tuple) := ⟨rfl, rfl, rfl, by decide +kernel, rfl, by decide +kernel, by decide +kernel⟩
abbrev s_is_ratio : Stmt := top 29
theorem sc_is_ratio : FnScope ["value", "number", "under"] ["value"] (defScope s_is_ratio) := ⟨rfl, rfl, rfl, by decide +kernel, rfl, by decide +kernel, by decide +kernel⟩
abbrev s_is_interval : Stmt := top 31
theorem sc_is_interval : FnScope ["value", "low", "high"] ["value"] (defScope s_is_interval) := ⟨rfl, rfl, rfl, by decide +kernel, rfl, by decide +kernel, by decide +kernel⟩
abbrev s_is_box : Stmt := top 33
theorem sc_is_box : FnScope ["value", "part"] ["value"] (defScope s_is_box) := ⟨rfl, rfl, rfl, by decide +kernel, rfl, by decide +kernel, by decide +kernel⟩
abbrev s_is_point : Stmt := top 34
theorem sc_is_point : FnScope ["value", "part"] ["value"] (defScope s_is_point) := ⟨rfl, rfl, rfl, by decide +kernel, rfl, by decide +kernel, by decide +kernel⟩
abbrev s_check_box : Stmt := top 35
theorem sc_check_box : FnScope ["box"] ["box"] (defScope s_check_box) := ⟨rfl, rfl, rfl, by decide +kernel, rfl, by decide +kernel, by decide +kernel⟩
abbrev s_check_point : Stmt := top 36
theorem sc_check_point : FnScope ["point"] ["point"] (defScope s_check_point) := ⟨rfl, rfl, rfl, by decide +kernel, rfl, by decide +kernel, by decide +kernel⟩
abbrev s_check_sizes : Stmt := top 37
theorem sc_check_sizes : FnScope ["one", "other"] ["one", "other"] (defScope s_check_sizes) := ⟨rfl, rfl, rfl, by decide +kernel, rfl, by decide +kernel, by decide +kernel⟩
abbrev s__check_boxes : Stmt := top 38
theorem sc__check_boxes : FnScope ["box", "other"] ["box", "other"] (defScope s__check_boxes) := ⟨rfl, rfl, rfl, by decide +kernel, rfl, by decide +kernel, by decide +kernel⟩
abbrev s_box_within : Stmt := top 39
theorem sc_box_within : FnScope ["box", "other", "part", "whole"] ["box", "other"] (defScope s_box_within) := ⟨rfl, rfl, rfl, by decide +kernel, rfl, by decide +kernel, by decide +kernel⟩
abbrev s_box_hull : Stmt := top 40
theorem sc_box_hull : FnScope ["box", "other", "one", "two"] ["box", "other"] (defScope s_box_hull) := ⟨rfl, rfl, rfl, by decide +kernel, rfl, by decide +kernel, by decide +kernel⟩
abbrev s_box_meet : Stmt := top 41
theorem sc_box_meet : FnScope ["box", "other", "meets", "one", "two"] ["box", "other"] (defScope s_box_meet) := ⟨rfl, rfl, rfl, by decide +kernel, rfl, by decide +kernel, by decide +kernel⟩
abbrev s__widths : Stmt := top 42
theorem sc__widths : FnScope ["box", "low", "high"] ["box"] (defScope s__widths) := ⟨rfl, rfl, rfl, by decide +kernel, rfl, by decide +kernel, by decide +kernel⟩
abbrev s_box_width : Stmt := top 43
theorem sc_box_width : FnScope ["box"] ["box"] (defScope s_box_width) := ⟨rfl, rfl, rfl, by decide +kernel, rfl, by decide +kernel, by decide +kernel⟩
abbrev s_widest : Stmt := top 44
theorem sc_widest : FnScope ["box", "widths"] ["box"] (defScope s_widest) := ⟨rfl, rfl, rfl, by decide +kernel, rfl, by decide +kernel, by decide +kernel⟩
abbrev s_with_interval : Stmt := top 45
theorem sc_with_interval : FnScope ["box", "position", "interval"] ["box", "position", "interval"] (defScope s_with_interval) := ⟨rfl, rfl, rfl, by decide +kernel, rfl, by decide +kernel, by decide +kernel⟩
abbrev s_box_halves : Stmt := top 46
theorem sc_box_halves : FnScope ["box", "position", "low", "high", "half"] ["box", "position"] (defScope s_box_halves) := ⟨rfl, rfl, rfl, by decide +kernel, rfl, by decide +kernel, by decide +kernel⟩
abbrev s_split_box : Stmt := top 47
theorem sc_split_box : FnScope ["box", "position"] ["box", "position"] (defScope s_split_box) := ⟨rfl, rfl, rfl, by decide +kernel, rfl, by decide +kernel, by decide +kernel⟩
abbrev s_holds_point : Stmt := top 48
theorem sc_holds_point : FnScope ["box", "point", "part", "ratio"] ["box", "point"] (defScope s_holds_point) := ⟨rfl, rfl, rfl, by decide +kernel, rfl, by decide +kernel, by decide +kernel⟩
abbrev s_around_point : Stmt := top 49
theorem sc_around_point : FnScope ["point", "ratio"] ["point"] (defScope s_around_point) := ⟨rfl, rfl, rfl, by decide +kernel, rfl, by decide +kernel, by decide +kernel⟩
abbrev s__law_draw : Stmt := top 52
theorem sc__law_draw : FnScope ["pot", "room", "digit"] ["pot", "room"] (defScope s__law_draw) := ⟨rfl, rfl, rfl, by decide +kernel, rfl, by decide +kernel, by decide +kernel⟩
abbrev s__law_pick : Stmt := top 53
theorem sc__law_pick : FnScope ["pot", "some"] ["pot", "some"] (defScope s__law_pick) := ⟨rfl, rfl, rfl, by decide +kernel, rfl, by decide +kernel, by decide +kernel⟩
abbrev s__law_one : Stmt := top 54
theorem sc__law_one : FnScope [] [] (defScope s__law_one) := ⟨rfl, rfl, rfl, by decide +kernel, rfl, by decide +kernel, by decide +kernel⟩
abbrev s__law_gcd : Stmt := top 55
theorem sc__law_gcd : FnScope ["one", "other"] ["one", "other"] (defScope s__law_gcd) := ⟨rfl, rfl, rfl, by decide +kernel, rfl, by decide +kernel, by decide +kernel⟩
abbrev s__law_ratio : Stmt := top 56
theorem sc__law_ratio : FnScope ["number", "under", "shared", "sign"] ["number", "under"] (defScope s__law_ratio) := ⟨rfl, rfl, rfl, by decide +kernel, rfl, by decide +kernel, by decide +kernel⟩
abbrev s__law_down : Stmt := top 57
theorem sc__law_down : FnScope ["number", "under"] ["number", "under"] (defScope s__law_down) := ⟨rfl, rfl, rfl, by decide +kernel, rfl, by decide +kernel, by decide +kernel⟩
abbrev s__law_up : Stmt := top 58
theorem sc__law_up : FnScope ["number", "under"] ["number", "under"] (defScope s__law_up) := ⟨rfl, rfl, rfl, by decide +kernel, rfl, by decide +kernel, by decide +kernel⟩
abbrev s__law_size : Stmt := top 59
theorem sc__law_size : FnScope ["pot", "way"] ["pot"] (defScope s__law_size) := ⟨rfl, rfl, rfl, by decide +kernel, rfl, by decide +kernel, by decide +kernel⟩
abbrev s__law_number : Stmt := top 60
theorem sc__law_number : FnScope ["pot", "size"] ["pot"] (defScope s__law_number) := ⟨rfl, rfl, rfl, by decide +kernel, rfl, by decide +kernel, by decide +kernel⟩
abbrev s__law_interval : Stmt := top 61
theorem sc__law_interval : FnScope ["pot", "one", "other"] ["pot"] (defScope s__law_interval) := ⟨rfl, rfl, rfl, by decide +kernel, rfl, by decide +kernel, by decide +kernel⟩
abbrev s__law_small_ratio : Stmt := top 62
theorem sc__law_small_ratio : FnScope ["pot", "number"] ["pot"] (defScope s__law_small_ratio) := ⟨rfl, rfl, rfl, by decide +kernel, rfl, by decide +kernel, by decide +kernel⟩
abbrev s__law_within : Stmt := top 63
theorem sc__law_within : FnScope ["pot", "interval", "low", "high", "under", "part"] ["pot", "interval"] (defScope s__law_within) := ⟨rfl, rfl, rfl, by decide +kernel, rfl, by decide +kernel, by decide +kernel⟩
abbrev s__law_has : Stmt := top 64
theorem sc__law_has : FnScope ["interval", "ratio", "low", "high"] ["interval", "ratio"] (defScope s__law_has) := ⟨rfl, rfl, rfl, by decide +kernel, rfl, by decide +kernel, by decide +kernel⟩
abbrev s__law_box : Stmt := top 65
theorem sc__law_box : FnScope ["pot", "many", "found", "turn"] ["pot", "many"] (defScope s__law_box) := ⟨rfl, rfl, rfl, by decide +kernel, rfl, by decide +kernel, by decide +kernel⟩
abbrev s__law_other : Stmt := top 66
theorem sc__law_other : FnScope ["pot", "box", "found", "way", "low", "high", "late"] ["pot", "box"] (defScope s__law_other) := ⟨rfl, rfl, rfl, by decide +kernel, rfl, by decide +kernel, by decide +kernel⟩
abbrev s__law_point : Stmt := top 67
theorem sc__law_point : FnScope ["pot", "box", "found", "interval"] ["pot", "box"] (defScope s__law_point) := ⟨rfl, rfl, rfl, by decide +kernel, rfl, by decide +kernel, by decide +kernel⟩
abbrev s__law_in : Stmt := top 68
theorem sc__law_in : FnScope ["box", "point", "interval", "one"] ["box", "point"] (defScope s__law_in) := ⟨rfl, rfl, rfl, by decide +kernel, rfl, by decide +kernel, by decide +kernel⟩
abbrev s__law_meet : Stmt := top 69
theorem sc__law_meet : FnScope ["box", "other", "found", "one", "late", "low", "high"] ["box", "other"] (defScope s__law_meet) := ⟨rfl, rfl, rfl, by decide +kernel, rfl, by decide +kernel, by decide +kernel⟩
abbrev s__law_two_right : Stmt := top 70
theorem sc__law_two_right : FnScope ["pot", "box", "other", "inside", "due", "both", "point", "is_in", "is_there", "one", "late"] ["pot", "box", "other"] (defScope s__law_two_right) := ⟨rfl, rfl, rfl, by decide +kernel, rfl, by decide +kernel, by decide +kernel⟩
abbrev s__law_parts_right : Stmt := top 71
theorem sc__law_parts_right : FnScope ["pot", "box", "low", "high", "wide", "at", "half", "due", "point", "near", "one"] ["pot", "box"] (defScope s__law_parts_right) := ⟨rfl, rfl, rfl, by decide +kernel, rfl, by decide +kernel, by decide +kernel⟩
abbrev s__law_right : Stmt := top 72
theorem sc__law_right : FnScope ["pot", "turn", "box"] ["pot"] (defScope s__law_right) := ⟨rfl, rfl, rfl, by decide +kernel, rfl, by decide +kernel, by decide +kernel⟩
abbrev s__law_pot : Stmt := top 51
theorem sc__law_pot : FnScope ["script", "k", "cell"] ["script", "k"] (defScope s__law_pot) := ⟨rfl, rfl, rfl, by decide +kernel, rfl, by decide +kernel, by decide +kernel⟩
abbrev s_law : Stmt := top 73
theorem sc_law : FnScope ["script"] ["script"] (defScope s_law) := ⟨rfl, rfl, rfl, by decide +kernel, rfl, by decide +kernel, by decide +kernel⟩
/-- what else the top has left -/
structure Txt (K : PySem.W.Frag) (mg : Str → Option Value) where
  b_abs : mg "abs" = none
  b_all : mg "all" = none
  b_bool : mg "bool" = none
  b_divmod : mg "divmod" = none
  b_int : mg "int" = none
  b_isinstance : mg "isinstance" = none
  b_len : mg "len" = none
  b_max : mg "max" = none
  b_min : mg "min" = none
  b_range : mg "range" = none
  b_repr : mg "repr" = none
  b_tuple : mg "tuple" = none
  b_zip : mg "zip" = none
  t_MOST_GRAINS : Tok
  m_MOST_GRAINS : mg "MOST_GRAINS" = some (.int 1180591620717411303424 t_MOST_GRAINS)
  t_MOST_LETTERS : Tok
  m_MOST_LETTERS : mg "MOST_LETTERS" = some (.int 8 t_MOST_LETTERS)
  t_ONE : Tok
  m_ONE : mg "ONE" = some (.int 1099511627776 t_ONE)
  m_gcd : mg "gcd" = some (.builtin "math.gcd")
/-- an interval of grains -/
structure Iv (q : Int × Int) : Prop where
  lo : -1180591620717411303424 ≤ q.1
  le : q.1 ≤ q.2
  hi : q.2 ≤ 1180591620717411303424
/-- a ratio in lowest terms, no wider than needed -/
structure Rt (q : Int × Int) : Prop where
  pos : 1 ≤ q.2
  cop : Nat.gcd q.1.natAbs q.2.natAbs = 1
  few : q.2 < 1606938044258990275541962092341162602522202993782792835301376
structure Bx (b : List (Int × Int)) : Prop where
  one : 1 ≤ b.length
  few : b.length ≤ 8
  iv : ∀ q ∈ b, Iv q
structure Pt (b : List (Int × Int)) : Prop where
  one : 1 ≤ b.length
  few : b.length ≤ 8
  rt : ∀ q ∈ b, Rt q
theorem lenOk_map {α : Type} {c : α → D} {l : List α} (h : l.length ≤ 1000000) : LenOk (l.map c) := .of l.length (List.length_map _) h
theorem lenOk_zip {α β : Type} {c : α × β → D} {l : List α} {m : List β} (h : l.length ≤ 1000000) : LenOk ((l.zip m).map c) := by
  refine lenOk_map ?_
  rw [List.length_zip]
  omega
theorem all_tt {α : Type} (l : List α) : (l.all fun _ => true) = true := by induction l with
  | nil => rfl
  | cons x l ih => rw [List.all_cons, ih]; rfl
theorem of_zip {α β : Type} {l : List α} {m : List β} {q : α × β} (h : q ∈ l.zip m) : q.1 ∈ l ∧ q.2 ∈ m := List.of_mem_zip h
def mtD (q : (Int × Int) × (Int × Int)) : D := if max q.1.1 q.2.1 ≤ min q.1.2 q.2.2 then ivD (max q.1.1 q.2.1, min q.1.2 q.2.2) else .non
/-- what box_meet answers -/
def meetD (b o : List (Int × Int)) : D := if ((b.zip o).all fun q => decide (max q.1.1 q.2.1 ≤ min q.1.2 q.2.2)) = true then .tup ((b.zip o).map fun q => ivD (max q.1.1 q.2.1, min q.1.2 q.2.2)) else .non
theorem widths_ne {α : Type} {b : List α} (h : 1 ≤ b.length) : ∃ q r, b = q :: r := by
  cases b with
  | nil => simp at h
  | cons q r => exact ⟨q, r, rfl⟩
theorem nat_get {α : Type} {b : List α} {c : α → D} {i : Int} {q : α} (h0 : 0 ≤ i) (h : b[i.toNat]? = some q) : atD (b.map c) i = some (c q) := by
  unfold atD
  rw [if_pos h0, List.getElem?_map, h]
  rfl
theorem sIx_none (n d : Nat) : HT.sIx n d none = d := rfl
theorem cut_lo {l : List D} {i : Int} (h0 : 0 ≤ i) (h1 : i.toNat ≤ l.length) : DL.cutD l none (some i) = l.take i.toNat := by
  have e : HT.sIx l.length l.length (some i) = i.toNat := by
    unfold HT.sIx
    simp only []
    split <;> omega
  unfold DL.cutD
  rw [e, sIx_none]
  simp
theorem cut_hi {l : List D} {i : Int} (h0 : 0 ≤ i) (h1 : i.toNat ≤ l.length) : DL.cutD l (some i) none = l.drop i.toNat := by
  have e : HT.sIx l.length 0 (some i) = i.toNat := by
    unfold HT.sIx
    simp only []
    split <;> omega
  unfold DL.cutD
  rw [e, sIx_none]
  rw [List.take_of_length_le]
  simp
theorem gcd_mod (a b : Int) (hb : 0 < b) : Nat.gcd b.natAbs (a % b).natAbs = Nat.gcd a.natAbs b.natAbs := by
  have e : (Int.gcd b (a % b)) = Int.gcd a b := by
    have e2 := Int.gcd_add_mul_right_right b (a % b) (a / b)
    rw [Int.mul_comm, Int.emod_add_mul_ediv] at e2
    rw [← e2, Int.gcd_comm]
  exact e
theorem gcd_pos {a b : Int} (hb : 0 < b) : 0 < Nat.gcd a.natAbs b.natAbs := Nat.gcd_pos_of_pos_right _ (by omega)
/-- a number over another in lowest terms -/
theorem low_terms {n u : Int} (hu : 0 < u) (hw : u < 1606938044258990275541962092341162602522202993782792835301376) :
    Rt (n / ((Nat.gcd n.natAbs u.natAbs : Nat) : Int), u / ((Nat.gcd n.natAbs u.natAbs : Nat) : Int)) ∧ n / ((Nat.gcd n.natAbs u.natAbs : Nat) : Int) * u = n * (u / ((Nat.gcd n.natAbs u.natAbs : Nat) : Int)) := by
  have hg := gcd_pos (a := n) hu
  generalize hgd : Nat.gcd n.natAbs u.natAbs = g at hg
  have d1 : (g : Int) ∣ n := Int.ofNat_dvd_left.mpr (hgd ▸ Nat.gcd_dvd_left _ _)
  have d2 : (g : Int) ∣ u := Int.ofNat_dvd_left.mpr (hgd ▸ Nat.gcd_dvd_right _ _)
  obtain ⟨a, rfl⟩ := d1
  obtain ⟨b, rfl⟩ := d2
  have g0 : (g : Int) ≠ 0 := by omega
  rw [Int.mul_ediv_cancel_left _ g0, Int.mul_ediv_cancel_left _ g0]
  have hb : 0 < b := by
    by_cases c : 0 < b
    · exact c
    · have := Int.mul_nonneg (show (0 : Int) ≤ g by omega) (show 0 ≤ -b by omega)
      rw [Int.mul_neg] at this
      omega
  refine ⟨⟨by show 1 ≤ b; omega, ?_, ?_⟩, by grind⟩
  · show Nat.gcd a.natAbs b.natAbs = 1
    rw [Int.natAbs_mul, Int.natAbs_mul, Int.natAbs_natCast, Nat.gcd_mul_left] at hgd
    exact Nat.eq_of_mul_eq_mul_left hg (by omega)
  · show b < _
    have := Int.mul_le_mul_of_nonneg_right (show (1 : Int) ≤ g by omega) (show 0 ≤ b by omega)
    omega
/-- a ratio whose grains are within bounds -/
structure Pr (q : Int × Int) : Prop where
  rt : Rt q
  lo : -1180591620717411303424 * q.2 ≤ q.1 * 1099511627776
  hi : q.1 * 1099511627776 ≤ 1180591620717411303424 * q.2
structure Pp (o : List (Int × Int)) : Prop where
  one : 1 ≤ o.length
  few : o.length ≤ 8
  pr : ∀ q ∈ o, Pr q
theorem Pp.pt {o : List (Int × Int)} (h : Pp o) : Pt o := ⟨h.one, h.few, fun q hq => (h.pr q hq).rt⟩
/-- does the interval hold the ratio -/
def has (q : (Int × Int) × (Int × Int)) : Bool := decide (q.1.1 * q.2.2 ≤ q.2.1 * 1099511627776) && decide (q.2.1 * 1099511627776 ≤ q.1.2 * q.2.2)
theorem has_iff {q r : Int × Int} : has (q, r) = true ↔ q.1 * r.2 ≤ r.1 * 1099511627776 ∧ r.1 * 1099511627776 ≤ q.2 * r.2 := by
  unfold has
  rw [Bool.and_eq_true, decide_eq_true_iff, decide_eq_true_iff]
theorem zip_all {α β : Type} {f : α × β → Bool} : ∀ {l : List α} {m : List β}, (l.zip m).all f = true ↔ ∀ (i : Nat) (x : α) (y : β), l[i]? = some x → m[i]? = some y → f (x, y) = true
  | [], m => by simp
  | _ :: _, [] => by simp
  | a :: l, b :: m => by
    rw [List.zip_cons_cons, List.all_cons, Bool.and_eq_true, zip_all (l := l) (m := m)]
    constructor
    · rintro ⟨h1, h2⟩ i x y hx hy
      cases i with
      | zero =>
        have e1 : a = x := by simpa using hx
        have e2 : b = y := by simpa using hy
        subst e1
        subst e2
        exact h1
      | succ i => exact h2 i x y (by simpa using hx) (by simpa using hy)
    · intro h
      exact ⟨h 0 a b rfl rfl, fun i x y hx hy => h (i + 1) x y (by simpa using hx) (by simpa using hy)⟩
theorem zip_get {α β : Type} {l : List α} {m : List β} {i : Nat} {z : α × β} (h : (l.zip m)[i]? = some z) : l[i]? = some z.1 ∧ m[i]? = some z.2 := by
  rw [List.getElem?_zip_eq_some] at h
  exact h
theorem zip_self {α : Type} : ∀ l : List α, l.zip l = l.map fun x => (x, x)
  | [] => rfl
  | x :: l => by rw [List.zip_cons_cons, zip_self l]; rfl
theorem mul_up {a b d : Int} (h : a ≤ b) (hd : 1 ≤ d) : a * d ≤ b * d := Int.mul_le_mul_of_nonneg_right h (by omega)
theorem ivD_ok {q : Int × Int} (h : Iv q) : shp 58 (ivD q) = true ∧ intsOk (ivD q) ∧ cnt (ivD q) ≤ 3 := by
  have h1 := h.lo
  have h2 := h.le
  have h3 := h.hi
  exact ⟨rfl, ⟨small_log (by omega) (by omega), small_log (by omega) (by omega), trivial⟩, Nat.le_refl _⟩
theorem box_ok {b : List (Int × Int)} (h : Bx b) : okR (.tup (b.map ivD)) := by
  have hf := h.few
  refine ⟨?_, ?_, ?_⟩
  · show shps 59 _ = true
    exact shps_map fun q _ => rfl
  · show intsOks _
    exact intsOks_map fun q hq => (ivD_ok (h.iv q hq)).2.1
  · show cnts _ + 1 ≤ 5000
    have := cnts_map (c := ivD) (l := b) 3 fun q _ => Nat.le_refl _
    omega
theorem hull_bx {b o : List (Int × Int)} (hb : Bx b) (ho : Bx o) (hl : b.length = o.length) : Bx ((b.zip o).map fun q => (min q.1.1 q.2.1, max q.1.2 q.2.2)) := by
  have h1 := hb.one
  have h2 := hb.few
  refine ⟨by rw [List.length_map, List.length_zip]; omega, by rw [List.length_map, List.length_zip]; omega, fun q hq => ?_⟩
  obtain ⟨z, hz, rfl⟩ := List.mem_map.mp hq
  have i1 := hb.iv _ (of_zip hz).1
  have i2 := ho.iv _ (of_zip hz).2
  exact ⟨by have := i1.lo; have := i2.lo; show _ ≤ min _ _; omega, by have := i1.le; have := i2.le; show min _ _ ≤ max _ _; omega, by have := i1.hi; have := i2.hi; show max _ _ ≤ _; omega⟩
theorem meet_bx {b o : List (Int × Int)} (hb : Bx b) (ho : Bx o) (hl : b.length = o.length) (c : ((b.zip o).all fun q => decide (max q.1.1 q.2.1 ≤ min q.1.2 q.2.2)) = true) : Bx ((b.zip o).map fun q => (max q.1.1 q.2.1, min q.1.2 q.2.2)) := by
  have h1 := hb.one
  have h2 := hb.few
  refine ⟨by rw [List.length_map, List.length_zip]; omega, by rw [List.length_map, List.length_zip]; omega, fun q hq => ?_⟩
  obtain ⟨z, hz, rfl⟩ := List.mem_map.mp hq
  have i1 := hb.iv _ (of_zip hz).1
  have i2 := ho.iv _ (of_zip hz).2
  have i3 := of_decide_eq_true (List.all_eq_true.mp c z hz)
  exact ⟨by have := i1.lo; have := i2.lo; show _ ≤ max _ _; omega, i3, by have := i1.hi; have := i2.hi; show min _ _ ≤ _; omega⟩
theorem map_get {α β : Type} {l : List α} {f : α → β} {i : Nat} {y : β} (h : (l.map f)[i]? = some y) : ∃ x, l[i]? = some x ∧ f x = y := by
  rw [List.getElem?_map] at h
  cases q : l[i]? with
  | none => rw [q] at h; cases h
  | some x => rw [q] at h; exact ⟨x, rfl, by cases h; rfl⟩
theorem get_ex {α : Type} {l : List α} {i : Nat} (h : i < l.length) : ∃ x, l[i]? = some x := ⟨l[i], List.getElem?_eq_getElem h⟩
theorem lt_of_get {α : Type} {l : List α} {i : Nat} {x : α} (h : l[i]? = some x) : i < l.length := (List.getElem?_eq_some_iff.mp h).1
theorem mem_of_get {α : Type} {l : List α} {i : Nat} {x : α} (h : l[i]? = some x) : x ∈ l := List.mem_of_getElem? h
theorem zip_get2 {α β : Type} {l : List α} {m : List β} {i : Nat} {x : α} {y : β} (h1 : l[i]? = some x) (h2 : m[i]? = some y) : (l.zip m)[i]? = some (x, y) := by
  rw [List.getElem?_zip_eq_some]
  exact ⟨h1, h2⟩
theorem hull_has {b o p : List (Int × Int)} (hb : Bx b) (ho : Bx o) (hp : Pp p) (hl : b.length = o.length) (h : (b.zip p).all has = true ∨ (o.zip p).all has = true) : ((((b.zip o).map fun q => (min q.1.1 q.2.1, max q.1.2 q.2.2))).zip p).all has = true := by
  rw [zip_all]
  intro i x y hx hy
  obtain ⟨z, hz, rfl⟩ := map_get hx
  obtain ⟨z1, z2⟩ := zip_get hz
  have d := (hp.pr y (mem_of_get hy)).rt.pos
  have m1 := mul_up (Int.min_le_left z.1.1 z.2.1) d
  have m2 := mul_up (Int.min_le_right z.1.1 z.2.1) d
  have m3 := mul_up (Int.le_max_left z.1.2 z.2.2) d
  have m4 := mul_up (Int.le_max_right z.1.2 z.2.2) d
  rw [has_iff]
  show min z.1.1 z.2.1 * y.2 ≤ _ ∧ _ ≤ max z.1.2 z.2.2 * y.2
  rcases h with h | h
  · have := has_iff.mp (zip_all.mp h i _ _ z1 hy)
    omega
  · have := has_iff.mp (zip_all.mp h i _ _ z2 hy)
    omega
theorem meet_has {b o p : List (Int × Int)} (hp : Pp p) (hl : b.length = o.length) (hl2 : p.length = b.length) : ((((b.zip o).map fun q => (max q.1.1 q.2.1, min q.1.2 q.2.2))).zip p).all has = ((b.zip p).all has && (o.zip p).all has) := by
  rw [Bool.eq_iff_iff, Bool.and_eq_true, zip_all, zip_all, zip_all]
  have key : ∀ (x z y : Int × Int), 1 ≤ y.2 → (has ((max x.1 z.1, min x.2 z.2), y) = true ↔ has (x, y) = true ∧ has (z, y) = true) := by
    intro x z y d
    have m1 := mul_up (Int.le_max_left x.1 z.1) d
    have m2 := mul_up (Int.le_max_right x.1 z.1) d
    have m3 := mul_up (Int.min_le_left x.2 z.2) d
    have m4 := mul_up (Int.min_le_right x.2 z.2) d
    rw [has_iff, has_iff, has_iff]
    show (max x.1 z.1 * y.2 ≤ _ ∧ _ ≤ min x.2 z.2 * y.2) ↔ _
    constructor
    · rintro ⟨h1, h2⟩
      exact ⟨⟨by omega, by omega⟩, by omega, by omega⟩
    · rintro ⟨⟨h1, h2⟩, h3, h4⟩
      constructor
      · rcases Int.le_total x.1 z.1 with c | c
        · rw [Int.max_eq_right c]; exact h3
        · rw [Int.max_eq_left c]; exact h1
      · rcases Int.le_total x.2 z.2 with c | c
        · rw [Int.min_eq_left c]; exact h2
        · rw [Int.min_eq_right c]; exact h4
  constructor
  · intro h
    constructor
    · intro i x y hx hy
      obtain ⟨z, hz⟩ := get_ex (l := o) (i := i) (by have := lt_of_get hx; omega)
      exact ((key x z y (hp.pr y (mem_of_get hy)).rt.pos).mp (h i _ y (by rw [List.getElem?_map, zip_get2 hx hz]; rfl) hy)).1
    · intro i z y hz hy
      obtain ⟨x, hx⟩ := get_ex (l := b) (i := i) (by have := lt_of_get hz; omega)
      exact ((key x z y (hp.pr y (mem_of_get hy)).rt.pos).mp (h i _ y (by rw [List.getElem?_map, zip_get2 hx hz]; rfl) hy)).2
  · rintro ⟨h1, h2⟩ i w y hw hy
    obtain ⟨q, hq, rfl⟩ := map_get hw
    obtain ⟨q1, q2⟩ := zip_get hq
    exact (key q.1 q.2 y (hp.pr y (mem_of_get hy)).rt.pos).mpr ⟨h1 i _ y q1 hy, h2 i _ y q2 hy⟩
theorem put_get {α : Type} {b : List α} {n : Nat} {x : α} (hn : n < b.length) (i : Nat) : (b.take n ++ [x] ++ b.drop (n + 1))[i]? = if i = n then some x else b[i]? := by
  rw [List.append_assoc, List.getElem?_append, List.length_take, Nat.min_eq_left (Nat.le_of_lt hn)]
  by_cases h1 : i < n
  · rw [if_pos h1, if_neg (by omega), List.getElem?_take, if_pos h1]
  · rw [if_neg h1]
    by_cases h2 : i = n
    · subst h2
      rw [if_pos rfl, Nat.sub_self]
      rfl
    · rw [if_neg h2]
      obtain ⟨k, hk⟩ : ∃ k, i - n = k + 1 := ⟨i - n - 1, by omega⟩
      rw [hk]
      show (b.drop (n + 1))[k]? = _
      rw [List.getElem?_drop]
      congr 1
      omega
theorem halves_has {b p : List (Int × Int)} {n : Nat} {q : Int × Int} (hb : Bx b) (hp : Pp p) (hl : p.length = b.length) (hq : b[n]? = some q) (m : Int) (hm : q.1 ≤ m ∧ m ≤ q.2) :
    (((b.take n ++ [(q.1, m)] ++ b.drop (n + 1)).zip p).all has || ((b.take n ++ [(m, q.2)] ++ b.drop (n + 1)).zip p).all has) = (b.zip p).all has := by
  have hn := lt_of_get hq
  rw [Bool.eq_iff_iff, Bool.or_eq_true, zip_all, zip_all, zip_all]
  obtain ⟨y0, hy0⟩ := get_ex (l := p) (i := n) (by omega)
  have d0 := (hp.pr y0 (mem_of_get hy0)).rt.pos
  have m1 := mul_up hm.1 d0
  have m2 := mul_up hm.2 d0
  constructor
  · rintro (h | h) i x y hx hy
    · by_cases e : i = n
      · subst e
        rw [hq] at hx
        cases hx
        rw [hy0] at hy
        cases hy
        have := has_iff.mp (h i _ y0 (by rw [put_get hn, if_pos rfl]) hy0)
        rw [has_iff]
        have h1 := this.1
        have h2 := this.2
        have h1' : q.1 * y0.2 ≤ y0.1 * 1099511627776 := h1
        have h2' : y0.1 * 1099511627776 ≤ m * y0.2 := h2
        omega
      · exact h i x y (by rw [put_get hn, if_neg e]; exact hx) hy
    · by_cases e : i = n
      · subst e
        rw [hq] at hx
        cases hx
        rw [hy0] at hy
        cases hy
        have := has_iff.mp (h i _ y0 (by rw [put_get hn, if_pos rfl]) hy0)
        rw [has_iff]
        have h1' : m * y0.2 ≤ y0.1 * 1099511627776 := this.1
        have h2' : y0.1 * 1099511627776 ≤ q.2 * y0.2 := this.2
        omega
      · exact h i x y (by rw [put_get hn, if_neg e]; exact hx) hy
  · intro h
    have h0 := has_iff.mp (h n q y0 hq hy0)
    by_cases c : y0.1 * 1099511627776 ≤ m * y0.2
    · refine .inl fun i x y hx hy => ?_
      rw [put_get hn] at hx
      by_cases e : i = n
      · subst e
        rw [if_pos rfl] at hx
        cases hx
        rw [hy0] at hy
        cases hy
        exact has_iff.mpr ⟨h0.1, c⟩
      · rw [if_neg e] at hx
        exact h i x y hx hy
    · refine .inr fun i x y hx hy => ?_
      rw [put_get hn] at hx
      by_cases e : i = n
      · subst e
        rw [if_pos rfl] at hx
        cases hx
        rw [hy0] at hy
        cases hy
        exact has_iff.mpr ⟨by show m * y0.2 ≤ _; omega, h0.2⟩
      · rw [if_neg e] at hx
        exact h i x y hx hy
theorem ok2 (x y : Bool) : okR (.lst [.bl x, .bl y]) := ⟨rfl, ⟨trivial, trivial, trivial⟩, (show 1 + (1 + 0) + 1 ≤ 5000 by omega)⟩
theorem ok1 (x : Bool) : okR (.bl x) := ⟨rfl, trivial, (show 1 ≤ 5000 by omega)⟩
theorem within_self {b : List (Int × Int)} : ((b.zip b).all fun q => decide (q.2.1 ≤ q.1.1) && decide (q.1.2 ≤ q.2.2)) = true := by
  rw [zip_self, List.all_map]
  refine List.all_eq_true.mpr fun q _ => ?_
  show (decide (q.1 ≤ q.1) && decide (q.2 ≤ q.2)) = true
  simp
theorem ifF {c A B : Prop} [Decidable c] (h : ¬ c) (k : B) : if c then A else B := by rw [if_neg h]; exact k
theorem ifT {c A B : Prop} [Decidable c] (h : c) (k : A) : if c then A else B := by rw [if_pos h]; exact k
theorem meetD_pos {b o : List (Int × Int)} (c : ((b.zip o).all fun q => decide (max q.1.1 q.2.1 ≤ min q.1.2 q.2.2)) = true) : meetD b o = .tup (((b.zip o).map fun q => (max q.1.1 q.2.1, min q.1.2 q.2.2)).map ivD) := by
  unfold meetD
  rw [if_pos c, List.map_map]
  rfl
theorem meetD_neg {b o : List (Int × Int)} (c : ¬ ((b.zip o).all fun q => decide (max q.1.1 q.2.1 ≤ min q.1.2 q.2.2)) = true) : meetD b o = .non := by
  unfold meetD
  rw [if_neg c]
theorem meet_ok {b o : List (Int × Int)} (hb : Bx b) (ho : Bx o) (hl : b.length = o.length) : okR (meetD b o) := by
  by_cases c : ((b.zip o).all fun q => decide (max q.1.1 q.2.1 ≤ min q.1.2 q.2.2)) = true
  · rw [meetD_pos c]
    exact box_ok (meet_bx hb ho hl c)
  · rw [meetD_neg c]
    exact ⟨rfl, trivial, (show 1 ≤ 5000 by omega)⟩
section
variable {P : Program} {w : World} {K : PySem.W.Frag} {mg : Str → Option Value} {base : Heap} {tabs : Tf}
def sp_floor_of : SpD :=
  fun ds R => match ds with
  | [.tup [.int a, .int b], .int t] => (MulC a t ∧ BD b) ∧ R (.int (a * t / b))
  | _ => False
set_option maxHeartbeats 0 in
theorem ok_floor_of (T : Txt K mg) (D0 : Dfn K mg "floor_of" "floor_of" s_floor_of ["ratio", "times"] [])  : Cal P w K mg base tabs "floor_of" 1 2 ["ratio", "times"] [] sp_floor_of := by
  refine cal_of D0 sc_floor_of fun f cdv A outer s H E p ht hg hk hr => ⟨_, (pdss_one (pds_ret (pd_bin opd_div (pd_bin opd_mul (pd_ix (pd_var 0) pd_int) (pd_var 1)) (pd_ix (pd_var 0) pd_int)))), ?_⟩
  intro ds R hl h; unfold sp_floor_of at h; split at h
  all_goals (try exact False.elim h)
  all_goals clear hl hg hr hk ht
  simp (implicitDefEqProofs := false) (maxSteps := 3000000) only [startD, List.map_cons, List.map_nil, List.length_cons, List.length_nil, List.replicate, List.cons_append, List.nil_append, Nat.reduceAdd, Nat.reduceSub, Nat.zero_add, dSeq, dIfS, dOr, dAnd, dNot, dTst, dOp, dUn, dVar, dC, dB, dBK, dCons, dNil, dTup, dLst, dRet, dRetN, dNext, dNever, dAsg, dPar, dPar3, dIf, dAndV, dOrV, dNotV, dCh, dCt, cLast, cLink, tLast, tLink, dDrop, dFor, dBrk, dCnt, dOwn, dApp, dExt, dFree, gPutO, dIxO, dLend, dLendT, dLcF, gN, gTu, gCn, gNl, gP0, gP1, gII, gIIc, gAdd, gNeg, gIx, gEq, gNe, gIs, gIsNot, gIn, gNotIn, gSl, oNone, oSome, gMt, gIndex, cTuple, cList, cI1, cI2, cInt, cLen, cMax, cMin, cMaxT, cMinT, dAug, cAll, cAny, cRepr, cSqrt, cIsi, tyN, isNon, kb_tt, kb_ii, kb_ib, kb_bi, kb_bb, kb_it, kb_bt, kb_nt, kb_ni, kb_lt, kb_li, kb_ti, kb_si, kb_st, kb_ss, rd, dTru, dRgN, dEnum, gMulT, gDivN, gEqF, dCallV, spOf, atD, ordD, dSq, dZip, zipD_map, ivD, dRg1, dRg2, dLc, dYes, dLcGo, dGen, dGenGo, wipeD, boolsOf, intsOf, maxL, minL, noL, noLs, Option.map_some, Option.bind_some, List.all_cons, List.all_nil, List.any_cons, List.any_nil, id_eq, List.set_cons_zero, List.set_cons_succ, List.getElem?_cons_zero, List.getElem?_cons_succ, List.getElem?_nil, List.getD_cons_zero, List.getD_cons_succ, decide_eq_true_eq, decide_eq_false_iff_not, Bool.not_eq_true', Bool.not_true, Bool.not_false, Bool.and_true, Bool.true_and, Bool.and_false, Bool.false_and, Bool.false_eq_true, if_true, if_false, reduceIte, ite_true, ite_false, true_and, and_true, reduceCtorEq, Int.toNat_zero, Int.toNat_one, Int.cast_ofNat_Int, Int.reduceLT, Int.reduceLE, Int.reduceNeg, Int.reduceToNat, Int.reducePow, Int.reduceMul, Int.reduceAdd, Int.reduceSub, decide_true, decide_false]
  exact ⟨h.1.1, h.1.2, h.2⟩
def sp_ceiling_of : SpD :=
  fun ds R => match ds with
  | [.tup [.int a, .int b], .int t] => (MulC (-a) t ∧ BD b) ∧ R (.int (-(-a * t / b)))
  | _ => False
set_option maxHeartbeats 0 in
theorem ok_ceiling_of (T : Txt K mg) (D0 : Dfn K mg "ceiling_of" "ceiling_of" s_ceiling_of ["ratio", "times"] [])  : Cal P w K mg base tabs "ceiling_of" 1 2 ["ratio", "times"] [] sp_ceiling_of := by
  refine cal_of D0 sc_ceiling_of fun f cdv A outer s H E p ht hg hk hr => ⟨_, (pdss_one (pds_ret (pd_un und_neg (pd_bin opd_div (pd_bin opd_mul (pd_un und_neg (pd_ix (pd_var 0) pd_int)) (pd_var 1)) (pd_ix (pd_var 0) pd_int))))), ?_⟩
  intro ds R hl h; unfold sp_ceiling_of at h; split at h
  all_goals (try exact False.elim h)
  all_goals clear hl hg hr hk ht
  simp (implicitDefEqProofs := false) (maxSteps := 3000000) only [startD, List.map_cons, List.map_nil, List.length_cons, List.length_nil, List.replicate, List.cons_append, List.nil_append, Nat.reduceAdd, Nat.reduceSub, Nat.zero_add, dSeq, dIfS, dOr, dAnd, dNot, dTst, dOp, dUn, dVar, dC, dB, dBK, dCons, dNil, dTup, dLst, dRet, dRetN, dNext, dNever, dAsg, dPar, dPar3, dIf, dAndV, dOrV, dNotV, dCh, dCt, cLast, cLink, tLast, tLink, dDrop, dFor, dBrk, dCnt, dOwn, dApp, dExt, dFree, gPutO, dIxO, dLend, dLendT, dLcF, gN, gTu, gCn, gNl, gP0, gP1, gII, gIIc, gAdd, gNeg, gIx, gEq, gNe, gIs, gIsNot, gIn, gNotIn, gSl, oNone, oSome, gMt, gIndex, cTuple, cList, cI1, cI2, cInt, cLen, cMax, cMin, cMaxT, cMinT, dAug, cAll, cAny, cRepr, cSqrt, cIsi, tyN, isNon, kb_tt, kb_ii, kb_ib, kb_bi, kb_bb, kb_it, kb_bt, kb_nt, kb_ni, kb_lt, kb_li, kb_ti, kb_si, kb_st, kb_ss, rd, dTru, dRgN, dEnum, gMulT, gDivN, gEqF, dCallV, spOf, atD, ordD, dSq, dZip, zipD_map, ivD, dRg1, dRg2, dLc, dYes, dLcGo, dGen, dGenGo, wipeD, boolsOf, intsOf, maxL, minL, noL, noLs, Option.map_some, Option.bind_some, List.all_cons, List.all_nil, List.any_cons, List.any_nil, id_eq, List.set_cons_zero, List.set_cons_succ, List.getElem?_cons_zero, List.getElem?_cons_succ, List.getElem?_nil, List.getD_cons_zero, List.getD_cons_succ, decide_eq_true_eq, decide_eq_false_iff_not, Bool.not_eq_true', Bool.not_true, Bool.not_false, Bool.and_true, Bool.true_and, Bool.and_false, Bool.false_and, Bool.false_eq_true, if_true, if_false, reduceIte, ite_true, ite_false, true_and, and_true, reduceCtorEq, Int.toNat_zero, Int.toNat_one, Int.cast_ofNat_Int, Int.reduceLT, Int.reduceLE, Int.reduceNeg, Int.reduceToNat, Int.reducePow, Int.reduceMul, Int.reduceAdd, Int.reduceSub, decide_true, decide_false]
  exact ⟨h.1.1, h.1.2, h.2⟩
def sp_in_bounds : SpD :=
  fun ds R => match ds with
  | [.int a, .int b] => (-1180591620717411303424 ≤ a ∧ b ≤ 1180591620717411303424) ∧ R (.tup [.int a, .int b])
  | _ => False
set_option maxHeartbeats 0 in
theorem ok_in_bounds (T : Txt K mg) (D0 : Dfn K mg "in_bounds" "in_bounds" s_in_bounds ["low", "high"] [])  : Cal P w K mg base tabs "in_bounds" 1 2 ["low", "high"] [] sp_in_bounds := by
  refine cal_of D0 sc_in_bounds fun f cdv A outer s H E p ht hg hk hr => ⟨_, (pdss_cons (pds_if (pdw_t (pdw_or (pdt_cmp opd_lt (pd_var 0) (pd_un und_neg (pd_gint rfl T.m_MOST_GRAINS))) (pdw_or1 (pdt_cmp opd_gt (pd_var 1) (pd_gint rfl T.m_MOST_GRAINS))))) (pdss_one pds_never) pdss_nil)
      (pdss_one (pds_ret (pd_tup (pda_cons (pd_var 0) (pda_cons (pd_var 1) pda_nil)))))), ?_⟩
  intro ds R hl h; unfold sp_in_bounds at h; split at h
  all_goals (try exact False.elim h)
  all_goals clear hl hg hr hk ht
  rename_i a b
  obtain ⟨⟨h1, h2⟩, h⟩ := h
  simp (implicitDefEqProofs := false) (maxSteps := 3000000) only [startD, List.map_cons, List.map_nil, List.length_cons, List.length_nil, List.replicate, List.cons_append, List.nil_append, Nat.reduceAdd, Nat.reduceSub, Nat.zero_add, dSeq, dIfS, dOr, dAnd, dNot, dTst, dOp, dUn, dVar, dC, dB, dBK, dCons, dNil, dTup, dLst, dRet, dRetN, dNext, dNever, dAsg, dPar, dPar3, dIf, dAndV, dOrV, dNotV, dCh, dCt, cLast, cLink, tLast, tLink, dDrop, dFor, dBrk, dCnt, dOwn, dApp, dExt, dFree, gPutO, dIxO, dLend, dLendT, dLcF, gN, gTu, gCn, gNl, gP0, gP1, gII, gIIc, gAdd, gNeg, gIx, gEq, gNe, gIs, gIsNot, gIn, gNotIn, gSl, oNone, oSome, gMt, gIndex, cTuple, cList, cI1, cI2, cInt, cLen, cMax, cMin, cMaxT, cMinT, dAug, cAll, cAny, cRepr, cSqrt, cIsi, tyN, isNon, kb_tt, kb_ii, kb_ib, kb_bi, kb_bb, kb_it, kb_bt, kb_nt, kb_ni, kb_lt, kb_li, kb_ti, kb_si, kb_st, kb_ss, rd, dTru, dRgN, dEnum, gMulT, gDivN, gEqF, dCallV, spOf, atD, ordD, dSq, dZip, zipD_map, ivD, dRg1, dRg2, dLc, dYes, dLcGo, dGen, dGenGo, wipeD, boolsOf, intsOf, maxL, minL, noL, noLs, Option.map_some, Option.bind_some, List.all_cons, List.all_nil, List.any_cons, List.any_nil, id_eq, List.set_cons_zero, List.set_cons_succ, List.getElem?_cons_zero, List.getElem?_cons_succ, List.getElem?_nil, List.getD_cons_zero, List.getD_cons_succ, decide_eq_true_eq, decide_eq_false_iff_not, Bool.not_eq_true', Bool.not_true, Bool.not_false, Bool.and_true, Bool.true_and, Bool.and_false, Bool.false_and, Bool.false_eq_true, if_true, if_false, reduceIte, ite_true, ite_false, true_and, and_true, reduceCtorEq, Int.toNat_zero, Int.toNat_one, Int.cast_ofNat_Int, Int.reduceLT, Int.reduceLE, Int.reduceNeg, Int.reduceToNat, Int.reducePow, Int.reduceMul, Int.reduceAdd, Int.reduceSub, decide_true, decide_false]
  exact ifN (by omega) (ifN (by omega) h)
def sp_grain_around : SpD :=
  fun ds R => match ds with
  | [.tup [.int n, .int d]] => (0 < d ∧ d < 1606938044258990275541962092341162602522202993782792835301376 ∧ -1180591620717411303424 ≤ n * 1099511627776 / d ∧ -(-n * 1099511627776 / d) ≤ 1180591620717411303424) ∧ R (.tup [.int (n * 1099511627776 / d), .int (-(-n * 1099511627776 / d))])
  | _ => False
set_option maxHeartbeats 0 in
theorem ok_grain_around (T : Txt K mg) (D0 : Dfn K mg "grain_around" "grain_around" s_grain_around ["ratio"] []) (C_in_bounds : Cal P w K mg base tabs "in_bounds" 1 2 ["low", "high"] [] sp_in_bounds) (C_ceiling_of : Cal P w K mg base tabs "ceiling_of" 1 2 ["ratio", "times"] [] sp_ceiling_of) (C_floor_of : Cal P w K mg base tabs "floor_of" 1 2 ["ratio", "times"] [] sp_floor_of) : Cal P w K mg base tabs "grain_around" 2 1 ["ratio"] [] sp_grain_around := by
  refine cal_of D0 sc_grain_around fun f cdv A outer s H E p ht hg hk hr => ⟨_, (pdss_one (pds_ret (pdcC (C_in_bounds.cal ht) hg hr (pda_cons (pdcC (C_floor_of.cal ht) hg hr (pda_cons (pd_var 0) (pda_cons (pd_gint rfl T.m_ONE) pda_nil))) (pda_cons (pdcC (C_ceiling_of.cal ht) hg hr (pda_cons (pd_var 0) (pda_cons (pd_gint rfl T.m_ONE) pda_nil))) pda_nil))))), ?_⟩
  intro ds R hl h; unfold sp_grain_around at h; split at h
  all_goals (try exact False.elim h)
  all_goals clear hl hg hr hk ht
  rename_i n d
  obtain ⟨⟨h1, h2, h3, h4⟩, h⟩ := h
  simp (implicitDefEqProofs := false) (maxSteps := 3000000) only [startD, List.map_cons, List.map_nil, List.length_cons, List.length_nil, List.replicate, List.cons_append, List.nil_append, Nat.reduceAdd, Nat.reduceSub, Nat.zero_add, dSeq, dIfS, dOr, dAnd, dNot, dTst, dOp, dUn, dVar, dC, dB, dBK, dCons, dNil, dTup, dLst, dRet, dRetN, dNext, dNever, dAsg, dPar, dPar3, dIf, dAndV, dOrV, dNotV, dCh, dCt, cLast, cLink, tLast, tLink, dDrop, dFor, dBrk, dCnt, dOwn, dApp, dExt, dFree, gPutO, dIxO, dLend, dLendT, dLcF, gN, gTu, gCn, gNl, gP0, gP1, gII, gIIc, gAdd, gNeg, gIx, gEq, gNe, gIs, gIsNot, gIn, gNotIn, gSl, oNone, oSome, gMt, gIndex, cTuple, cList, cI1, cI2, cInt, cLen, cMax, cMin, cMaxT, cMinT, dAug, cAll, cAny, cRepr, cSqrt, cIsi, tyN, isNon, kb_tt, kb_ii, kb_ib, kb_bi, kb_bb, kb_it, kb_bt, kb_nt, kb_ni, kb_lt, kb_li, kb_ti, kb_si, kb_st, kb_ss, rd, dTru, dRgN, dEnum, gMulT, gDivN, gEqF, dCallV, spOf, atD, ordD, dSq, dZip, zipD_map, ivD, dRg1, dRg2, dLc, dYes, dLcGo, dGen, dGenGo, wipeD, boolsOf, intsOf, maxL, minL, noL, noLs, Option.map_some, Option.bind_some, List.all_cons, List.all_nil, List.any_cons, List.any_nil, id_eq, List.set_cons_zero, List.set_cons_succ, List.getElem?_cons_zero, List.getElem?_cons_succ, List.getElem?_nil, List.getD_cons_zero, List.getD_cons_succ, decide_eq_true_eq, decide_eq_false_iff_not, Bool.not_eq_true', Bool.not_true, Bool.not_false, Bool.and_true, Bool.true_and, Bool.and_false, Bool.false_and, Bool.false_eq_true, if_true, if_false, reduceIte, ite_true, ite_false, true_and, and_true, reduceCtorEq, Int.toNat_zero, Int.toNat_one, Int.cast_ofNat_Int, Int.reduceLT, Int.reduceLE, Int.reduceNeg, Int.reduceToNat, Int.reducePow, Int.reduceMul, Int.reduceAdd, Int.reduceSub, decide_true, decide_false, sp_in_bounds, sp_ceiling_of, sp_floor_of]
  exact ⟨⟨.right (by omega) (by omega), .of h1 h2⟩, ⟨.right (by omega) (by omega), .of h1 h2⟩, ⟨h3, h4⟩, h⟩
def sp_grain_hull : SpD :=
  fun ds R => match ds with
  | [.tup [.int a, .int b], .tup [.int c, .int d]] => R (.tup [.int (min a c), .int (max b d)])
  | _ => False
set_option maxHeartbeats 0 in
theorem ok_grain_hull (T : Txt K mg) (D0 : Dfn K mg "grain_hull" "grain_hull" s_grain_hull ["one", "other"] [])  : Cal P w K mg base tabs "grain_hull" 1 2 ["one", "other"] [] sp_grain_hull := by
  refine cal_of D0 sc_grain_hull fun f cdv A outer s H E p ht hg hk hr => ⟨_, (pdss_one (pds_ret (pd_tup (pda_cons (pd_callB (cd_minT rfl hr.u65) rfl T.b_min PyProof.Rows.boot_min (pda_cons (pd_ix (pd_var 0) pd_int) (pda_cons (pd_ix (pd_var 1) pd_int) pda_nil))) (pda_cons (pd_callB (cd_maxT rfl hr.u65) rfl T.b_max PyProof.Rows.boot_max (pda_cons (pd_ix (pd_var 0) pd_int) (pda_cons (pd_ix (pd_var 1) pd_int) pda_nil))) pda_nil))))), ?_⟩
  intro ds R hl h; unfold sp_grain_hull at h; split at h
  all_goals (try exact False.elim h)
  all_goals clear hl hg hr hk ht
  simp (implicitDefEqProofs := false) (maxSteps := 3000000) only [startD, List.map_cons, List.map_nil, List.length_cons, List.length_nil, List.replicate, List.cons_append, List.nil_append, Nat.reduceAdd, Nat.reduceSub, Nat.zero_add, dSeq, dIfS, dOr, dAnd, dNot, dTst, dOp, dUn, dVar, dC, dB, dBK, dCons, dNil, dTup, dLst, dRet, dRetN, dNext, dNever, dAsg, dPar, dPar3, dIf, dAndV, dOrV, dNotV, dCh, dCt, cLast, cLink, tLast, tLink, dDrop, dFor, dBrk, dCnt, dOwn, dApp, dExt, dFree, gPutO, dIxO, dLend, dLendT, dLcF, gN, gTu, gCn, gNl, gP0, gP1, gII, gIIc, gAdd, gNeg, gIx, gEq, gNe, gIs, gIsNot, gIn, gNotIn, gSl, oNone, oSome, gMt, gIndex, cTuple, cList, cI1, cI2, cInt, cLen, cMax, cMin, cMaxT, cMinT, dAug, cAll, cAny, cRepr, cSqrt, cIsi, tyN, isNon, kb_tt, kb_ii, kb_ib, kb_bi, kb_bb, kb_it, kb_bt, kb_nt, kb_ni, kb_lt, kb_li, kb_ti, kb_si, kb_st, kb_ss, rd, dTru, dRgN, dEnum, gMulT, gDivN, gEqF, dCallV, spOf, atD, ordD, dSq, dZip, zipD_map, ivD, dRg1, dRg2, dLc, dYes, dLcGo, dGen, dGenGo, wipeD, boolsOf, intsOf, maxL, minL, noL, noLs, Option.map_some, Option.bind_some, List.all_cons, List.all_nil, List.any_cons, List.any_nil, id_eq, List.set_cons_zero, List.set_cons_succ, List.getElem?_cons_zero, List.getElem?_cons_succ, List.getElem?_nil, List.getD_cons_zero, List.getD_cons_succ, decide_eq_true_eq, decide_eq_false_iff_not, Bool.not_eq_true', Bool.not_true, Bool.not_false, Bool.and_true, Bool.true_and, Bool.and_false, Bool.false_and, Bool.false_eq_true, if_true, if_false, reduceIte, ite_true, ite_false, true_and, and_true, reduceCtorEq, Int.toNat_zero, Int.toNat_one, Int.cast_ofNat_Int, Int.reduceLT, Int.reduceLE, Int.reduceNeg, Int.reduceToNat, Int.reducePow, Int.reduceMul, Int.reduceAdd, Int.reduceSub, decide_true, decide_false]
  exact h
def sp_grain_meet : SpD :=
  fun ds R => match ds with
  | [.tup [.int a, .int b], .tup [.int c, .int d]] => R (if max a c ≤ min b d then .tup [.int (max a c), .int (min b d)] else .non)
  | _ => False
set_option maxHeartbeats 0 in
theorem ok_grain_meet (T : Txt K mg) (D0 : Dfn K mg "grain_meet" "grain_meet" s_grain_meet ["one", "other"] [])  : Cal P w K mg base tabs "grain_meet" 1 2 ["one", "other"] [] sp_grain_meet := by
  refine cal_of D0 sc_grain_meet fun f cdv A outer s H E p ht hg hk hr => ⟨_, (pdss_cons (pds_set (i := 2) sc_grain_meet.nd rfl (Or.inl rfl) (pd_callB (cd_maxT rfl hr.u65) rfl T.b_max PyProof.Rows.boot_max (pda_cons (pd_ix (pd_var 0) pd_int) (pda_cons (pd_ix (pd_var 1) pd_int) pda_nil))))
      (pdss_cons (pds_set (i := 3) sc_grain_meet.nd rfl (Or.inl rfl) (pd_callB (cd_minT rfl hr.u65) rfl T.b_min PyProof.Rows.boot_min (pda_cons (pd_ix (pd_var 0) pd_int) (pda_cons (pd_ix (pd_var 1) pd_int) pda_nil))))
      (pdss_cons (pds_if (pdt_cmp opd_gt (pd_var 2) (pd_var 3)) (pdss_one (pds_ret pd_non)) pdss_nil)
      (pdss_one (pds_ret (pd_tup (pda_cons (pd_var 2) (pda_cons (pd_var 3) pda_nil)))))))), ?_⟩
  intro ds R hl h; unfold sp_grain_meet at h; split at h
  all_goals (try exact False.elim h)
  all_goals clear hl hg hr hk ht
  rename_i a b c d
  simp (implicitDefEqProofs := false) (maxSteps := 3000000) only [startD, List.map_cons, List.map_nil, List.length_cons, List.length_nil, List.replicate, List.cons_append, List.nil_append, Nat.reduceAdd, Nat.reduceSub, Nat.zero_add, dSeq, dIfS, dOr, dAnd, dNot, dTst, dOp, dUn, dVar, dC, dB, dBK, dCons, dNil, dTup, dLst, dRet, dRetN, dNext, dNever, dAsg, dPar, dPar3, dIf, dAndV, dOrV, dNotV, dCh, dCt, cLast, cLink, tLast, tLink, dDrop, dFor, dBrk, dCnt, dOwn, dApp, dExt, dFree, gPutO, dIxO, dLend, dLendT, dLcF, gN, gTu, gCn, gNl, gP0, gP1, gII, gIIc, gAdd, gNeg, gIx, gEq, gNe, gIs, gIsNot, gIn, gNotIn, gSl, oNone, oSome, gMt, gIndex, cTuple, cList, cI1, cI2, cInt, cLen, cMax, cMin, cMaxT, cMinT, dAug, cAll, cAny, cRepr, cSqrt, cIsi, tyN, isNon, kb_tt, kb_ii, kb_ib, kb_bi, kb_bb, kb_it, kb_bt, kb_nt, kb_ni, kb_lt, kb_li, kb_ti, kb_si, kb_st, kb_ss, rd, dTru, dRgN, dEnum, gMulT, gDivN, gEqF, dCallV, spOf, atD, ordD, dSq, dZip, zipD_map, ivD, dRg1, dRg2, dLc, dYes, dLcGo, dGen, dGenGo, wipeD, boolsOf, intsOf, maxL, minL, noL, noLs, Option.map_some, Option.bind_some, List.all_cons, List.all_nil, List.any_cons, List.any_nil, id_eq, List.set_cons_zero, List.set_cons_succ, List.getElem?_cons_zero, List.getElem?_cons_succ, List.getElem?_nil, List.getD_cons_zero, List.getD_cons_succ, decide_eq_true_eq, decide_eq_false_iff_not, Bool.not_eq_true', Bool.not_true, Bool.not_false, Bool.and_true, Bool.true_and, Bool.and_false, Bool.false_and, Bool.false_eq_true, if_true, if_false, reduceIte, ite_true, ite_false, true_and, and_true, reduceCtorEq, Int.toNat_zero, Int.toNat_one, Int.cast_ofNat_Int, Int.reduceLT, Int.reduceLE, Int.reduceNeg, Int.reduceToNat, Int.reducePow, Int.reduceMul, Int.reduceAdd, Int.reduceSub, decide_true, decide_false]
  by_cases e : max a c ≤ min b d
  · rw [if_pos e] at h
    rw [if_neg (by omega)]
    exact h
  · rw [if_neg e] at h
    rw [if_pos (by omega)]
    exact h
def sp_lies_within : SpD :=
  fun ds R => match ds with
  | [.tup [.int a, .int b], .tup [.int c, .int d]] => R (.bl (decide (c ≤ a) && decide (b ≤ d)))
  | _ => False
set_option maxHeartbeats 0 in
theorem ok_lies_within (T : Txt K mg) (D0 : Dfn K mg "lies_within" "lies_within" s_lies_within ["one", "other"] [])  : Cal P w K mg base tabs "lies_within" 1 2 ["one", "other"] [] sp_lies_within := by
  refine cal_of D0 sc_lies_within fun f cdv A outer s H E p ht hg hk hr => ⟨_, (pdss_one (pds_ret (pd_and (pd_cmp opd_le (pd_ix (pd_var 1) pd_int) (pd_ix (pd_var 0) pd_int)) (pd_one (pd_cmp opd_le (pd_ix (pd_var 0) pd_int) (pd_ix (pd_var 1) pd_int)))))), ?_⟩
  intro ds R hl h; unfold sp_lies_within at h; split at h
  all_goals (try exact False.elim h)
  all_goals clear hl hg hr hk ht
  rename_i a b c d
  simp (implicitDefEqProofs := false) (maxSteps := 3000000) only [startD, List.map_cons, List.map_nil, List.length_cons, List.length_nil, List.replicate, List.cons_append, List.nil_append, Nat.reduceAdd, Nat.reduceSub, Nat.zero_add, dSeq, dIfS, dOr, dAnd, dNot, dTst, dOp, dUn, dVar, dC, dB, dBK, dCons, dNil, dTup, dLst, dRet, dRetN, dNext, dNever, dAsg, dPar, dPar3, dIf, dAndV, dOrV, dNotV, dCh, dCt, cLast, cLink, tLast, tLink, dDrop, dFor, dBrk, dCnt, dOwn, dApp, dExt, dFree, gPutO, dIxO, dLend, dLendT, dLcF, gN, gTu, gCn, gNl, gP0, gP1, gII, gIIc, gAdd, gNeg, gIx, gEq, gNe, gIs, gIsNot, gIn, gNotIn, gSl, oNone, oSome, gMt, gIndex, cTuple, cList, cI1, cI2, cInt, cLen, cMax, cMin, cMaxT, cMinT, dAug, cAll, cAny, cRepr, cSqrt, cIsi, tyN, isNon, kb_tt, kb_ii, kb_ib, kb_bi, kb_bb, kb_it, kb_bt, kb_nt, kb_ni, kb_lt, kb_li, kb_ti, kb_si, kb_st, kb_ss, rd, dTru, dRgN, dEnum, gMulT, gDivN, gEqF, dCallV, spOf, atD, ordD, dSq, dZip, zipD_map, ivD, dRg1, dRg2, dLc, dYes, dLcGo, dGen, dGenGo, wipeD, boolsOf, intsOf, maxL, minL, noL, noLs, Option.map_some, Option.bind_some, List.all_cons, List.all_nil, List.any_cons, List.any_nil, id_eq, List.set_cons_zero, List.set_cons_succ, List.getElem?_cons_zero, List.getElem?_cons_succ, List.getElem?_nil, List.getD_cons_zero, List.getD_cons_succ, decide_eq_true_eq, decide_eq_false_iff_not, Bool.not_eq_true', Bool.not_true, Bool.not_false, Bool.and_true, Bool.true_and, Bool.and_false, Bool.false_and, Bool.false_eq_true, if_true, if_false, reduceIte, ite_true, ite_false, true_and, and_true, reduceCtorEq, Int.toNat_zero, Int.toNat_one, Int.cast_ofNat_Int, Int.reduceLT, Int.reduceLE, Int.reduceNeg, Int.reduceToNat, Int.reducePow, Int.reduceMul, Int.reduceAdd, Int.reduceSub, decide_true, decide_false]
  by_cases e : c ≤ a
  · rw [if_pos e]
    rw [decide_eq_true e, Bool.true_and] at h
    exact h
  · rw [if_neg e]
    rw [decide_eq_false e, Bool.false_and] at h
    exact h
def sp_middle_of : SpD :=
  fun ds R => match ds with
  | [.tup [.int a, .int b]] => R (.int ((a + b) / 2))
  | _ => False
set_option maxHeartbeats 0 in
theorem ok_middle_of (T : Txt K mg) (D0 : Dfn K mg "middle_of" "middle_of" s_middle_of ["interval"] [])  : Cal P w K mg base tabs "middle_of" 1 1 ["interval"] [] sp_middle_of := by
  refine cal_of D0 sc_middle_of fun f cdv A outer s H E p ht hg hk hr => ⟨_, (pdss_one (pds_ret (pd_bin opd_div (pd_bin opd_add (pd_ix (pd_var 0) pd_int) (pd_ix (pd_var 0) pd_int)) pd_int))), ?_⟩
  intro ds R hl h; unfold sp_middle_of at h; split at h
  all_goals (try exact False.elim h)
  all_goals clear hl hg hr hk ht
  simp (implicitDefEqProofs := false) (maxSteps := 3000000) only [startD, List.map_cons, List.map_nil, List.length_cons, List.length_nil, List.replicate, List.cons_append, List.nil_append, Nat.reduceAdd, Nat.reduceSub, Nat.zero_add, dSeq, dIfS, dOr, dAnd, dNot, dTst, dOp, dUn, dVar, dC, dB, dBK, dCons, dNil, dTup, dLst, dRet, dRetN, dNext, dNever, dAsg, dPar, dPar3, dIf, dAndV, dOrV, dNotV, dCh, dCt, cLast, cLink, tLast, tLink, dDrop, dFor, dBrk, dCnt, dOwn, dApp, dExt, dFree, gPutO, dIxO, dLend, dLendT, dLcF, gN, gTu, gCn, gNl, gP0, gP1, gII, gIIc, gAdd, gNeg, gIx, gEq, gNe, gIs, gIsNot, gIn, gNotIn, gSl, oNone, oSome, gMt, gIndex, cTuple, cList, cI1, cI2, cInt, cLen, cMax, cMin, cMaxT, cMinT, dAug, cAll, cAny, cRepr, cSqrt, cIsi, tyN, isNon, kb_tt, kb_ii, kb_ib, kb_bi, kb_bb, kb_it, kb_bt, kb_nt, kb_ni, kb_lt, kb_li, kb_ti, kb_si, kb_st, kb_ss, rd, dTru, dRgN, dEnum, gMulT, gDivN, gEqF, dCallV, spOf, atD, ordD, dSq, dZip, zipD_map, ivD, dRg1, dRg2, dLc, dYes, dLcGo, dGen, dGenGo, wipeD, boolsOf, intsOf, maxL, minL, noL, noLs, Option.map_some, Option.bind_some, List.all_cons, List.all_nil, List.any_cons, List.any_nil, id_eq, List.set_cons_zero, List.set_cons_succ, List.getElem?_cons_zero, List.getElem?_cons_succ, List.getElem?_nil, List.getD_cons_zero, List.getD_cons_succ, decide_eq_true_eq, decide_eq_false_iff_not, Bool.not_eq_true', Bool.not_true, Bool.not_false, Bool.and_true, Bool.true_and, Bool.and_false, Bool.false_and, Bool.false_eq_true, if_true, if_false, reduceIte, ite_true, ite_false, true_and, and_true, reduceCtorEq, Int.toNat_zero, Int.toNat_one, Int.cast_ofNat_Int, Int.reduceLT, Int.reduceLE, Int.reduceNeg, Int.reduceToNat, Int.reducePow, Int.reduceMul, Int.reduceAdd, Int.reduceSub, decide_true, decide_false]
  exact ⟨.of (by omega) (by omega), h⟩
def sp_has_ratio : SpD :=
  fun ds R => match ds with
  | [.tup [.int a, .int b], .tup [.int n, .int d]] => (MulC a d ∧ MulC b d) ∧ R (.bl (decide (a * d ≤ n * 1099511627776) && decide (n * 1099511627776 ≤ b * d)))
  | _ => False
set_option maxHeartbeats 0 in
theorem ok_has_ratio (T : Txt K mg) (D0 : Dfn K mg "has_ratio" "has_ratio" s_has_ratio ["interval", "ratio"] [])  : Cal P w K mg base tabs "has_ratio" 1 2 ["interval", "ratio"] [] sp_has_ratio := by
  refine cal_of D0 sc_has_ratio fun f cdv A outer s H E p ht hg hk hr => ⟨_, (pdss_cons (pds_set (i := 2) sc_has_ratio.nd rfl (Or.inl rfl) (pd_bin opd_mul (pd_ix (pd_var 1) pd_int) (pd_gint rfl T.m_ONE)))
      (pdss_one (pds_ret (pd_chainN (pd_bin opd_mul (pd_ix (pd_var 0) pd_int) (pd_ix (pd_var 1) pd_int)) (pch_cons opd_le (pd_var 2) (pch_last opd_le (pd_bin opd_mul (pd_ix (pd_var 0) pd_int) (pd_ix (pd_var 1) pd_int)))))))), ?_⟩
  intro ds R hl h; unfold sp_has_ratio at h; split at h
  all_goals (try exact False.elim h)
  all_goals clear hl hg hr hk ht
  rename_i a b n d
  obtain ⟨⟨h1, h2⟩, h⟩ := h
  simp (implicitDefEqProofs := false) (maxSteps := 3000000) only [startD, List.map_cons, List.map_nil, List.length_cons, List.length_nil, List.replicate, List.cons_append, List.nil_append, Nat.reduceAdd, Nat.reduceSub, Nat.zero_add, dSeq, dIfS, dOr, dAnd, dNot, dTst, dOp, dUn, dVar, dC, dB, dBK, dCons, dNil, dTup, dLst, dRet, dRetN, dNext, dNever, dAsg, dPar, dPar3, dIf, dAndV, dOrV, dNotV, dCh, dCt, cLast, cLink, tLast, tLink, dDrop, dFor, dBrk, dCnt, dOwn, dApp, dExt, dFree, gPutO, dIxO, dLend, dLendT, dLcF, gN, gTu, gCn, gNl, gP0, gP1, gII, gIIc, gAdd, gNeg, gIx, gEq, gNe, gIs, gIsNot, gIn, gNotIn, gSl, oNone, oSome, gMt, gIndex, cTuple, cList, cI1, cI2, cInt, cLen, cMax, cMin, cMaxT, cMinT, dAug, cAll, cAny, cRepr, cSqrt, cIsi, tyN, isNon, kb_tt, kb_ii, kb_ib, kb_bi, kb_bb, kb_it, kb_bt, kb_nt, kb_ni, kb_lt, kb_li, kb_ti, kb_si, kb_st, kb_ss, rd, dTru, dRgN, dEnum, gMulT, gDivN, gEqF, dCallV, spOf, atD, ordD, dSq, dZip, zipD_map, ivD, dRg1, dRg2, dLc, dYes, dLcGo, dGen, dGenGo, wipeD, boolsOf, intsOf, maxL, minL, noL, noLs, Option.map_some, Option.bind_some, List.all_cons, List.all_nil, List.any_cons, List.any_nil, id_eq, List.set_cons_zero, List.set_cons_succ, List.getElem?_cons_zero, List.getElem?_cons_succ, List.getElem?_nil, List.getD_cons_zero, List.getD_cons_succ, decide_eq_true_eq, decide_eq_false_iff_not, Bool.not_eq_true', Bool.not_true, Bool.not_false, Bool.and_true, Bool.true_and, Bool.and_false, Bool.false_and, Bool.false_eq_true, if_true, if_false, reduceIte, ite_true, ite_false, true_and, and_true, reduceCtorEq, Int.toNat_zero, Int.toNat_one, Int.cast_ofNat_Int, Int.reduceLT, Int.reduceLE, Int.reduceNeg, Int.reduceToNat, Int.reducePow, Int.reduceMul, Int.reduceAdd, Int.reduceSub, decide_true, decide_false]
  refine ⟨.right (by omega) (by omega), h1, ?_⟩
  by_cases e : a * d ≤ n * 1099511627776
  · rw [if_pos e]
    rw [decide_eq_true e, Bool.true_and] at h
    exact ⟨h2, h⟩
  · rw [if_neg e]
    rw [decide_eq_false e, Bool.false_and] at h
    exact h
def sp_is_integer : SpD :=
  fun ds R => match ds with
  | [.int _] => R (.bl true)
  | _ => False
set_option maxHeartbeats 0 in
theorem ok_is_integer (T : Txt K mg) (D0 : Dfn K mg "is_integer" "is_integer" s_is_integer ["value"] [])  : Cal P w K mg base tabs "is_integer" 1 1 ["value"] [] sp_is_integer := by
  refine cal_of D0 sc_is_integer fun f cdv A outer s H E p ht hg hk hr => ⟨_, (pdss_one (pds_ret (pd_and (pd_callB cd_isi rfl T.b_isinstance PyProof.Rows.boot_isinstance (pda_cons (pd_var 0) (pda_cons (pd_ty rfl T.b_int PyProof.Rows.boot_int) pda_nil))) (pd_one (pd_not (pd_callB cd_isi rfl T.b_isinstance PyProof.Rows.boot_isinstance (pda_cons (pd_var 0) (pda_cons (pd_ty rfl T.b_bool PyProof.Rows.boot_bool) pda_nil)))))))), ?_⟩
  intro ds R hl h; unfold sp_is_integer at h; split at h
  all_goals (try exact False.elim h)
  all_goals clear hl hg hr hk ht
  simp (implicitDefEqProofs := false) (maxSteps := 3000000) only [startD, List.map_cons, List.map_nil, List.length_cons, List.length_nil, List.replicate, List.cons_append, List.nil_append, Nat.reduceAdd, Nat.reduceSub, Nat.zero_add, dSeq, dIfS, dOr, dAnd, dNot, dTst, dOp, dUn, dVar, dC, dB, dBK, dCons, dNil, dTup, dLst, dRet, dRetN, dNext, dNever, dAsg, dPar, dPar3, dIf, dAndV, dOrV, dNotV, dCh, dCt, cLast, cLink, tLast, tLink, dDrop, dFor, dBrk, dCnt, dOwn, dApp, dExt, dFree, gPutO, dIxO, dLend, dLendT, dLcF, gN, gTu, gCn, gNl, gP0, gP1, gII, gIIc, gAdd, gNeg, gIx, gEq, gNe, gIs, gIsNot, gIn, gNotIn, gSl, oNone, oSome, gMt, gIndex, cTuple, cList, cI1, cI2, cInt, cLen, cMax, cMin, cMaxT, cMinT, dAug, cAll, cAny, cRepr, cSqrt, cIsi, tyN, isNon, kb_tt, kb_ii, kb_ib, kb_bi, kb_bb, kb_it, kb_bt, kb_nt, kb_ni, kb_lt, kb_li, kb_ti, kb_si, kb_st, kb_ss, rd, dTru, dRgN, dEnum, gMulT, gDivN, gEqF, dCallV, spOf, atD, ordD, dSq, dZip, zipD_map, ivD, dRg1, dRg2, dLc, dYes, dLcGo, dGen, dGenGo, wipeD, boolsOf, intsOf, maxL, minL, noL, noLs, Option.map_some, Option.bind_some, List.all_cons, List.all_nil, List.any_cons, List.any_nil, id_eq, List.set_cons_zero, List.set_cons_succ, List.getElem?_cons_zero, List.getElem?_cons_succ, List.getElem?_nil, List.getD_cons_zero, List.getD_cons_succ, decide_eq_true_eq, decide_eq_false_iff_not, Bool.not_eq_true', Bool.not_true, Bool.not_false, Bool.and_true, Bool.true_and, Bool.and_false, Bool.false_and, Bool.false_eq_true, if_true, if_false, reduceIte, ite_true, ite_false, true_and, and_true, reduceCtorEq, Int.toNat_zero, Int.toNat_one, Int.cast_ofNat_Int, Int.reduceLT, Int.reduceLE, Int.reduceNeg, Int.reduceToNat, Int.reducePow, Int.reduceMul, Int.reduceAdd, Int.reduceSub, decide_true, decide_false]
  exact h
def sp_is_from_to : SpD :=
  fun ds R => match ds with
  | [.int a, .int lo, .int hi] => R (.bl (decide (lo ≤ a) && decide (a ≤ hi)))
  | _ => False
set_option maxHeartbeats 0 in
theorem ok_is_from_to (T : Txt K mg) (D0 : Dfn K mg "is_from_to" "is_from_to" s_is_from_to ["value", "least", "most"] []) (C_is_integer : Cal P w K mg base tabs "is_integer" 1 1 ["value"] [] sp_is_integer) : Cal P w K mg base tabs "is_from_to" 2 3 ["value", "least", "most"] [] sp_is_from_to := by
  refine cal_of D0 sc_is_from_to fun f cdv A outer s H E p ht hg hk hr => ⟨_, (pdss_one (pds_ret (pd_and (pdcC (C_is_integer.cal ht) hg hr (pda_cons (pd_var 0) pda_nil)) (pd_one (pd_chainN (pd_var 1) (pch_cons opd_le (pd_var 0) (pch_last opd_le (pd_var 2)))))))), ?_⟩
  intro ds R hl h; unfold sp_is_from_to at h; split at h
  all_goals (try exact False.elim h)
  all_goals clear hl hg hr hk ht
  rename_i a lo hi
  simp (implicitDefEqProofs := false) (maxSteps := 3000000) only [startD, List.map_cons, List.map_nil, List.length_cons, List.length_nil, List.replicate, List.cons_append, List.nil_append, Nat.reduceAdd, Nat.reduceSub, Nat.zero_add, dSeq, dIfS, dOr, dAnd, dNot, dTst, dOp, dUn, dVar, dC, dB, dBK, dCons, dNil, dTup, dLst, dRet, dRetN, dNext, dNever, dAsg, dPar, dPar3, dIf, dAndV, dOrV, dNotV, dCh, dCt, cLast, cLink, tLast, tLink, dDrop, dFor, dBrk, dCnt, dOwn, dApp, dExt, dFree, gPutO, dIxO, dLend, dLendT, dLcF, gN, gTu, gCn, gNl, gP0, gP1, gII, gIIc, gAdd, gNeg, gIx, gEq, gNe, gIs, gIsNot, gIn, gNotIn, gSl, oNone, oSome, gMt, gIndex, cTuple, cList, cI1, cI2, cInt, cLen, cMax, cMin, cMaxT, cMinT, dAug, cAll, cAny, cRepr, cSqrt, cIsi, tyN, isNon, kb_tt, kb_ii, kb_ib, kb_bi, kb_bb, kb_it, kb_bt, kb_nt, kb_ni, kb_lt, kb_li, kb_ti, kb_si, kb_st, kb_ss, rd, dTru, dRgN, dEnum, gMulT, gDivN, gEqF, dCallV, spOf, atD, ordD, dSq, dZip, zipD_map, ivD, dRg1, dRg2, dLc, dYes, dLcGo, dGen, dGenGo, wipeD, boolsOf, intsOf, maxL, minL, noL, noLs, Option.map_some, Option.bind_some, List.all_cons, List.all_nil, List.any_cons, List.any_nil, id_eq, List.set_cons_zero, List.set_cons_succ, List.getElem?_cons_zero, List.getElem?_cons_succ, List.getElem?_nil, List.getD_cons_zero, List.getD_cons_succ, decide_eq_true_eq, decide_eq_false_iff_not, Bool.not_eq_true', Bool.not_true, Bool.not_false, Bool.and_true, Bool.true_and, Bool.and_false, Bool.false_and, Bool.false_eq_true, if_true, if_false, reduceIte, ite_true, ite_false, true_and, and_true, reduceCtorEq, Int.toNat_zero, Int.toNat_one, Int.cast_ofNat_Int, Int.reduceLT, Int.reduceLE, Int.reduceNeg, Int.reduceToNat, Int.reducePow, Int.reduceMul, Int.reduceAdd, Int.reduceSub, decide_true, decide_false, sp_is_integer]
  by_cases e : lo ≤ a
  · rw [if_pos e]
    rw [decide_eq_true e, Bool.true_and] at h
    exact h
  · rw [if_neg e]
    rw [decide_eq_false e, Bool.false_and] at h
    exact h
def sp_is_some_tuple : SpD :=
  fun ds R => match ds with
  | [.tup l] => (1 ≤ l.length ∧ l.length ≤ 8) ∧ R (.bl true)
  | _ => False
set_option maxHeartbeats 0 in
theorem ok_is_some_tuple (T : Txt K mg) (D0 : Dfn K mg "is_some_tuple" "is_some_tuple" s_is_some_tuple ["value"] [])  : Cal P w K mg base tabs "is_some_tuple" 1 1 ["value"] [] sp_is_some_tuple := by
  refine cal_of D0 sc_is_some_tuple fun f cdv A outer s H E p ht hg hk hr => ⟨_, (pdss_one (pds_ret (pd_and (pd_callB cd_isi rfl T.b_isinstance PyProof.Rows.boot_isinstance (pda_cons (pd_var 0) (pda_cons (pd_ty rfl T.b_tuple PyProof.Rows.boot_tuple) pda_nil))) (pd_one (pd_chainN pd_int (pch_cons opd_le (pd_callB cd_len rfl T.b_len PySem.boot_len (pda_cons (pd_var 0) pda_nil)) (pch_last opd_le (pd_gint rfl T.m_MOST_LETTERS)))))))), ?_⟩
  intro ds R hl h; unfold sp_is_some_tuple at h; split at h
  all_goals (try exact False.elim h)
  all_goals clear hl hg hr hk ht
  rename_i l
  obtain ⟨⟨h1, h2⟩, h⟩ := h
  simp (implicitDefEqProofs := false) (maxSteps := 3000000) only [startD, List.map_cons, List.map_nil, List.length_cons, List.length_nil, List.replicate, List.cons_append, List.nil_append, Nat.reduceAdd, Nat.reduceSub, Nat.zero_add, dSeq, dIfS, dOr, dAnd, dNot, dTst, dOp, dUn, dVar, dC, dB, dBK, dCons, dNil, dTup, dLst, dRet, dRetN, dNext, dNever, dAsg, dPar, dPar3, dIf, dAndV, dOrV, dNotV, dCh, dCt, cLast, cLink, tLast, tLink, dDrop, dFor, dBrk, dCnt, dOwn, dApp, dExt, dFree, gPutO, dIxO, dLend, dLendT, dLcF, gN, gTu, gCn, gNl, gP0, gP1, gII, gIIc, gAdd, gNeg, gIx, gEq, gNe, gIs, gIsNot, gIn, gNotIn, gSl, oNone, oSome, gMt, gIndex, cTuple, cList, cI1, cI2, cInt, cLen, cMax, cMin, cMaxT, cMinT, dAug, cAll, cAny, cRepr, cSqrt, cIsi, tyN, isNon, kb_tt, kb_ii, kb_ib, kb_bi, kb_bb, kb_it, kb_bt, kb_nt, kb_ni, kb_lt, kb_li, kb_ti, kb_si, kb_st, kb_ss, rd, dTru, dRgN, dEnum, gMulT, gDivN, gEqF, dCallV, spOf, atD, ordD, dSq, dZip, zipD_map, ivD, dRg1, dRg2, dLc, dYes, dLcGo, dGen, dGenGo, wipeD, boolsOf, intsOf, maxL, minL, noL, noLs, Option.map_some, Option.bind_some, List.all_cons, List.all_nil, List.any_cons, List.any_nil, id_eq, List.set_cons_zero, List.set_cons_succ, List.getElem?_cons_zero, List.getElem?_cons_succ, List.getElem?_nil, List.getD_cons_zero, List.getD_cons_succ, decide_eq_true_eq, decide_eq_false_iff_not, Bool.not_eq_true', Bool.not_true, Bool.not_false, Bool.and_true, Bool.true_and, Bool.and_false, Bool.false_and, Bool.false_eq_true, if_true, if_false, reduceIte, ite_true, ite_false, true_and, and_true, reduceCtorEq, Int.toNat_zero, Int.toNat_one, Int.cast_ofNat_Int, Int.reduceLT, Int.reduceLE, Int.reduceNeg, Int.reduceToNat, Int.reducePow, Int.reduceMul, Int.reduceAdd, Int.reduceSub, decide_true, decide_false]
  rw [if_pos (by omega), decide_eq_true (by omega)]
  exact h
def sp_is_ratio : SpD :=
  fun ds R => match ds with
  | [.tup [.int a, .int b]] => (1 ≤ b ∧ Nat.gcd a.natAbs b.natAbs = 1) ∧ R (.bl true)
  | _ => False
set_option maxHeartbeats 0 in
theorem ok_is_ratio (T : Txt K mg) (D0 : Dfn K mg "is_ratio" "is_ratio" s_is_ratio ["value"] []) (C_is_integer : Cal P w K mg base tabs "is_integer" 1 1 ["value"] [] sp_is_integer) : Cal P w K mg base tabs "is_ratio" 2 1 ["value"] [] sp_is_ratio := by
  refine cal_of D0 sc_is_ratio fun f cdv A outer s H E p ht hg hk hr => ⟨_, (pdss_cons (pds_if (pdw_t (pdw_or (pdt_not (pdt_val (pd_callB cd_isi rfl T.b_isinstance PyProof.Rows.boot_isinstance (pda_cons (pd_var 0) (pda_cons (pd_ty rfl T.b_tuple PyProof.Rows.boot_tuple) pda_nil))))) (pdw_or1 (pdt_cmp (opd_ne hr.units) (pd_callB cd_len rfl T.b_len PySem.boot_len (pda_cons (pd_var 0) pda_nil)) pd_int)))) (pdss_one (pds_ret pd_bl)) pdss_nil)
      (pdss_cons (pds_asg (pd_var 0) (pdg_tup (n := 2) rfl (pdgs_cons (pdg_name (i := 1) sc_is_ratio.nd rfl (Or.inl rfl)) (pdgs_cons (pdg_name (i := 2) sc_is_ratio.nd rfl (Or.inl rfl)) pdgs_nil))))
      (pdss_cons (pds_if (pdw_t (pdw_or (pdt_not (pdt_val (pdcC (C_is_integer.cal ht) hg hr (pda_cons (pd_var 1) pda_nil)))) (pdw_or1 (pdt_not (pdt_val (pdcC (C_is_integer.cal ht) hg hr (pda_cons (pd_var 2) pda_nil))))))) (pdss_one (pds_ret pd_bl)) pdss_nil)
      (pdss_one (pds_ret (pd_and (pd_cmp opd_ge (pd_var 2) pd_int) (pd_one (pd_cmp (opd_eq hr.units) (pd_callFun cd_gcd rfl T.m_gcd (pda_cons (pd_var 1) (pda_cons (pd_var 2) pda_nil))) pd_int)))))))), ?_⟩
  intro ds R hl h; unfold sp_is_ratio at h; split at h
  all_goals (try exact False.elim h)
  all_goals clear hl hg hr hk ht
  rename_i a b
  obtain ⟨⟨h1, h2⟩, h⟩ := h
  simp (implicitDefEqProofs := false) (maxSteps := 3000000) only [startD, List.map_cons, List.map_nil, List.length_cons, List.length_nil, List.replicate, List.cons_append, List.nil_append, Nat.reduceAdd, Nat.reduceSub, Nat.zero_add, dSeq, dIfS, dOr, dAnd, dNot, dTst, dOp, dUn, dVar, dC, dB, dBK, dCons, dNil, dTup, dLst, dRet, dRetN, dNext, dNever, dAsg, dPar, dPar3, dIf, dAndV, dOrV, dNotV, dCh, dCt, cLast, cLink, tLast, tLink, dDrop, dFor, dBrk, dCnt, dOwn, dApp, dExt, dFree, gPutO, dIxO, dLend, dLendT, dLcF, gN, gTu, gCn, gNl, gP0, gP1, gII, gIIc, gAdd, gNeg, gIx, gEq, gNe, gIs, gIsNot, gIn, gNotIn, gSl, oNone, oSome, gMt, gIndex, cTuple, cList, cI1, cI2, cInt, cLen, cMax, cMin, cMaxT, cMinT, dAug, cAll, cAny, cRepr, cSqrt, cIsi, tyN, isNon, kb_tt, kb_ii, kb_ib, kb_bi, kb_bb, kb_it, kb_bt, kb_nt, kb_ni, kb_lt, kb_li, kb_ti, kb_si, kb_st, kb_ss, rd, dTru, dRgN, dEnum, gMulT, gDivN, gEqF, dCallV, spOf, atD, ordD, dSq, dZip, zipD_map, ivD, dRg1, dRg2, dLc, dYes, dLcGo, dGen, dGenGo, wipeD, boolsOf, intsOf, maxL, minL, noL, noLs, Option.map_some, Option.bind_some, List.all_cons, List.all_nil, List.any_cons, List.any_nil, id_eq, List.set_cons_zero, List.set_cons_succ, List.getElem?_cons_zero, List.getElem?_cons_succ, List.getElem?_nil, List.getD_cons_zero, List.getD_cons_succ, decide_eq_true_eq, decide_eq_false_iff_not, Bool.not_eq_true', Bool.not_true, Bool.not_false, Bool.and_true, Bool.true_and, Bool.and_false, Bool.false_and, Bool.false_eq_true, if_true, if_false, reduceIte, ite_true, ite_false, true_and, and_true, reduceCtorEq, Int.toNat_zero, Int.toNat_one, Int.cast_ofNat_Int, Int.reduceLT, Int.reduceLE, Int.reduceNeg, Int.reduceToNat, Int.reducePow, Int.reduceMul, Int.reduceAdd, Int.reduceSub, decide_true, decide_false, sp_is_integer]
  rw [if_pos h1, h2]
  exact h
def sp_is_interval : SpD :=
  fun ds R => match ds with
  | [.tup [.int a, .int b]] => (-1180591620717411303424 ≤ a ∧ a ≤ b ∧ b ≤ 1180591620717411303424) ∧ R (.bl true)
  | _ => False
set_option maxHeartbeats 0 in
theorem ok_is_interval (T : Txt K mg) (D0 : Dfn K mg "is_interval" "is_interval" s_is_interval ["value"] []) (C_is_integer : Cal P w K mg base tabs "is_integer" 1 1 ["value"] [] sp_is_integer) : Cal P w K mg base tabs "is_interval" 2 1 ["value"] [] sp_is_interval := by
  refine cal_of D0 sc_is_interval fun f cdv A outer s H E p ht hg hk hr => ⟨_, (pdss_cons (pds_if (pdw_t (pdw_or (pdt_not (pdt_val (pd_callB cd_isi rfl T.b_isinstance PyProof.Rows.boot_isinstance (pda_cons (pd_var 0) (pda_cons (pd_ty rfl T.b_tuple PyProof.Rows.boot_tuple) pda_nil))))) (pdw_or1 (pdt_cmp (opd_ne hr.units) (pd_callB cd_len rfl T.b_len PySem.boot_len (pda_cons (pd_var 0) pda_nil)) pd_int)))) (pdss_one (pds_ret pd_bl)) pdss_nil)
      (pdss_cons (pds_asg (pd_var 0) (pdg_tup (n := 2) rfl (pdgs_cons (pdg_name (i := 1) sc_is_interval.nd rfl (Or.inl rfl)) (pdgs_cons (pdg_name (i := 2) sc_is_interval.nd rfl (Or.inl rfl)) pdgs_nil))))
      (pdss_cons (pds_if (pdw_t (pdw_or (pdt_not (pdt_val (pdcC (C_is_integer.cal ht) hg hr (pda_cons (pd_var 1) pda_nil)))) (pdw_or1 (pdt_not (pdt_val (pdcC (C_is_integer.cal ht) hg hr (pda_cons (pd_var 2) pda_nil))))))) (pdss_one (pds_ret pd_bl)) pdss_nil)
      (pdss_one (pds_ret (pd_chainN (pd_un und_neg (pd_gint rfl T.m_MOST_GRAINS)) (pch_cons opd_le (pd_var 1) (pch_cons opd_le (pd_var 2) (pch_last opd_le (pd_gint rfl T.m_MOST_GRAINS)))))))))), ?_⟩
  intro ds R hl h; unfold sp_is_interval at h; split at h
  all_goals (try exact False.elim h)
  all_goals clear hl hg hr hk ht
  rename_i a b
  obtain ⟨⟨h1, h2, h3⟩, h⟩ := h
  simp (implicitDefEqProofs := false) (maxSteps := 3000000) only [startD, List.map_cons, List.map_nil, List.length_cons, List.length_nil, List.replicate, List.cons_append, List.nil_append, Nat.reduceAdd, Nat.reduceSub, Nat.zero_add, dSeq, dIfS, dOr, dAnd, dNot, dTst, dOp, dUn, dVar, dC, dB, dBK, dCons, dNil, dTup, dLst, dRet, dRetN, dNext, dNever, dAsg, dPar, dPar3, dIf, dAndV, dOrV, dNotV, dCh, dCt, cLast, cLink, tLast, tLink, dDrop, dFor, dBrk, dCnt, dOwn, dApp, dExt, dFree, gPutO, dIxO, dLend, dLendT, dLcF, gN, gTu, gCn, gNl, gP0, gP1, gII, gIIc, gAdd, gNeg, gIx, gEq, gNe, gIs, gIsNot, gIn, gNotIn, gSl, oNone, oSome, gMt, gIndex, cTuple, cList, cI1, cI2, cInt, cLen, cMax, cMin, cMaxT, cMinT, dAug, cAll, cAny, cRepr, cSqrt, cIsi, tyN, isNon, kb_tt, kb_ii, kb_ib, kb_bi, kb_bb, kb_it, kb_bt, kb_nt, kb_ni, kb_lt, kb_li, kb_ti, kb_si, kb_st, kb_ss, rd, dTru, dRgN, dEnum, gMulT, gDivN, gEqF, dCallV, spOf, atD, ordD, dSq, dZip, zipD_map, ivD, dRg1, dRg2, dLc, dYes, dLcGo, dGen, dGenGo, wipeD, boolsOf, intsOf, maxL, minL, noL, noLs, Option.map_some, Option.bind_some, List.all_cons, List.all_nil, List.any_cons, List.any_nil, id_eq, List.set_cons_zero, List.set_cons_succ, List.getElem?_cons_zero, List.getElem?_cons_succ, List.getElem?_nil, List.getD_cons_zero, List.getD_cons_succ, decide_eq_true_eq, decide_eq_false_iff_not, Bool.not_eq_true', Bool.not_true, Bool.not_false, Bool.and_true, Bool.true_and, Bool.and_false, Bool.false_and, Bool.false_eq_true, if_true, if_false, reduceIte, ite_true, ite_false, true_and, and_true, reduceCtorEq, Int.toNat_zero, Int.toNat_one, Int.cast_ofNat_Int, Int.reduceLT, Int.reduceLE, Int.reduceNeg, Int.reduceToNat, Int.reducePow, Int.reduceMul, Int.reduceAdd, Int.reduceSub, decide_true, decide_false, sp_is_integer]
  rw [if_pos h1, if_pos h2, decide_eq_true h3]
  exact h
def sp_is_box : SpD :=
  fun ds R => ∃ b, ds = [.tup (b.map ivD)] ∧ Bx b ∧ R (.bl true)
set_option maxHeartbeats 0 in
theorem ok_is_box (T : Txt K mg) (D0 : Dfn K mg "is_box" "is_box" s_is_box ["value"] []) (TA : TabAt K mg base tabs "is_box") (C_is_interval : Cal P w K mg base tabs "is_interval" 2 1 ["value"] [] sp_is_interval) (C_is_some_tuple : Cal P w K mg base tabs "is_some_tuple" 1 1 ["value"] [] sp_is_some_tuple) : Cal P w K mg base tabs "is_box" 4 1 ["value"] [] sp_is_box := by
  refine cal_ofT D0 sc_is_box TA fun f cdv A outer s H E p ht TX hg hk hr => ⟨_, (pdss_one (pds_ret (pd_and (pdcC (C_is_some_tuple.cal ht) hg hr (pda_cons (pd_var 0) pda_nil)) (pd_one (pd_allG (own := [("part", 1)]) (t := (L2.gName 1)) hr T.b_all TX rfl sc_is_box.nd (show GA.gxC ["value", "part"] (defScope s_is_box) _ _ = true by decide +kernel) (pdi_sq (pd_var 0)) (fun _ _ _ _ _ _ => (pgw_name (i := 1) (vs := [1]) sc_is_box.nd rfl (Or.inl rfl))) (fun _ _ _ _ _ _ => (pdcC (C_is_interval.cal ht) hg (Room.gx hr) (pda_cons (pd_var 1) pda_nil))) s))))), ?_⟩
  intro ds R hl h; unfold sp_is_box at h
  clear hl hg hr hk ht TX
  obtain ⟨b, rfl, hb, h⟩ := h
  simp (implicitDefEqProofs := false) (maxSteps := 3000000) only [startD, List.map_cons, List.map_nil, List.length_cons, List.length_nil, List.replicate, List.cons_append, List.nil_append, Nat.reduceAdd, Nat.reduceSub, Nat.zero_add, dSeq, dIfS, dOr, dAnd, dNot, dTst, dOp, dUn, dVar, dC, dB, dBK, dCons, dNil, dTup, dLst, dRet, dRetN, dNext, dNever, dAsg, dPar, dPar3, dIf, dAndV, dOrV, dNotV, dCh, dCt, cLast, cLink, tLast, tLink, dDrop, dFor, dBrk, dCnt, dOwn, dApp, dExt, dFree, gPutO, dIxO, dLend, dLendT, dLcF, gN, gTu, gCn, gNl, gP0, gP1, gII, gIIc, gAdd, gNeg, gIx, gEq, gNe, gIs, gIsNot, gIn, gNotIn, gSl, oNone, oSome, gMt, gIndex, cTuple, cList, cI1, cI2, cInt, cLen, cMax, cMin, cMaxT, cMinT, dAug, cAll, cAny, cRepr, cSqrt, cIsi, tyN, isNon, kb_tt, kb_ii, kb_ib, kb_bi, kb_bb, kb_it, kb_bt, kb_nt, kb_ni, kb_lt, kb_li, kb_ti, kb_si, kb_st, kb_ss, rd, dTru, dRgN, dEnum, gMulT, gDivN, gEqF, dCallV, spOf, atD, ordD, dSq, dZip, zipD_map, ivD, dRg1, dRg2, dLc, dYes, dLcGo, dGen, dGenGo, wipeD, boolsOf, intsOf, maxL, minL, noL, noLs, Option.map_some, Option.bind_some, List.all_cons, List.all_nil, List.any_cons, List.any_nil, id_eq, List.set_cons_zero, List.set_cons_succ, List.getElem?_cons_zero, List.getElem?_cons_succ, List.getElem?_nil, List.getD_cons_zero, List.getD_cons_succ, decide_eq_true_eq, decide_eq_false_iff_not, Bool.not_eq_true', Bool.not_true, Bool.not_false, Bool.and_true, Bool.true_and, Bool.and_false, Bool.false_and, Bool.false_eq_true, if_true, if_false, reduceIte, ite_true, ite_false, true_and, and_true, reduceCtorEq, Int.toNat_zero, Int.toNat_one, Int.cast_ofNat_Int, Int.reduceLT, Int.reduceLE, Int.reduceNeg, Int.reduceToNat, Int.reducePow, Int.reduceMul, Int.reduceAdd, Int.reduceSub, decide_true, decide_false, sp_is_interval, sp_is_some_tuple]
  refine ⟨⟨by simpa using hb.one, by simpa using hb.few⟩, ?_⟩
  refine gen_all ivD (fun _ => true) b (fun q hq Q hQ => ?_) ?_
  · simp (implicitDefEqProofs := false) (maxSteps := 3000000) only [startD, List.map_cons, List.map_nil, List.length_cons, List.length_nil, List.replicate, List.cons_append, List.nil_append, Nat.reduceAdd, Nat.reduceSub, Nat.zero_add, dSeq, dIfS, dOr, dAnd, dNot, dTst, dOp, dUn, dVar, dC, dB, dBK, dCons, dNil, dTup, dLst, dRet, dRetN, dNext, dNever, dAsg, dPar, dPar3, dIf, dAndV, dOrV, dNotV, dCh, dCt, cLast, cLink, tLast, tLink, dDrop, dFor, dBrk, dCnt, dOwn, dApp, dExt, dFree, gPutO, dIxO, dLend, dLendT, dLcF, gN, gTu, gCn, gNl, gP0, gP1, gII, gIIc, gAdd, gNeg, gIx, gEq, gNe, gIs, gIsNot, gIn, gNotIn, gSl, oNone, oSome, gMt, gIndex, cTuple, cList, cI1, cI2, cInt, cLen, cMax, cMin, cMaxT, cMinT, dAug, cAll, cAny, cRepr, cSqrt, cIsi, tyN, isNon, kb_tt, kb_ii, kb_ib, kb_bi, kb_bb, kb_it, kb_bt, kb_nt, kb_ni, kb_lt, kb_li, kb_ti, kb_si, kb_st, kb_ss, rd, dTru, dRgN, dEnum, gMulT, gDivN, gEqF, dCallV, spOf, atD, ordD, dSq, dZip, zipD_map, ivD, dRg1, dRg2, dLc, dYes, dLcGo, dGen, dGenGo, wipeD, boolsOf, intsOf, maxL, minL, noL, noLs, Option.map_some, Option.bind_some, List.all_cons, List.all_nil, List.any_cons, List.any_nil, id_eq, List.set_cons_zero, List.set_cons_succ, List.getElem?_cons_zero, List.getElem?_cons_succ, List.getElem?_nil, List.getD_cons_zero, List.getD_cons_succ, decide_eq_true_eq, decide_eq_false_iff_not, Bool.not_eq_true', Bool.not_true, Bool.not_false, Bool.and_true, Bool.true_and, Bool.and_false, Bool.false_and, Bool.false_eq_true, if_true, if_false, reduceIte, ite_true, ite_false, true_and, and_true, reduceCtorEq, Int.toNat_zero, Int.toNat_one, Int.cast_ofNat_Int, Int.reduceLT, Int.reduceLE, Int.reduceNeg, Int.reduceToNat, Int.reducePow, Int.reduceMul, Int.reduceAdd, Int.reduceSub, decide_true, decide_false, sp_is_interval, sp_is_some_tuple]
    exact ⟨⟨(hb.iv q hq).lo, (hb.iv q hq).le, (hb.iv q hq).hi⟩, hQ⟩
  · rw [all_tt]; exact h
def sp_is_point : SpD :=
  fun ds R => ∃ b, ds = [.tup (b.map ivD)] ∧ Pt b ∧ R (.bl true)
set_option maxHeartbeats 0 in
theorem ok_is_point (T : Txt K mg) (D0 : Dfn K mg "is_point" "is_point" s_is_point ["value"] []) (TA : TabAt K mg base tabs "is_point") (C_is_ratio : Cal P w K mg base tabs "is_ratio" 2 1 ["value"] [] sp_is_ratio) (C_is_some_tuple : Cal P w K mg base tabs "is_some_tuple" 1 1 ["value"] [] sp_is_some_tuple) : Cal P w K mg base tabs "is_point" 4 1 ["value"] [] sp_is_point := by
  refine cal_ofT D0 sc_is_point TA fun f cdv A outer s H E p ht TX hg hk hr => ⟨_, (pdss_one (pds_ret (pd_and (pdcC (C_is_some_tuple.cal ht) hg hr (pda_cons (pd_var 0) pda_nil)) (pd_one (pd_allG (own := [("part", 1)]) (t := (L2.gName 1)) hr T.b_all TX rfl sc_is_point.nd (show GA.gxC ["value", "part"] (defScope s_is_point) _ _ = true by decide +kernel) (pdi_sq (pd_var 0)) (fun _ _ _ _ _ _ => (pgw_name (i := 1) (vs := [1]) sc_is_point.nd rfl (Or.inl rfl))) (fun _ _ _ _ _ _ => (pdcC (C_is_ratio.cal ht) hg (Room.gx hr) (pda_cons (pd_var 1) pda_nil))) s))))), ?_⟩
  intro ds R hl h; unfold sp_is_point at h
  clear hl hg hr hk ht TX
  obtain ⟨b, rfl, hb, h⟩ := h
  simp (implicitDefEqProofs := false) (maxSteps := 3000000) only [startD, List.map_cons, List.map_nil, List.length_cons, List.length_nil, List.replicate, List.cons_append, List.nil_append, Nat.reduceAdd, Nat.reduceSub, Nat.zero_add, dSeq, dIfS, dOr, dAnd, dNot, dTst, dOp, dUn, dVar, dC, dB, dBK, dCons, dNil, dTup, dLst, dRet, dRetN, dNext, dNever, dAsg, dPar, dPar3, dIf, dAndV, dOrV, dNotV, dCh, dCt, cLast, cLink, tLast, tLink, dDrop, dFor, dBrk, dCnt, dOwn, dApp, dExt, dFree, gPutO, dIxO, dLend, dLendT, dLcF, gN, gTu, gCn, gNl, gP0, gP1, gII, gIIc, gAdd, gNeg, gIx, gEq, gNe, gIs, gIsNot, gIn, gNotIn, gSl, oNone, oSome, gMt, gIndex, cTuple, cList, cI1, cI2, cInt, cLen, cMax, cMin, cMaxT, cMinT, dAug, cAll, cAny, cRepr, cSqrt, cIsi, tyN, isNon, kb_tt, kb_ii, kb_ib, kb_bi, kb_bb, kb_it, kb_bt, kb_nt, kb_ni, kb_lt, kb_li, kb_ti, kb_si, kb_st, kb_ss, rd, dTru, dRgN, dEnum, gMulT, gDivN, gEqF, dCallV, spOf, atD, ordD, dSq, dZip, zipD_map, ivD, dRg1, dRg2, dLc, dYes, dLcGo, dGen, dGenGo, wipeD, boolsOf, intsOf, maxL, minL, noL, noLs, Option.map_some, Option.bind_some, List.all_cons, List.all_nil, List.any_cons, List.any_nil, id_eq, List.set_cons_zero, List.set_cons_succ, List.getElem?_cons_zero, List.getElem?_cons_succ, List.getElem?_nil, List.getD_cons_zero, List.getD_cons_succ, decide_eq_true_eq, decide_eq_false_iff_not, Bool.not_eq_true', Bool.not_true, Bool.not_false, Bool.and_true, Bool.true_and, Bool.and_false, Bool.false_and, Bool.false_eq_true, if_true, if_false, reduceIte, ite_true, ite_false, true_and, and_true, reduceCtorEq, Int.toNat_zero, Int.toNat_one, Int.cast_ofNat_Int, Int.reduceLT, Int.reduceLE, Int.reduceNeg, Int.reduceToNat, Int.reducePow, Int.reduceMul, Int.reduceAdd, Int.reduceSub, decide_true, decide_false, sp_is_ratio, sp_is_some_tuple]
  refine ⟨⟨by simpa using hb.one, by simpa using hb.few⟩, ?_⟩
  refine gen_all ivD (fun _ => true) b (fun q hq Q hQ => ?_) ?_
  · simp (implicitDefEqProofs := false) (maxSteps := 3000000) only [startD, List.map_cons, List.map_nil, List.length_cons, List.length_nil, List.replicate, List.cons_append, List.nil_append, Nat.reduceAdd, Nat.reduceSub, Nat.zero_add, dSeq, dIfS, dOr, dAnd, dNot, dTst, dOp, dUn, dVar, dC, dB, dBK, dCons, dNil, dTup, dLst, dRet, dRetN, dNext, dNever, dAsg, dPar, dPar3, dIf, dAndV, dOrV, dNotV, dCh, dCt, cLast, cLink, tLast, tLink, dDrop, dFor, dBrk, dCnt, dOwn, dApp, dExt, dFree, gPutO, dIxO, dLend, dLendT, dLcF, gN, gTu, gCn, gNl, gP0, gP1, gII, gIIc, gAdd, gNeg, gIx, gEq, gNe, gIs, gIsNot, gIn, gNotIn, gSl, oNone, oSome, gMt, gIndex, cTuple, cList, cI1, cI2, cInt, cLen, cMax, cMin, cMaxT, cMinT, dAug, cAll, cAny, cRepr, cSqrt, cIsi, tyN, isNon, kb_tt, kb_ii, kb_ib, kb_bi, kb_bb, kb_it, kb_bt, kb_nt, kb_ni, kb_lt, kb_li, kb_ti, kb_si, kb_st, kb_ss, rd, dTru, dRgN, dEnum, gMulT, gDivN, gEqF, dCallV, spOf, atD, ordD, dSq, dZip, zipD_map, ivD, dRg1, dRg2, dLc, dYes, dLcGo, dGen, dGenGo, wipeD, boolsOf, intsOf, maxL, minL, noL, noLs, Option.map_some, Option.bind_some, List.all_cons, List.all_nil, List.any_cons, List.any_nil, id_eq, List.set_cons_zero, List.set_cons_succ, List.getElem?_cons_zero, List.getElem?_cons_succ, List.getElem?_nil, List.getD_cons_zero, List.getD_cons_succ, decide_eq_true_eq, decide_eq_false_iff_not, Bool.not_eq_true', Bool.not_true, Bool.not_false, Bool.and_true, Bool.true_and, Bool.and_false, Bool.false_and, Bool.false_eq_true, if_true, if_false, reduceIte, ite_true, ite_false, true_and, and_true, reduceCtorEq, Int.toNat_zero, Int.toNat_one, Int.cast_ofNat_Int, Int.reduceLT, Int.reduceLE, Int.reduceNeg, Int.reduceToNat, Int.reducePow, Int.reduceMul, Int.reduceAdd, Int.reduceSub, decide_true, decide_false, sp_is_ratio, sp_is_some_tuple]
    exact ⟨⟨(hb.rt q hq).pos, (hb.rt q hq).cop⟩, hQ⟩
  · rw [all_tt]; exact h
def sp_check_box : SpD :=
  fun ds R => ∃ b, ds = [.tup (b.map ivD)] ∧ Bx b ∧ R .non
set_option maxHeartbeats 0 in
theorem ok_check_box (T : Txt K mg) (D0 : Dfn K mg "check_box" "check_box" s_check_box ["box"] []) (C_is_box : Cal P w K mg base tabs "is_box" 4 1 ["value"] [] sp_is_box) : Cal P w K mg base tabs "check_box" 5 1 ["box"] [] sp_check_box := by
  refine cal_of D0 sc_check_box fun f cdv A outer s H E p ht hg hk hr => ⟨_, (pdss_one (pds_if (pdt_not (pdt_val (pdcC (C_is_box.cal ht) hg hr (pda_cons (pd_var 0) pda_nil)))) (pdss_one pds_never) pdss_nil)), ?_⟩
  intro ds R hl h; unfold sp_check_box at h
  clear hl hg hr hk ht
  obtain ⟨b, rfl, hb, h⟩ := h
  simp (implicitDefEqProofs := false) (maxSteps := 3000000) only [startD, List.map_cons, List.map_nil, List.length_cons, List.length_nil, List.replicate, List.cons_append, List.nil_append, Nat.reduceAdd, Nat.reduceSub, Nat.zero_add, dSeq, dIfS, dOr, dAnd, dNot, dTst, dOp, dUn, dVar, dC, dB, dBK, dCons, dNil, dTup, dLst, dRet, dRetN, dNext, dNever, dAsg, dPar, dPar3, dIf, dAndV, dOrV, dNotV, dCh, dCt, cLast, cLink, tLast, tLink, dDrop, dFor, dBrk, dCnt, dOwn, dApp, dExt, dFree, gPutO, dIxO, dLend, dLendT, dLcF, gN, gTu, gCn, gNl, gP0, gP1, gII, gIIc, gAdd, gNeg, gIx, gEq, gNe, gIs, gIsNot, gIn, gNotIn, gSl, oNone, oSome, gMt, gIndex, cTuple, cList, cI1, cI2, cInt, cLen, cMax, cMin, cMaxT, cMinT, dAug, cAll, cAny, cRepr, cSqrt, cIsi, tyN, isNon, kb_tt, kb_ii, kb_ib, kb_bi, kb_bb, kb_it, kb_bt, kb_nt, kb_ni, kb_lt, kb_li, kb_ti, kb_si, kb_st, kb_ss, rd, dTru, dRgN, dEnum, gMulT, gDivN, gEqF, dCallV, spOf, atD, ordD, dSq, dZip, zipD_map, ivD, dRg1, dRg2, dLc, dYes, dLcGo, dGen, dGenGo, wipeD, boolsOf, intsOf, maxL, minL, noL, noLs, Option.map_some, Option.bind_some, List.all_cons, List.all_nil, List.any_cons, List.any_nil, id_eq, List.set_cons_zero, List.set_cons_succ, List.getElem?_cons_zero, List.getElem?_cons_succ, List.getElem?_nil, List.getD_cons_zero, List.getD_cons_succ, decide_eq_true_eq, decide_eq_false_iff_not, Bool.not_eq_true', Bool.not_true, Bool.not_false, Bool.and_true, Bool.true_and, Bool.and_false, Bool.false_and, Bool.false_eq_true, if_true, if_false, reduceIte, ite_true, ite_false, true_and, and_true, reduceCtorEq, Int.toNat_zero, Int.toNat_one, Int.cast_ofNat_Int, Int.reduceLT, Int.reduceLE, Int.reduceNeg, Int.reduceToNat, Int.reducePow, Int.reduceMul, Int.reduceAdd, Int.reduceSub, decide_true, decide_false, sp_is_box]
  exact ⟨b, rfl, hb, h⟩
def sp_check_point : SpD :=
  fun ds R => ∃ b, ds = [.tup (b.map ivD)] ∧ Pt b ∧ R .non
set_option maxHeartbeats 0 in
theorem ok_check_point (T : Txt K mg) (D0 : Dfn K mg "check_point" "check_point" s_check_point ["point"] []) (C_is_point : Cal P w K mg base tabs "is_point" 4 1 ["value"] [] sp_is_point) : Cal P w K mg base tabs "check_point" 5 1 ["point"] [] sp_check_point := by
  refine cal_of D0 sc_check_point fun f cdv A outer s H E p ht hg hk hr => ⟨_, (pdss_one (pds_if (pdt_not (pdt_val (pdcC (C_is_point.cal ht) hg hr (pda_cons (pd_var 0) pda_nil)))) (pdss_one pds_never) pdss_nil)), ?_⟩
  intro ds R hl h; unfold sp_check_point at h
  clear hl hg hr hk ht
  obtain ⟨b, rfl, hb, h⟩ := h
  simp (implicitDefEqProofs := false) (maxSteps := 3000000) only [startD, List.map_cons, List.map_nil, List.length_cons, List.length_nil, List.replicate, List.cons_append, List.nil_append, Nat.reduceAdd, Nat.reduceSub, Nat.zero_add, dSeq, dIfS, dOr, dAnd, dNot, dTst, dOp, dUn, dVar, dC, dB, dBK, dCons, dNil, dTup, dLst, dRet, dRetN, dNext, dNever, dAsg, dPar, dPar3, dIf, dAndV, dOrV, dNotV, dCh, dCt, cLast, cLink, tLast, tLink, dDrop, dFor, dBrk, dCnt, dOwn, dApp, dExt, dFree, gPutO, dIxO, dLend, dLendT, dLcF, gN, gTu, gCn, gNl, gP0, gP1, gII, gIIc, gAdd, gNeg, gIx, gEq, gNe, gIs, gIsNot, gIn, gNotIn, gSl, oNone, oSome, gMt, gIndex, cTuple, cList, cI1, cI2, cInt, cLen, cMax, cMin, cMaxT, cMinT, dAug, cAll, cAny, cRepr, cSqrt, cIsi, tyN, isNon, kb_tt, kb_ii, kb_ib, kb_bi, kb_bb, kb_it, kb_bt, kb_nt, kb_ni, kb_lt, kb_li, kb_ti, kb_si, kb_st, kb_ss, rd, dTru, dRgN, dEnum, gMulT, gDivN, gEqF, dCallV, spOf, atD, ordD, dSq, dZip, zipD_map, ivD, dRg1, dRg2, dLc, dYes, dLcGo, dGen, dGenGo, wipeD, boolsOf, intsOf, maxL, minL, noL, noLs, Option.map_some, Option.bind_some, List.all_cons, List.all_nil, List.any_cons, List.any_nil, id_eq, List.set_cons_zero, List.set_cons_succ, List.getElem?_cons_zero, List.getElem?_cons_succ, List.getElem?_nil, List.getD_cons_zero, List.getD_cons_succ, decide_eq_true_eq, decide_eq_false_iff_not, Bool.not_eq_true', Bool.not_true, Bool.not_false, Bool.and_true, Bool.true_and, Bool.and_false, Bool.false_and, Bool.false_eq_true, if_true, if_false, reduceIte, ite_true, ite_false, true_and, and_true, reduceCtorEq, Int.toNat_zero, Int.toNat_one, Int.cast_ofNat_Int, Int.reduceLT, Int.reduceLE, Int.reduceNeg, Int.reduceToNat, Int.reducePow, Int.reduceMul, Int.reduceAdd, Int.reduceSub, decide_true, decide_false, sp_is_point]
  exact ⟨b, rfl, hb, h⟩
def sp_check_sizes : SpD :=
  fun ds R => match ds with
  | [.tup l, .tup m] => l.length = m.length ∧ R .non
  | _ => False
set_option maxHeartbeats 0 in
theorem ok_check_sizes (T : Txt K mg) (D0 : Dfn K mg "check_sizes" "check_sizes" s_check_sizes ["one", "other"] [])  : Cal P w K mg base tabs "check_sizes" 1 2 ["one", "other"] [] sp_check_sizes := by
  refine cal_of D0 sc_check_sizes fun f cdv A outer s H E p ht hg hk hr => ⟨_, (pdss_one (pds_if (pdt_cmp (opd_ne hr.units) (pd_callB cd_len rfl T.b_len PySem.boot_len (pda_cons (pd_var 0) pda_nil)) (pd_callB cd_len rfl T.b_len PySem.boot_len (pda_cons (pd_var 1) pda_nil))) (pdss_one pds_never) pdss_nil)), ?_⟩
  intro ds R hl h; unfold sp_check_sizes at h; split at h
  all_goals (try exact False.elim h)
  all_goals clear hl hg hr hk ht
  obtain ⟨h1, h⟩ := h
  simp (implicitDefEqProofs := false) (maxSteps := 3000000) only [startD, List.map_cons, List.map_nil, List.length_cons, List.length_nil, List.replicate, List.cons_append, List.nil_append, Nat.reduceAdd, Nat.reduceSub, Nat.zero_add, dSeq, dIfS, dOr, dAnd, dNot, dTst, dOp, dUn, dVar, dC, dB, dBK, dCons, dNil, dTup, dLst, dRet, dRetN, dNext, dNever, dAsg, dPar, dPar3, dIf, dAndV, dOrV, dNotV, dCh, dCt, cLast, cLink, tLast, tLink, dDrop, dFor, dBrk, dCnt, dOwn, dApp, dExt, dFree, gPutO, dIxO, dLend, dLendT, dLcF, gN, gTu, gCn, gNl, gP0, gP1, gII, gIIc, gAdd, gNeg, gIx, gEq, gNe, gIs, gIsNot, gIn, gNotIn, gSl, oNone, oSome, gMt, gIndex, cTuple, cList, cI1, cI2, cInt, cLen, cMax, cMin, cMaxT, cMinT, dAug, cAll, cAny, cRepr, cSqrt, cIsi, tyN, isNon, kb_tt, kb_ii, kb_ib, kb_bi, kb_bb, kb_it, kb_bt, kb_nt, kb_ni, kb_lt, kb_li, kb_ti, kb_si, kb_st, kb_ss, rd, dTru, dRgN, dEnum, gMulT, gDivN, gEqF, dCallV, spOf, atD, ordD, dSq, dZip, zipD_map, ivD, dRg1, dRg2, dLc, dYes, dLcGo, dGen, dGenGo, wipeD, boolsOf, intsOf, maxL, minL, noL, noLs, Option.map_some, Option.bind_some, List.all_cons, List.all_nil, List.any_cons, List.any_nil, id_eq, List.set_cons_zero, List.set_cons_succ, List.getElem?_cons_zero, List.getElem?_cons_succ, List.getElem?_nil, List.getD_cons_zero, List.getD_cons_succ, decide_eq_true_eq, decide_eq_false_iff_not, Bool.not_eq_true', Bool.not_true, Bool.not_false, Bool.and_true, Bool.true_and, Bool.and_false, Bool.false_and, Bool.false_eq_true, if_true, if_false, reduceIte, ite_true, ite_false, true_and, and_true, reduceCtorEq, Int.toNat_zero, Int.toNat_one, Int.cast_ofNat_Int, Int.reduceLT, Int.reduceLE, Int.reduceNeg, Int.reduceToNat, Int.reducePow, Int.reduceMul, Int.reduceAdd, Int.reduceSub, decide_true, decide_false]
  exact ifN (by omega) h
def sp__check_boxes : SpD :=
  fun ds R => ∃ b o, ds = [.tup (b.map ivD), .tup (o.map ivD)] ∧ Bx b ∧ Bx o ∧ b.length = o.length ∧ R .non
set_option maxHeartbeats 0 in
theorem ok__check_boxes (T : Txt K mg) (D0 : Dfn K mg "_check_boxes" "_check_boxes" s__check_boxes ["box", "other"] []) (C_check_box : Cal P w K mg base tabs "check_box" 5 1 ["box"] [] sp_check_box) (C_check_sizes : Cal P w K mg base tabs "check_sizes" 1 2 ["one", "other"] [] sp_check_sizes) : Cal P w K mg base tabs "_check_boxes" 6 2 ["box", "other"] [] sp__check_boxes := by
  refine cal_of D0 sc__check_boxes fun f cdv A outer s H E p ht hg hk hr => ⟨_, (pdss_cons (pds_expr (pdcC (C_check_box.cal ht) hg hr (pda_cons (pd_var 0) pda_nil)))
      (pdss_cons (pds_expr (pdcC (C_check_box.cal ht) hg hr (pda_cons (pd_var 1) pda_nil)))
      (pdss_one (pds_expr (pdcC (C_check_sizes.cal ht) hg hr (pda_cons (pd_var 0) (pda_cons (pd_var 1) pda_nil))))))), ?_⟩
  intro ds R hl h; unfold sp__check_boxes at h
  clear hl hg hr hk ht
  obtain ⟨b, o, rfl, hb, ho, hl, h⟩ := h
  simp (implicitDefEqProofs := false) (maxSteps := 3000000) only [startD, List.map_cons, List.map_nil, List.length_cons, List.length_nil, List.replicate, List.cons_append, List.nil_append, Nat.reduceAdd, Nat.reduceSub, Nat.zero_add, dSeq, dIfS, dOr, dAnd, dNot, dTst, dOp, dUn, dVar, dC, dB, dBK, dCons, dNil, dTup, dLst, dRet, dRetN, dNext, dNever, dAsg, dPar, dPar3, dIf, dAndV, dOrV, dNotV, dCh, dCt, cLast, cLink, tLast, tLink, dDrop, dFor, dBrk, dCnt, dOwn, dApp, dExt, dFree, gPutO, dIxO, dLend, dLendT, dLcF, gN, gTu, gCn, gNl, gP0, gP1, gII, gIIc, gAdd, gNeg, gIx, gEq, gNe, gIs, gIsNot, gIn, gNotIn, gSl, oNone, oSome, gMt, gIndex, cTuple, cList, cI1, cI2, cInt, cLen, cMax, cMin, cMaxT, cMinT, dAug, cAll, cAny, cRepr, cSqrt, cIsi, tyN, isNon, kb_tt, kb_ii, kb_ib, kb_bi, kb_bb, kb_it, kb_bt, kb_nt, kb_ni, kb_lt, kb_li, kb_ti, kb_si, kb_st, kb_ss, rd, dTru, dRgN, dEnum, gMulT, gDivN, gEqF, dCallV, spOf, atD, ordD, dSq, dZip, zipD_map, ivD, dRg1, dRg2, dLc, dYes, dLcGo, dGen, dGenGo, wipeD, boolsOf, intsOf, maxL, minL, noL, noLs, Option.map_some, Option.bind_some, List.all_cons, List.all_nil, List.any_cons, List.any_nil, id_eq, List.set_cons_zero, List.set_cons_succ, List.getElem?_cons_zero, List.getElem?_cons_succ, List.getElem?_nil, List.getD_cons_zero, List.getD_cons_succ, decide_eq_true_eq, decide_eq_false_iff_not, Bool.not_eq_true', Bool.not_true, Bool.not_false, Bool.and_true, Bool.true_and, Bool.and_false, Bool.false_and, Bool.false_eq_true, if_true, if_false, reduceIte, ite_true, ite_false, true_and, and_true, reduceCtorEq, Int.toNat_zero, Int.toNat_one, Int.cast_ofNat_Int, Int.reduceLT, Int.reduceLE, Int.reduceNeg, Int.reduceToNat, Int.reducePow, Int.reduceMul, Int.reduceAdd, Int.reduceSub, decide_true, decide_false, sp_check_box, sp_check_sizes]
  exact ⟨b, rfl, hb, o, rfl, ho, by simpa using hl, h⟩
def sp_box_within : SpD :=
  fun ds R => ∃ b o, ds = [.tup (b.map ivD), .tup (o.map ivD)] ∧ Bx b ∧ Bx o ∧ b.length = o.length ∧ R (.bl ((b.zip o).all fun q => decide (q.2.1 ≤ q.1.1) && decide (q.1.2 ≤ q.2.2)))
set_option maxHeartbeats 0 in
theorem ok_box_within (T : Txt K mg) (D0 : Dfn K mg "box_within" "box_within" s_box_within ["box", "other"] [(["other", "box"], 0, [1, 0])]) (C__check_boxes : Cal P w K mg base tabs "_check_boxes" 6 2 ["box", "other"] [] sp__check_boxes) (C_lies_within : Cal P w K mg base tabs "lies_within" 1 2 ["one", "other"] [] sp_lies_within) : Cal P w K mg base tabs "box_within" 7 2 ["box", "other"] [(["other", "box"], 0, [1, 0])] sp_box_within := by
  refine cal_of D0 sc_box_within fun f cdv A outer s H E p ht hg hk hr => ⟨_, (pdss_cons (pds_expr (pdcC (C__check_boxes.cal ht) hg hr (pda_cons (pd_var 0) (pda_cons (pd_var 1) pda_nil))))
      (pdss_one (pds_ret (pd_callB (cd_all rfl) rfl T.b_all PyProof.Rows.boot_all (pda_cons (pd_lc (own := [("part", 2), ("whole", 3)]) (t := (L2.gTup K 2 (L2.gCons (L2.gName 2) (L2.gCons (L2.gName 3) L2.gNil)))) rfl sc_box_within.nd (pdi_zip T.b_zip (pda_cons (pd_var 0) (pda_cons (pd_var 1) pda_nil))) (show blkC ["box", "other", "part", "whole"] (defScope s_box_within) _ _ = true by decide +kernel) (fun _ _ _ _ _ => (pgw_tup (n := 2) rfl (pgsw_cons (pgw_name (i := 2) (vs := [2, 3]) sc_box_within.nd rfl (Or.inl rfl)) (pgsw_cons (pgw_name (i := 3) (vs := [2, 3]) sc_box_within.nd rfl (Or.inl rfl)) pgsw_nil)))) (fun _ _ _ _ _ => (pdcC (C_lies_within.cal ht) hg hr (pda_cons (pd_var 2) (pda_cons (pd_var 3) pda_nil)))) (sh := s)) pda_nil))))), ?_⟩
  intro ds R hl h; unfold sp_box_within at h
  clear hl hg hr hk ht
  obtain ⟨b, o, rfl, hb, ho, hl, h⟩ := h
  have := hb.few
  simp (implicitDefEqProofs := false) (maxSteps := 3000000) only [startD, List.map_cons, List.map_nil, List.length_cons, List.length_nil, List.replicate, List.cons_append, List.nil_append, Nat.reduceAdd, Nat.reduceSub, Nat.zero_add, dSeq, dIfS, dOr, dAnd, dNot, dTst, dOp, dUn, dVar, dC, dB, dBK, dCons, dNil, dTup, dLst, dRet, dRetN, dNext, dNever, dAsg, dPar, dPar3, dIf, dAndV, dOrV, dNotV, dCh, dCt, cLast, cLink, tLast, tLink, dDrop, dFor, dBrk, dCnt, dOwn, dApp, dExt, dFree, gPutO, dIxO, dLend, dLendT, dLcF, gN, gTu, gCn, gNl, gP0, gP1, gII, gIIc, gAdd, gNeg, gIx, gEq, gNe, gIs, gIsNot, gIn, gNotIn, gSl, oNone, oSome, gMt, gIndex, cTuple, cList, cI1, cI2, cInt, cLen, cMax, cMin, cMaxT, cMinT, dAug, cAll, cAny, cRepr, cSqrt, cIsi, tyN, isNon, kb_tt, kb_ii, kb_ib, kb_bi, kb_bb, kb_it, kb_bt, kb_nt, kb_ni, kb_lt, kb_li, kb_ti, kb_si, kb_st, kb_ss, rd, dTru, dRgN, dEnum, gMulT, gDivN, gEqF, dCallV, spOf, atD, ordD, dSq, dZip, zipD_map, ivD, dRg1, dRg2, dLc, dYes, dLcGo, dGen, dGenGo, wipeD, boolsOf, intsOf, maxL, minL, noL, noLs, Option.map_some, Option.bind_some, List.all_cons, List.all_nil, List.any_cons, List.any_nil, id_eq, List.set_cons_zero, List.set_cons_succ, List.getElem?_cons_zero, List.getElem?_cons_succ, List.getElem?_nil, List.getD_cons_zero, List.getD_cons_succ, decide_eq_true_eq, decide_eq_false_iff_not, Bool.not_eq_true', Bool.not_true, Bool.not_false, Bool.and_true, Bool.true_and, Bool.and_false, Bool.false_and, Bool.false_eq_true, if_true, if_false, reduceIte, ite_true, ite_false, true_and, and_true, reduceCtorEq, Int.toNat_zero, Int.toNat_one, Int.cast_ofNat_Int, Int.reduceLT, Int.reduceLE, Int.reduceNeg, Int.reduceToNat, Int.reducePow, Int.reduceMul, Int.reduceAdd, Int.reduceSub, decide_true, decide_false, sp__check_boxes, sp_lies_within]
  refine ⟨b, o, rfl, hb, ho, hl, ?_⟩
  refine ⟨lenOk_zip (by omega), lc_map _ (fun q => .bl (decide (q.2.1 ≤ q.1.1) && decide (q.1.2 ≤ q.2.2))) _ _ (fun q hq Q hQ => ?_) ?_⟩
  · simp (implicitDefEqProofs := false) (maxSteps := 3000000) only [startD, List.map_cons, List.map_nil, List.length_cons, List.length_nil, List.replicate, List.cons_append, List.nil_append, Nat.reduceAdd, Nat.reduceSub, Nat.zero_add, dSeq, dIfS, dOr, dAnd, dNot, dTst, dOp, dUn, dVar, dC, dB, dBK, dCons, dNil, dTup, dLst, dRet, dRetN, dNext, dNever, dAsg, dPar, dPar3, dIf, dAndV, dOrV, dNotV, dCh, dCt, cLast, cLink, tLast, tLink, dDrop, dFor, dBrk, dCnt, dOwn, dApp, dExt, dFree, gPutO, dIxO, dLend, dLendT, dLcF, gN, gTu, gCn, gNl, gP0, gP1, gII, gIIc, gAdd, gNeg, gIx, gEq, gNe, gIs, gIsNot, gIn, gNotIn, gSl, oNone, oSome, gMt, gIndex, cTuple, cList, cI1, cI2, cInt, cLen, cMax, cMin, cMaxT, cMinT, dAug, cAll, cAny, cRepr, cSqrt, cIsi, tyN, isNon, kb_tt, kb_ii, kb_ib, kb_bi, kb_bb, kb_it, kb_bt, kb_nt, kb_ni, kb_lt, kb_li, kb_ti, kb_si, kb_st, kb_ss, rd, dTru, dRgN, dEnum, gMulT, gDivN, gEqF, dCallV, spOf, atD, ordD, dSq, dZip, zipD_map, ivD, dRg1, dRg2, dLc, dYes, dLcGo, dGen, dGenGo, wipeD, boolsOf, intsOf, maxL, minL, noL, noLs, Option.map_some, Option.bind_some, List.all_cons, List.all_nil, List.any_cons, List.any_nil, id_eq, List.set_cons_zero, List.set_cons_succ, List.getElem?_cons_zero, List.getElem?_cons_succ, List.getElem?_nil, List.getD_cons_zero, List.getD_cons_succ, decide_eq_true_eq, decide_eq_false_iff_not, Bool.not_eq_true', Bool.not_true, Bool.not_false, Bool.and_true, Bool.true_and, Bool.and_false, Bool.false_and, Bool.false_eq_true, if_true, if_false, reduceIte, ite_true, ite_false, true_and, and_true, reduceCtorEq, Int.toNat_zero, Int.toNat_one, Int.cast_ofNat_Int, Int.reduceLT, Int.reduceLE, Int.reduceNeg, Int.reduceToNat, Int.reducePow, Int.reduceMul, Int.reduceAdd, Int.reduceSub, decide_true, decide_false, sp__check_boxes, sp_lies_within]
    exact hQ
  · simp only [List.nil_append]
    rw [boolsOf_map]
    simpa [List.all_map] using h
def sp_box_hull : SpD :=
  fun ds R => ∃ b o, ds = [.tup (b.map ivD), .tup (o.map ivD)] ∧ Bx b ∧ Bx o ∧ b.length = o.length ∧ R (.tup ((b.zip o).map fun q => ivD (min q.1.1 q.2.1, max q.1.2 q.2.2)))
set_option maxHeartbeats 0 in
theorem ok_box_hull (T : Txt K mg) (D0 : Dfn K mg "box_hull" "box_hull" s_box_hull ["box", "other"] [(["other", "box"], 0, [1, 0])]) (C__check_boxes : Cal P w K mg base tabs "_check_boxes" 6 2 ["box", "other"] [] sp__check_boxes) (C_grain_hull : Cal P w K mg base tabs "grain_hull" 1 2 ["one", "other"] [] sp_grain_hull) : Cal P w K mg base tabs "box_hull" 7 2 ["box", "other"] [(["other", "box"], 0, [1, 0])] sp_box_hull := by
  refine cal_of D0 sc_box_hull fun f cdv A outer s H E p ht hg hk hr => ⟨_, (pdss_cons (pds_expr (pdcC (C__check_boxes.cal ht) hg hr (pda_cons (pd_var 0) (pda_cons (pd_var 1) pda_nil))))
      (pdss_one (pds_ret (pd_callTy cd_tuple rfl T.b_tuple PyProof.Rows.boot_tuple (pda_cons (pd_lc (own := [("one", 2), ("two", 3)]) (t := (L2.gTup K 2 (L2.gCons (L2.gName 2) (L2.gCons (L2.gName 3) L2.gNil)))) rfl sc_box_hull.nd (pdi_zip T.b_zip (pda_cons (pd_var 0) (pda_cons (pd_var 1) pda_nil))) (show blkC ["box", "other", "one", "two"] (defScope s_box_hull) _ _ = true by decide +kernel) (fun _ _ _ _ _ => (pgw_tup (n := 2) rfl (pgsw_cons (pgw_name (i := 2) (vs := [2, 3]) sc_box_hull.nd rfl (Or.inl rfl)) (pgsw_cons (pgw_name (i := 3) (vs := [2, 3]) sc_box_hull.nd rfl (Or.inl rfl)) pgsw_nil)))) (fun _ _ _ _ _ => (pdcC (C_grain_hull.cal ht) hg hr (pda_cons (pd_var 2) (pda_cons (pd_var 3) pda_nil)))) (sh := s)) pda_nil))))), ?_⟩
  intro ds R hl h; unfold sp_box_hull at h
  clear hl hg hr hk ht
  obtain ⟨b, o, rfl, hb, ho, hl, h⟩ := h
  have := hb.few
  simp (implicitDefEqProofs := false) (maxSteps := 3000000) only [startD, List.map_cons, List.map_nil, List.length_cons, List.length_nil, List.replicate, List.cons_append, List.nil_append, Nat.reduceAdd, Nat.reduceSub, Nat.zero_add, dSeq, dIfS, dOr, dAnd, dNot, dTst, dOp, dUn, dVar, dC, dB, dBK, dCons, dNil, dTup, dLst, dRet, dRetN, dNext, dNever, dAsg, dPar, dPar3, dIf, dAndV, dOrV, dNotV, dCh, dCt, cLast, cLink, tLast, tLink, dDrop, dFor, dBrk, dCnt, dOwn, dApp, dExt, dFree, gPutO, dIxO, dLend, dLendT, dLcF, gN, gTu, gCn, gNl, gP0, gP1, gII, gIIc, gAdd, gNeg, gIx, gEq, gNe, gIs, gIsNot, gIn, gNotIn, gSl, oNone, oSome, gMt, gIndex, cTuple, cList, cI1, cI2, cInt, cLen, cMax, cMin, cMaxT, cMinT, dAug, cAll, cAny, cRepr, cSqrt, cIsi, tyN, isNon, kb_tt, kb_ii, kb_ib, kb_bi, kb_bb, kb_it, kb_bt, kb_nt, kb_ni, kb_lt, kb_li, kb_ti, kb_si, kb_st, kb_ss, rd, dTru, dRgN, dEnum, gMulT, gDivN, gEqF, dCallV, spOf, atD, ordD, dSq, dZip, zipD_map, ivD, dRg1, dRg2, dLc, dYes, dLcGo, dGen, dGenGo, wipeD, boolsOf, intsOf, maxL, minL, noL, noLs, Option.map_some, Option.bind_some, List.all_cons, List.all_nil, List.any_cons, List.any_nil, id_eq, List.set_cons_zero, List.set_cons_succ, List.getElem?_cons_zero, List.getElem?_cons_succ, List.getElem?_nil, List.getD_cons_zero, List.getD_cons_succ, decide_eq_true_eq, decide_eq_false_iff_not, Bool.not_eq_true', Bool.not_true, Bool.not_false, Bool.and_true, Bool.true_and, Bool.and_false, Bool.false_and, Bool.false_eq_true, if_true, if_false, reduceIte, ite_true, ite_false, true_and, and_true, reduceCtorEq, Int.toNat_zero, Int.toNat_one, Int.cast_ofNat_Int, Int.reduceLT, Int.reduceLE, Int.reduceNeg, Int.reduceToNat, Int.reducePow, Int.reduceMul, Int.reduceAdd, Int.reduceSub, decide_true, decide_false, sp__check_boxes, sp_grain_hull]
  refine ⟨b, o, rfl, hb, ho, hl, ?_⟩
  refine ⟨lenOk_zip (by omega), lc_map _ (fun q => ivD (min q.1.1 q.2.1, max q.1.2 q.2.2)) _ _ (fun q hq Q hQ => ?_) ?_⟩
  · simp (implicitDefEqProofs := false) (maxSteps := 3000000) only [startD, List.map_cons, List.map_nil, List.length_cons, List.length_nil, List.replicate, List.cons_append, List.nil_append, Nat.reduceAdd, Nat.reduceSub, Nat.zero_add, dSeq, dIfS, dOr, dAnd, dNot, dTst, dOp, dUn, dVar, dC, dB, dBK, dCons, dNil, dTup, dLst, dRet, dRetN, dNext, dNever, dAsg, dPar, dPar3, dIf, dAndV, dOrV, dNotV, dCh, dCt, cLast, cLink, tLast, tLink, dDrop, dFor, dBrk, dCnt, dOwn, dApp, dExt, dFree, gPutO, dIxO, dLend, dLendT, dLcF, gN, gTu, gCn, gNl, gP0, gP1, gII, gIIc, gAdd, gNeg, gIx, gEq, gNe, gIs, gIsNot, gIn, gNotIn, gSl, oNone, oSome, gMt, gIndex, cTuple, cList, cI1, cI2, cInt, cLen, cMax, cMin, cMaxT, cMinT, dAug, cAll, cAny, cRepr, cSqrt, cIsi, tyN, isNon, kb_tt, kb_ii, kb_ib, kb_bi, kb_bb, kb_it, kb_bt, kb_nt, kb_ni, kb_lt, kb_li, kb_ti, kb_si, kb_st, kb_ss, rd, dTru, dRgN, dEnum, gMulT, gDivN, gEqF, dCallV, spOf, atD, ordD, dSq, dZip, zipD_map, ivD, dRg1, dRg2, dLc, dYes, dLcGo, dGen, dGenGo, wipeD, boolsOf, intsOf, maxL, minL, noL, noLs, Option.map_some, Option.bind_some, List.all_cons, List.all_nil, List.any_cons, List.any_nil, id_eq, List.set_cons_zero, List.set_cons_succ, List.getElem?_cons_zero, List.getElem?_cons_succ, List.getElem?_nil, List.getD_cons_zero, List.getD_cons_succ, decide_eq_true_eq, decide_eq_false_iff_not, Bool.not_eq_true', Bool.not_true, Bool.not_false, Bool.and_true, Bool.true_and, Bool.and_false, Bool.false_and, Bool.false_eq_true, if_true, if_false, reduceIte, ite_true, ite_false, true_and, and_true, reduceCtorEq, Int.toNat_zero, Int.toNat_one, Int.cast_ofNat_Int, Int.reduceLT, Int.reduceLE, Int.reduceNeg, Int.reduceToNat, Int.reducePow, Int.reduceMul, Int.reduceAdd, Int.reduceSub, decide_true, decide_false, sp__check_boxes, sp_grain_hull]
    exact hQ
  · exact h
def sp_box_meet : SpD :=
  fun ds R => ∃ b o, ds = [.tup (b.map ivD), .tup (o.map ivD)] ∧ Bx b ∧ Bx o ∧ b.length = o.length ∧ R (meetD b o)
set_option maxHeartbeats 0 in
theorem ok_box_meet (T : Txt K mg) (D0 : Dfn K mg "box_meet" "box_meet" s_box_meet ["box", "other"] [(["other", "box"], 0, [1, 0])]) (C__check_boxes : Cal P w K mg base tabs "_check_boxes" 6 2 ["box", "other"] [] sp__check_boxes) (C_grain_meet : Cal P w K mg base tabs "grain_meet" 1 2 ["one", "other"] [] sp_grain_meet) : Cal P w K mg base tabs "box_meet" 7 2 ["box", "other"] [(["other", "box"], 0, [1, 0])] sp_box_meet := by
  refine cal_of D0 sc_box_meet fun f cdv A outer s H E p ht hg hk hr => ⟨_, (pdss_cons (pds_expr (pdcC (C__check_boxes.cal ht) hg hr (pda_cons (pd_var 0) (pda_cons (pd_var 1) pda_nil))))
      (pdss_cons (pds_setLc (i := 2) (own := [("one", 3), ("two", 4)]) (t := (L2.gTup K 2 (L2.gCons (L2.gName 3) (L2.gCons (L2.gName 4) L2.gNil)))) rfl sc_box_meet.nd rfl rfl (pdi_zip T.b_zip (pda_cons (pd_var 0) (pda_cons (pd_var 1) pda_nil))) (show blkC ["box", "other", "meets", "one", "two"] (defScope s_box_meet) _ _ = true by decide +kernel) (fun _ _ _ _ _ => (pgw_tup (n := 2) rfl (pgsw_cons (pgw_name (i := 3) (vs := [3, 4]) sc_box_meet.nd rfl (Or.inl rfl)) (pgsw_cons (pgw_name (i := 4) (vs := [3, 4]) sc_box_meet.nd rfl (Or.inl rfl)) pgsw_nil)))) (fun _ _ _ _ _ => (pdcC (C_grain_meet.cal ht) hg hr (pda_cons (pd_var 3) (pda_cons (pd_var 4) pda_nil)))) (sh := s))
      (pdss_cons (pds_if (pdt_cmp (opd_in hr.u65) pd_non (pd_var 2)) (pdss_one (pds_ret pd_non)) pdss_nil)
      (pdss_one (pds_ret (pd_callTy cd_tuple rfl T.b_tuple PyProof.Rows.boot_tuple (pda_cons (pd_var 2) pda_nil))))))), ?_⟩
  intro ds R hl h; unfold sp_box_meet at h
  clear hl hg hr hk ht
  obtain ⟨b, o, rfl, hb, ho, hl, h⟩ := h
  have := hb.few
  simp (implicitDefEqProofs := false) (maxSteps := 3000000) only [startD, List.map_cons, List.map_nil, List.length_cons, List.length_nil, List.replicate, List.cons_append, List.nil_append, Nat.reduceAdd, Nat.reduceSub, Nat.zero_add, dSeq, dIfS, dOr, dAnd, dNot, dTst, dOp, dUn, dVar, dC, dB, dBK, dCons, dNil, dTup, dLst, dRet, dRetN, dNext, dNever, dAsg, dPar, dPar3, dIf, dAndV, dOrV, dNotV, dCh, dCt, cLast, cLink, tLast, tLink, dDrop, dFor, dBrk, dCnt, dOwn, dApp, dExt, dFree, gPutO, dIxO, dLend, dLendT, dLcF, gN, gTu, gCn, gNl, gP0, gP1, gII, gIIc, gAdd, gNeg, gIx, gEq, gNe, gIs, gIsNot, gIn, gNotIn, gSl, oNone, oSome, gMt, gIndex, cTuple, cList, cI1, cI2, cInt, cLen, cMax, cMin, cMaxT, cMinT, dAug, cAll, cAny, cRepr, cSqrt, cIsi, tyN, isNon, kb_tt, kb_ii, kb_ib, kb_bi, kb_bb, kb_it, kb_bt, kb_nt, kb_ni, kb_lt, kb_li, kb_ti, kb_si, kb_st, kb_ss, rd, dTru, dRgN, dEnum, gMulT, gDivN, gEqF, dCallV, spOf, atD, ordD, dSq, dZip, zipD_map, ivD, dRg1, dRg2, dLc, dYes, dLcGo, dGen, dGenGo, wipeD, boolsOf, intsOf, maxL, minL, noL, noLs, Option.map_some, Option.bind_some, List.all_cons, List.all_nil, List.any_cons, List.any_nil, id_eq, List.set_cons_zero, List.set_cons_succ, List.getElem?_cons_zero, List.getElem?_cons_succ, List.getElem?_nil, List.getD_cons_zero, List.getD_cons_succ, decide_eq_true_eq, decide_eq_false_iff_not, Bool.not_eq_true', Bool.not_true, Bool.not_false, Bool.and_true, Bool.true_and, Bool.and_false, Bool.false_and, Bool.false_eq_true, if_true, if_false, reduceIte, ite_true, ite_false, true_and, and_true, reduceCtorEq, Int.toNat_zero, Int.toNat_one, Int.cast_ofNat_Int, Int.reduceLT, Int.reduceLE, Int.reduceNeg, Int.reduceToNat, Int.reducePow, Int.reduceMul, Int.reduceAdd, Int.reduceSub, decide_true, decide_false, sp__check_boxes, sp_grain_meet]
  refine ⟨b, o, rfl, hb, ho, hl, ?_⟩
  refine ⟨lenOk_zip (by omega), lc_map _ mtD _ _ (fun q hq Q hQ => ?_) ?_⟩
  · simp (implicitDefEqProofs := false) (maxSteps := 3000000) only [startD, List.map_cons, List.map_nil, List.length_cons, List.length_nil, List.replicate, List.cons_append, List.nil_append, Nat.reduceAdd, Nat.reduceSub, Nat.zero_add, dSeq, dIfS, dOr, dAnd, dNot, dTst, dOp, dUn, dVar, dC, dB, dBK, dCons, dNil, dTup, dLst, dRet, dRetN, dNext, dNever, dAsg, dPar, dPar3, dIf, dAndV, dOrV, dNotV, dCh, dCt, cLast, cLink, tLast, tLink, dDrop, dFor, dBrk, dCnt, dOwn, dApp, dExt, dFree, gPutO, dIxO, dLend, dLendT, dLcF, gN, gTu, gCn, gNl, gP0, gP1, gII, gIIc, gAdd, gNeg, gIx, gEq, gNe, gIs, gIsNot, gIn, gNotIn, gSl, oNone, oSome, gMt, gIndex, cTuple, cList, cI1, cI2, cInt, cLen, cMax, cMin, cMaxT, cMinT, dAug, cAll, cAny, cRepr, cSqrt, cIsi, tyN, isNon, kb_tt, kb_ii, kb_ib, kb_bi, kb_bb, kb_it, kb_bt, kb_nt, kb_ni, kb_lt, kb_li, kb_ti, kb_si, kb_st, kb_ss, rd, dTru, dRgN, dEnum, gMulT, gDivN, gEqF, dCallV, spOf, atD, ordD, dSq, dZip, zipD_map, ivD, dRg1, dRg2, dLc, dYes, dLcGo, dGen, dGenGo, wipeD, boolsOf, intsOf, maxL, minL, noL, noLs, Option.map_some, Option.bind_some, List.all_cons, List.all_nil, List.any_cons, List.any_nil, id_eq, List.set_cons_zero, List.set_cons_succ, List.getElem?_cons_zero, List.getElem?_cons_succ, List.getElem?_nil, List.getD_cons_zero, List.getD_cons_succ, decide_eq_true_eq, decide_eq_false_iff_not, Bool.not_eq_true', Bool.not_true, Bool.not_false, Bool.and_true, Bool.true_and, Bool.and_false, Bool.false_and, Bool.false_eq_true, if_true, if_false, reduceIte, ite_true, ite_false, true_and, and_true, reduceCtorEq, Int.toNat_zero, Int.toNat_one, Int.cast_ofNat_Int, Int.reduceLT, Int.reduceLE, Int.reduceNeg, Int.reduceToNat, Int.reducePow, Int.reduceMul, Int.reduceAdd, Int.reduceSub, decide_true, decide_false, sp__check_boxes, sp_grain_meet]
    exact hQ
  · simp only [List.nil_append]
    have sh : ∀ q ∈ b.zip o, shp 59 (mtD q) = true := fun q _ => by
      unfold mtD
      split <;> rfl
    refine ⟨⟨rfl, shps_map sh⟩, ?_⟩
    rw [List.any_map]
    have e : ((b.zip o).any ((fun z => PyData.eqv (toP z) (toP D.non)) ∘ mtD)) = !((b.zip o).all fun q => decide (max q.1.1 q.2.1 ≤ min q.1.2 q.2.2)) := by
      rw [List.not_all_eq_any_not]
      congr 1
      funext q
      show PyData.eqv (toP (mtD q)) PyData.none = _
      unfold mtD
      split
      · rename_i z
        rw [decide_eq_true z]
        rfl
      · rename_i z
        rw [decide_eq_false z]
        rfl
    rw [e]
    unfold meetD at h
    by_cases c : ((b.zip o).all fun q => decide (max q.1.1 q.2.1 ≤ min q.1.2 q.2.2)) = true
    · rw [if_pos c] at h
      rw [c, Bool.not_true, if_neg Bool.false_ne_true]
      have e2 : (b.zip o).map mtD = (b.zip o).map fun q => ivD (max q.1.1 q.2.1, min q.1.2 q.2.2) := by
        refine List.map_congr_left fun q hq => ?_
        unfold mtD
        rw [if_pos (of_decide_eq_true (List.all_eq_true.mp c q hq))]
      rw [e2]
      exact h
    · rw [if_neg c] at h
      rw [Bool.eq_false_iff.mpr c, Bool.not_false, if_pos rfl]
      exact h
def sp__widths : SpD :=
  fun ds R => ∃ b, ds = [.tup (b.map ivD)] ∧ Bx b ∧ R (.lst (b.map fun q => .int (q.2 - q.1)))
set_option maxHeartbeats 0 in
theorem ok__widths (T : Txt K mg) (D0 : Dfn K mg "_widths" "_widths" s__widths ["box"] [])  : Cal P w K mg base tabs "_widths" 1 1 ["box"] [] sp__widths := by
  refine cal_of D0 sc__widths fun f cdv A outer s H E p ht hg hk hr => ⟨_, (pdss_one (pds_ret (pd_lc (own := [("low", 1), ("high", 2)]) (t := (L2.gTup K 2 (L2.gCons (L2.gName 1) (L2.gCons (L2.gName 2) L2.gNil)))) rfl sc__widths.nd (pdi_sq (pd_var 0)) (show blkC ["box", "low", "high"] (defScope s__widths) _ _ = true by decide +kernel) (fun _ _ _ _ _ => (pgw_tup (n := 2) rfl (pgsw_cons (pgw_name (i := 1) (vs := [1, 2]) sc__widths.nd rfl (Or.inl rfl)) (pgsw_cons (pgw_name (i := 2) (vs := [1, 2]) sc__widths.nd rfl (Or.inl rfl)) pgsw_nil)))) (fun _ _ _ _ _ => (pd_bin opd_sub (pd_var 2) (pd_var 1))) (sh := s)))), ?_⟩
  intro ds R hl h; unfold sp__widths at h
  clear hl hg hr hk ht
  obtain ⟨b, rfl, hb, h⟩ := h
  have := hb.few
  simp (implicitDefEqProofs := false) (maxSteps := 3000000) only [startD, List.map_cons, List.map_nil, List.length_cons, List.length_nil, List.replicate, List.cons_append, List.nil_append, Nat.reduceAdd, Nat.reduceSub, Nat.zero_add, dSeq, dIfS, dOr, dAnd, dNot, dTst, dOp, dUn, dVar, dC, dB, dBK, dCons, dNil, dTup, dLst, dRet, dRetN, dNext, dNever, dAsg, dPar, dPar3, dIf, dAndV, dOrV, dNotV, dCh, dCt, cLast, cLink, tLast, tLink, dDrop, dFor, dBrk, dCnt, dOwn, dApp, dExt, dFree, gPutO, dIxO, dLend, dLendT, dLcF, gN, gTu, gCn, gNl, gP0, gP1, gII, gIIc, gAdd, gNeg, gIx, gEq, gNe, gIs, gIsNot, gIn, gNotIn, gSl, oNone, oSome, gMt, gIndex, cTuple, cList, cI1, cI2, cInt, cLen, cMax, cMin, cMaxT, cMinT, dAug, cAll, cAny, cRepr, cSqrt, cIsi, tyN, isNon, kb_tt, kb_ii, kb_ib, kb_bi, kb_bb, kb_it, kb_bt, kb_nt, kb_ni, kb_lt, kb_li, kb_ti, kb_si, kb_st, kb_ss, rd, dTru, dRgN, dEnum, gMulT, gDivN, gEqF, dCallV, spOf, atD, ordD, dSq, dZip, zipD_map, ivD, dRg1, dRg2, dLc, dYes, dLcGo, dGen, dGenGo, wipeD, boolsOf, intsOf, maxL, minL, noL, noLs, Option.map_some, Option.bind_some, List.all_cons, List.all_nil, List.any_cons, List.any_nil, id_eq, List.set_cons_zero, List.set_cons_succ, List.getElem?_cons_zero, List.getElem?_cons_succ, List.getElem?_nil, List.getD_cons_zero, List.getD_cons_succ, decide_eq_true_eq, decide_eq_false_iff_not, Bool.not_eq_true', Bool.not_true, Bool.not_false, Bool.and_true, Bool.true_and, Bool.and_false, Bool.false_and, Bool.false_eq_true, if_true, if_false, reduceIte, ite_true, ite_false, true_and, and_true, reduceCtorEq, Int.toNat_zero, Int.toNat_one, Int.cast_ofNat_Int, Int.reduceLT, Int.reduceLE, Int.reduceNeg, Int.reduceToNat, Int.reducePow, Int.reduceMul, Int.reduceAdd, Int.reduceSub, decide_true, decide_false]
  refine ⟨lenOk_map (by omega), lc_map _ (fun q => .int (q.2 - q.1)) _ _ (fun q hq Q hQ => ?_) ?_⟩
  · simp (implicitDefEqProofs := false) (maxSteps := 3000000) only [startD, List.map_cons, List.map_nil, List.length_cons, List.length_nil, List.replicate, List.cons_append, List.nil_append, Nat.reduceAdd, Nat.reduceSub, Nat.zero_add, dSeq, dIfS, dOr, dAnd, dNot, dTst, dOp, dUn, dVar, dC, dB, dBK, dCons, dNil, dTup, dLst, dRet, dRetN, dNext, dNever, dAsg, dPar, dPar3, dIf, dAndV, dOrV, dNotV, dCh, dCt, cLast, cLink, tLast, tLink, dDrop, dFor, dBrk, dCnt, dOwn, dApp, dExt, dFree, gPutO, dIxO, dLend, dLendT, dLcF, gN, gTu, gCn, gNl, gP0, gP1, gII, gIIc, gAdd, gNeg, gIx, gEq, gNe, gIs, gIsNot, gIn, gNotIn, gSl, oNone, oSome, gMt, gIndex, cTuple, cList, cI1, cI2, cInt, cLen, cMax, cMin, cMaxT, cMinT, dAug, cAll, cAny, cRepr, cSqrt, cIsi, tyN, isNon, kb_tt, kb_ii, kb_ib, kb_bi, kb_bb, kb_it, kb_bt, kb_nt, kb_ni, kb_lt, kb_li, kb_ti, kb_si, kb_st, kb_ss, rd, dTru, dRgN, dEnum, gMulT, gDivN, gEqF, dCallV, spOf, atD, ordD, dSq, dZip, zipD_map, ivD, dRg1, dRg2, dLc, dYes, dLcGo, dGen, dGenGo, wipeD, boolsOf, intsOf, maxL, minL, noL, noLs, Option.map_some, Option.bind_some, List.all_cons, List.all_nil, List.any_cons, List.any_nil, id_eq, List.set_cons_zero, List.set_cons_succ, List.getElem?_cons_zero, List.getElem?_cons_succ, List.getElem?_nil, List.getD_cons_zero, List.getD_cons_succ, decide_eq_true_eq, decide_eq_false_iff_not, Bool.not_eq_true', Bool.not_true, Bool.not_false, Bool.and_true, Bool.true_and, Bool.and_false, Bool.false_and, Bool.false_eq_true, if_true, if_false, reduceIte, ite_true, ite_false, true_and, and_true, reduceCtorEq, Int.toNat_zero, Int.toNat_one, Int.cast_ofNat_Int, Int.reduceLT, Int.reduceLE, Int.reduceNeg, Int.reduceToNat, Int.reducePow, Int.reduceMul, Int.reduceAdd, Int.reduceSub, decide_true, decide_false]
    exact hQ
  · exact h
def sp_box_width : SpD :=
  fun ds R => ∃ q b, ds = [.tup ((q :: b).map ivD)] ∧ Bx (q :: b) ∧ R (.int (maxL (q.2 - q.1) (b.map fun q => q.2 - q.1)))
set_option maxHeartbeats 0 in
theorem ok_box_width (T : Txt K mg) (D0 : Dfn K mg "box_width" "box_width" s_box_width ["box"] []) (C_check_box : Cal P w K mg base tabs "check_box" 5 1 ["box"] [] sp_check_box) (C__widths : Cal P w K mg base tabs "_widths" 1 1 ["box"] [] sp__widths) : Cal P w K mg base tabs "box_width" 6 1 ["box"] [] sp_box_width := by
  refine cal_of D0 sc_box_width fun f cdv A outer s H E p ht hg hk hr => ⟨_, (pdss_cons (pds_expr (pdcC (C_check_box.cal ht) hg hr (pda_cons (pd_var 0) pda_nil)))
      (pdss_one (pds_ret (pd_callB (cd_maxT rfl hr.u65) rfl T.b_max PyProof.Rows.boot_max (pda_cons (pdcC (C__widths.cal ht) hg hr (pda_cons (pd_var 0) pda_nil)) pda_nil))))), ?_⟩
  intro ds R hl h; unfold sp_box_width at h
  clear hl hg hr hk ht
  obtain ⟨q, b, rfl, hb, h⟩ := h
  simp (implicitDefEqProofs := false) (maxSteps := 3000000) only [startD, List.map_cons, List.map_nil, List.length_cons, List.length_nil, List.replicate, List.cons_append, List.nil_append, Nat.reduceAdd, Nat.reduceSub, Nat.zero_add, dSeq, dIfS, dOr, dAnd, dNot, dTst, dOp, dUn, dVar, dC, dB, dBK, dCons, dNil, dTup, dLst, dRet, dRetN, dNext, dNever, dAsg, dPar, dPar3, dIf, dAndV, dOrV, dNotV, dCh, dCt, cLast, cLink, tLast, tLink, dDrop, dFor, dBrk, dCnt, dOwn, dApp, dExt, dFree, gPutO, dIxO, dLend, dLendT, dLcF, gN, gTu, gCn, gNl, gP0, gP1, gII, gIIc, gAdd, gNeg, gIx, gEq, gNe, gIs, gIsNot, gIn, gNotIn, gSl, oNone, oSome, gMt, gIndex, cTuple, cList, cI1, cI2, cInt, cLen, cMax, cMin, cMaxT, cMinT, dAug, cAll, cAny, cRepr, cSqrt, cIsi, tyN, isNon, kb_tt, kb_ii, kb_ib, kb_bi, kb_bb, kb_it, kb_bt, kb_nt, kb_ni, kb_lt, kb_li, kb_ti, kb_si, kb_st, kb_ss, rd, dTru, dRgN, dEnum, gMulT, gDivN, gEqF, dCallV, spOf, atD, ordD, dSq, dZip, zipD_map, ivD, dRg1, dRg2, dLc, dYes, dLcGo, dGen, dGenGo, wipeD, boolsOf, intsOf, maxL, minL, noL, noLs, Option.map_some, Option.bind_some, List.all_cons, List.all_nil, List.any_cons, List.any_nil, id_eq, List.set_cons_zero, List.set_cons_succ, List.getElem?_cons_zero, List.getElem?_cons_succ, List.getElem?_nil, List.getD_cons_zero, List.getD_cons_succ, decide_eq_true_eq, decide_eq_false_iff_not, Bool.not_eq_true', Bool.not_true, Bool.not_false, Bool.and_true, Bool.true_and, Bool.and_false, Bool.false_and, Bool.false_eq_true, if_true, if_false, reduceIte, ite_true, ite_false, true_and, and_true, reduceCtorEq, Int.toNat_zero, Int.toNat_one, Int.cast_ofNat_Int, Int.reduceLT, Int.reduceLE, Int.reduceNeg, Int.reduceToNat, Int.reducePow, Int.reduceMul, Int.reduceAdd, Int.reduceSub, decide_true, decide_false, sp_check_box, sp__widths]
  refine ⟨q :: b, rfl, hb, q :: b, rfl, hb, ?_⟩
  rw [intsOf_map]
  exact h
def sp_widest : SpD :=
  fun ds R => ∃ q b, ds = [.tup ((q :: b).map ivD)] ∧ Bx (q :: b) ∧ R (.int (firstI (maxL (q.2 - q.1) (b.map fun q => q.2 - q.1)) ((q :: b).map fun q => q.2 - q.1)))
set_option maxHeartbeats 0 in
theorem ok_widest (T : Txt K mg) (D0 : Dfn K mg "widest" "widest" s_widest ["box"] [(["box"], 0, [0])]) (C_check_box : Cal P w K mg base tabs "check_box" 5 1 ["box"] [] sp_check_box) (C__widths : Cal P w K mg base tabs "_widths" 1 1 ["box"] [] sp__widths) : Cal P w K mg base tabs "widest" 6 1 ["box"] [(["box"], 0, [0])] sp_widest := by
  refine cal_of D0 sc_widest fun f cdv A outer s H E p ht hg hk hr => ⟨_, (pdss_cons (pds_expr (pdcC (C_check_box.cal ht) hg hr (pda_cons (pd_var 0) pda_nil)))
      (pdss_cons (pds_set (i := 1) sc_widest.nd rfl (Or.inl rfl) (pdcC (C__widths.cal ht) hg hr (pda_cons (pd_var 0) pda_nil)))
      (pdss_one (pds_ret (pd_index (pd_var 1) (pda_cons (pd_callB (cd_maxT rfl hr.u65) rfl T.b_max PyProof.Rows.boot_max (pda_cons (pd_var 1) pda_nil)) pda_nil)))))), ?_⟩
  intro ds R hl h; unfold sp_widest at h
  clear hl hg hr hk ht
  obtain ⟨q, b, rfl, hb, h⟩ := h
  simp (implicitDefEqProofs := false) (maxSteps := 3000000) only [startD, List.map_cons, List.map_nil, List.length_cons, List.length_nil, List.replicate, List.cons_append, List.nil_append, Nat.reduceAdd, Nat.reduceSub, Nat.zero_add, dSeq, dIfS, dOr, dAnd, dNot, dTst, dOp, dUn, dVar, dC, dB, dBK, dCons, dNil, dTup, dLst, dRet, dRetN, dNext, dNever, dAsg, dPar, dPar3, dIf, dAndV, dOrV, dNotV, dCh, dCt, cLast, cLink, tLast, tLink, dDrop, dFor, dBrk, dCnt, dOwn, dApp, dExt, dFree, gPutO, dIxO, dLend, dLendT, dLcF, gN, gTu, gCn, gNl, gP0, gP1, gII, gIIc, gAdd, gNeg, gIx, gEq, gNe, gIs, gIsNot, gIn, gNotIn, gSl, oNone, oSome, gMt, gIndex, cTuple, cList, cI1, cI2, cInt, cLen, cMax, cMin, cMaxT, cMinT, dAug, cAll, cAny, cRepr, cSqrt, cIsi, tyN, isNon, kb_tt, kb_ii, kb_ib, kb_bi, kb_bb, kb_it, kb_bt, kb_nt, kb_ni, kb_lt, kb_li, kb_ti, kb_si, kb_st, kb_ss, rd, dTru, dRgN, dEnum, gMulT, gDivN, gEqF, dCallV, spOf, atD, ordD, dSq, dZip, zipD_map, ivD, dRg1, dRg2, dLc, dYes, dLcGo, dGen, dGenGo, wipeD, boolsOf, intsOf, maxL, minL, noL, noLs, Option.map_some, Option.bind_some, List.all_cons, List.all_nil, List.any_cons, List.any_nil, id_eq, List.set_cons_zero, List.set_cons_succ, List.getElem?_cons_zero, List.getElem?_cons_succ, List.getElem?_nil, List.getD_cons_zero, List.getD_cons_succ, decide_eq_true_eq, decide_eq_false_iff_not, Bool.not_eq_true', Bool.not_true, Bool.not_false, Bool.and_true, Bool.true_and, Bool.and_false, Bool.false_and, Bool.false_eq_true, if_true, if_false, reduceIte, ite_true, ite_false, true_and, and_true, reduceCtorEq, Int.toNat_zero, Int.toNat_one, Int.cast_ofNat_Int, Int.reduceLT, Int.reduceLE, Int.reduceNeg, Int.reduceToNat, Int.reducePow, Int.reduceMul, Int.reduceAdd, Int.reduceSub, decide_true, decide_false, sp_check_box, sp__widths]
  refine ⟨q :: b, rfl, hb, q :: b, rfl, hb, ?_⟩
  rw [intsOf_map]
  simp only []
  refine ⟨?_, h⟩
  have := maxL_mem (b.map fun q => q.2 - q.1) (q.2 - q.1)
  rw [List.map_cons]
  rcases this with e | e
  · rw [e]; exact List.mem_cons_self
  · exact List.mem_cons_of_mem _ e
def sp_with_interval : SpD :=
  fun ds R => ∃ (b : List (Int × Int)) (i : Int) (x : Int × Int), ds = [.tup (b.map ivD), .int i, ivD x] ∧ b.length ≤ 8 ∧ 0 ≤ i ∧ i.toNat < b.length ∧ R (.tup ((b.take i.toNat ++ [x] ++ b.drop (i + 1).toNat).map ivD))
set_option maxHeartbeats 0 in
theorem ok_with_interval (T : Txt K mg) (D0 : Dfn K mg "with_interval" "with_interval" s_with_interval ["box", "position", "interval"] [])  : Cal P w K mg base tabs "with_interval" 1 3 ["box", "position", "interval"] [] sp_with_interval := by
  refine cal_of D0 sc_with_interval fun f cdv A outer s H E p ht hg hk hr => ⟨_, (pdss_one (pds_ret (pd_bin opd_add (pd_bin opd_add (pd_sl (pd_var 0) pdo_none (pdo_some (pd_var 1))) (pd_tup (pda_cons (pd_var 2) pda_nil))) (pd_sl (pd_var 0) (pdo_some (pd_bin opd_add (pd_var 1) pd_int)) pdo_none)))), ?_⟩
  intro ds R hl h; unfold sp_with_interval at h
  clear hl hg hr hk ht
  obtain ⟨b, i, x, rfl, hb, h0, hl, h⟩ := h
  simp (implicitDefEqProofs := false) (maxSteps := 3000000) only [startD, List.map_cons, List.map_nil, List.length_cons, List.length_nil, List.replicate, List.cons_append, List.nil_append, Nat.reduceAdd, Nat.reduceSub, Nat.zero_add, dSeq, dIfS, dOr, dAnd, dNot, dTst, dOp, dUn, dVar, dC, dB, dBK, dCons, dNil, dTup, dLst, dRet, dRetN, dNext, dNever, dAsg, dPar, dPar3, dIf, dAndV, dOrV, dNotV, dCh, dCt, cLast, cLink, tLast, tLink, dDrop, dFor, dBrk, dCnt, dOwn, dApp, dExt, dFree, gPutO, dIxO, dLend, dLendT, dLcF, gN, gTu, gCn, gNl, gP0, gP1, gII, gIIc, gAdd, gNeg, gIx, gEq, gNe, gIs, gIsNot, gIn, gNotIn, gSl, oNone, oSome, gMt, gIndex, cTuple, cList, cI1, cI2, cInt, cLen, cMax, cMin, cMaxT, cMinT, dAug, cAll, cAny, cRepr, cSqrt, cIsi, tyN, isNon, kb_tt, kb_ii, kb_ib, kb_bi, kb_bb, kb_it, kb_bt, kb_nt, kb_ni, kb_lt, kb_li, kb_ti, kb_si, kb_st, kb_ss, rd, dTru, dRgN, dEnum, gMulT, gDivN, gEqF, dCallV, spOf, atD, ordD, dSq, dZip, zipD_map, ivD, dRg1, dRg2, dLc, dYes, dLcGo, dGen, dGenGo, wipeD, boolsOf, intsOf, maxL, minL, noL, noLs, Option.map_some, Option.bind_some, List.all_cons, List.all_nil, List.any_cons, List.any_nil, id_eq, List.set_cons_zero, List.set_cons_succ, List.getElem?_cons_zero, List.getElem?_cons_succ, List.getElem?_nil, List.getD_cons_zero, List.getD_cons_succ, decide_eq_true_eq, decide_eq_false_iff_not, Bool.not_eq_true', Bool.not_true, Bool.not_false, Bool.and_true, Bool.true_and, Bool.and_false, Bool.false_and, Bool.false_eq_true, if_true, if_false, reduceIte, ite_true, ite_false, true_and, and_true, reduceCtorEq, Int.toNat_zero, Int.toNat_one, Int.cast_ofNat_Int, Int.reduceLT, Int.reduceLE, Int.reduceNeg, Int.reduceToNat, Int.reducePow, Int.reduceMul, Int.reduceAdd, Int.reduceSub, decide_true, decide_false]
  rw [cut_lo h0 (by simpa using Nat.le_of_lt hl), cut_hi (by omega) (by simp; omega)]
  have len : ∀ x : List D, x.length = 1 → (List.take i.toNat (b.map ivD)).length + x.length ≤ 1000000 ∧ (List.take i.toNat (b.map ivD) ++ x).length + (List.drop (i + 1).toNat (b.map ivD)).length ≤ 1000000 := fun x hx => by
    simp only [List.length_take, List.length_drop, List.length_append, List.length_map, hx]
    omega
  refine ⟨(len [D.int 0] rfl).1, (len [ivD x] rfl).2, ?_⟩
  simp only [List.map_append, List.map_take, List.map_drop] at h
  exact h
def sp_box_halves : SpD :=
  fun ds R => ∃ b i q, ds = [.tup (b.map ivD), .int i] ∧ Bx b ∧ 0 ≤ i ∧ b[i.toNat]? = some q ∧
    R (.tup [.tup ((b.take i.toNat ++ [(q.1, (q.1 + q.2) / 2)] ++ b.drop (i + 1).toNat).map ivD), .tup ((b.take i.toNat ++ [((q.1 + q.2) / 2, q.2)] ++ b.drop (i + 1).toNat).map ivD)])
set_option maxHeartbeats 0 in
theorem ok_box_halves (T : Txt K mg) (D0 : Dfn K mg "box_halves" "box_halves" s_box_halves ["box", "position"] []) (C_middle_of : Cal P w K mg base tabs "middle_of" 1 1 ["interval"] [] sp_middle_of) (C_with_interval : Cal P w K mg base tabs "with_interval" 1 3 ["box", "position", "interval"] [] sp_with_interval) : Cal P w K mg base tabs "box_halves" 2 2 ["box", "position"] [] sp_box_halves := by
  refine cal_of D0 sc_box_halves fun f cdv A outer s H E p ht hg hk hr => ⟨_, (pdss_cons (pds_asg (pd_ix (pd_var 0) (pd_var 1)) (pdg_tup (n := 2) rfl (pdgs_cons (pdg_name (i := 2) sc_box_halves.nd rfl (Or.inl rfl)) (pdgs_cons (pdg_name (i := 3) sc_box_halves.nd rfl (Or.inl rfl)) pdgs_nil))))
      (pdss_cons (pds_set (i := 4) sc_box_halves.nd rfl (Or.inl rfl) (pdcC (C_middle_of.cal ht) hg hr (pda_cons (pd_ix (pd_var 0) (pd_var 1)) pda_nil)))
      (pdss_one (pds_ret (pd_tup (pda_cons (pdcC (C_with_interval.cal ht) hg hr (pda_cons (pd_var 0) (pda_cons (pd_var 1) (pda_cons (pd_tup (pda_cons (pd_var 2) (pda_cons (pd_var 4) pda_nil))) pda_nil)))) (pda_cons (pdcC (C_with_interval.cal ht) hg hr (pda_cons (pd_var 0) (pda_cons (pd_var 1) (pda_cons (pd_tup (pda_cons (pd_var 4) (pda_cons (pd_var 3) pda_nil))) pda_nil)))) pda_nil))))))), ?_⟩
  intro ds R hl h; unfold sp_box_halves at h
  clear hl hg hr hk ht
  obtain ⟨b, i, q, rfl, hb, h0, hq, h⟩ := h
  have hl := (List.getElem?_eq_some_iff.mp hq).1
  have := hb.few
  have ea := nat_get (c := ivD) h0 hq
  simp only [atD] at ea
  simp (implicitDefEqProofs := false) (maxSteps := 3000000) only [startD, List.map_cons, List.map_nil, List.length_cons, List.length_nil, List.replicate, List.cons_append, List.nil_append, Nat.reduceAdd, Nat.reduceSub, Nat.zero_add, dSeq, dIfS, dOr, dAnd, dNot, dTst, dOp, dUn, dVar, dC, dB, dBK, dCons, dNil, dTup, dLst, dRet, dRetN, dNext, dNever, dAsg, dPar, dPar3, dIf, dAndV, dOrV, dNotV, dCh, dCt, cLast, cLink, tLast, tLink, dDrop, dFor, dBrk, dCnt, dOwn, dApp, dExt, dFree, gPutO, dIxO, dLend, dLendT, dLcF, gN, gTu, gCn, gNl, gP0, gP1, gII, gIIc, gAdd, gNeg, gIx, gEq, gNe, gIs, gIsNot, gIn, gNotIn, gSl, oNone, oSome, gMt, gIndex, cTuple, cList, cI1, cI2, cInt, cLen, cMax, cMin, cMaxT, cMinT, dAug, cAll, cAny, cRepr, cSqrt, cIsi, tyN, isNon, kb_tt, kb_ii, kb_ib, kb_bi, kb_bb, kb_it, kb_bt, kb_nt, kb_ni, kb_lt, kb_li, kb_ti, kb_si, kb_st, kb_ss, rd, dTru, dRgN, dEnum, gMulT, gDivN, gEqF, dCallV, spOf, atD, ordD, dSq, dZip, zipD_map, ivD, dRg1, dRg2, dLc, dYes, dLcGo, dGen, dGenGo, wipeD, boolsOf, intsOf, maxL, minL, noL, noLs, Option.map_some, Option.bind_some, List.all_cons, List.all_nil, List.any_cons, List.any_nil, id_eq, List.set_cons_zero, List.set_cons_succ, List.getElem?_cons_zero, List.getElem?_cons_succ, List.getElem?_nil, List.getD_cons_zero, List.getD_cons_succ, decide_eq_true_eq, decide_eq_false_iff_not, Bool.not_eq_true', Bool.not_true, Bool.not_false, Bool.and_true, Bool.true_and, Bool.and_false, Bool.false_and, Bool.false_eq_true, if_true, if_false, reduceIte, ite_true, ite_false, true_and, and_true, reduceCtorEq, Int.toNat_zero, Int.toNat_one, Int.cast_ofNat_Int, Int.reduceLT, Int.reduceLE, Int.reduceNeg, Int.reduceToNat, Int.reducePow, Int.reduceMul, Int.reduceAdd, Int.reduceSub, decide_true, decide_false, sp_middle_of, sp_with_interval]
  rw [ea]
  simp only [ivD]
  refine ⟨rfl, ?_⟩
  exact ⟨b, i, (q.1, (q.1 + q.2) / 2), rfl, this, h0, hl, b, i, ((q.1 + q.2) / 2, q.2), rfl, this, h0, hl, h⟩
def sp_split_box : SpD :=
  fun ds R => ∃ b i q, ds = [.tup (b.map ivD), .int i] ∧ Bx b ∧ 0 ≤ i ∧ b[i.toNat]? = some q ∧
    R (.tup [.tup ((b.take i.toNat ++ [(q.1, (q.1 + q.2) / 2)] ++ b.drop (i + 1).toNat).map ivD), .tup ((b.take i.toNat ++ [((q.1 + q.2) / 2, q.2)] ++ b.drop (i + 1).toNat).map ivD)])
set_option maxHeartbeats 0 in
theorem ok_split_box (T : Txt K mg) (D0 : Dfn K mg "split_box" "split_box" s_split_box ["box", "position"] [(["position", "box"], 0, [1, 0])]) (C_check_box : Cal P w K mg base tabs "check_box" 5 1 ["box"] [] sp_check_box) (C_is_from_to : Cal P w K mg base tabs "is_from_to" 2 3 ["value", "least", "most"] [] sp_is_from_to) (C_box_halves : Cal P w K mg base tabs "box_halves" 2 2 ["box", "position"] [] sp_box_halves) : Cal P w K mg base tabs "split_box" 6 2 ["box", "position"] [(["position", "box"], 0, [1, 0])] sp_split_box := by
  refine cal_of D0 sc_split_box fun f cdv A outer s H E p ht hg hk hr => ⟨_, (pdss_cons (pds_expr (pdcC (C_check_box.cal ht) hg hr (pda_cons (pd_var 0) pda_nil)))
      (pdss_cons (pds_if (pdt_not (pdt_val (pdcC (C_is_from_to.cal ht) hg hr (pda_cons (pd_var 1) (pda_cons pd_int (pda_cons (pd_bin opd_sub (pd_callB cd_len rfl T.b_len PySem.boot_len (pda_cons (pd_var 0) pda_nil)) pd_int) pda_nil)))))) (pdss_one pds_never) pdss_nil)
      (pdss_one (pds_ret (pdcC (C_box_halves.cal ht) hg hr (pda_cons (pd_var 0) (pda_cons (pd_var 1) pda_nil))))))), ?_⟩
  intro ds R hl h; unfold sp_split_box at h
  clear hl hg hr hk ht
  obtain ⟨b, i, q, rfl, hb, h0, hq, h⟩ := h
  have hl := (List.getElem?_eq_some_iff.mp hq).1
  simp (implicitDefEqProofs := false) (maxSteps := 3000000) only [startD, List.map_cons, List.map_nil, List.length_cons, List.length_nil, List.replicate, List.cons_append, List.nil_append, Nat.reduceAdd, Nat.reduceSub, Nat.zero_add, dSeq, dIfS, dOr, dAnd, dNot, dTst, dOp, dUn, dVar, dC, dB, dBK, dCons, dNil, dTup, dLst, dRet, dRetN, dNext, dNever, dAsg, dPar, dPar3, dIf, dAndV, dOrV, dNotV, dCh, dCt, cLast, cLink, tLast, tLink, dDrop, dFor, dBrk, dCnt, dOwn, dApp, dExt, dFree, gPutO, dIxO, dLend, dLendT, dLcF, gN, gTu, gCn, gNl, gP0, gP1, gII, gIIc, gAdd, gNeg, gIx, gEq, gNe, gIs, gIsNot, gIn, gNotIn, gSl, oNone, oSome, gMt, gIndex, cTuple, cList, cI1, cI2, cInt, cLen, cMax, cMin, cMaxT, cMinT, dAug, cAll, cAny, cRepr, cSqrt, cIsi, tyN, isNon, kb_tt, kb_ii, kb_ib, kb_bi, kb_bb, kb_it, kb_bt, kb_nt, kb_ni, kb_lt, kb_li, kb_ti, kb_si, kb_st, kb_ss, rd, dTru, dRgN, dEnum, gMulT, gDivN, gEqF, dCallV, spOf, atD, ordD, dSq, dZip, zipD_map, ivD, dRg1, dRg2, dLc, dYes, dLcGo, dGen, dGenGo, wipeD, boolsOf, intsOf, maxL, minL, noL, noLs, Option.map_some, Option.bind_some, List.all_cons, List.all_nil, List.any_cons, List.any_nil, id_eq, List.set_cons_zero, List.set_cons_succ, List.getElem?_cons_zero, List.getElem?_cons_succ, List.getElem?_nil, List.getD_cons_zero, List.getD_cons_succ, decide_eq_true_eq, decide_eq_false_iff_not, Bool.not_eq_true', Bool.not_true, Bool.not_false, Bool.and_true, Bool.true_and, Bool.and_false, Bool.false_and, Bool.false_eq_true, if_true, if_false, reduceIte, ite_true, ite_false, true_and, and_true, reduceCtorEq, Int.toNat_zero, Int.toNat_one, Int.cast_ofNat_Int, Int.reduceLT, Int.reduceLE, Int.reduceNeg, Int.reduceToNat, Int.reducePow, Int.reduceMul, Int.reduceAdd, Int.reduceSub, decide_true, decide_false, sp_check_box, sp_is_from_to, sp_box_halves]
  refine ⟨b, rfl, hb, ?_⟩
  rw [decide_eq_true h0, decide_eq_true (by rw [List.length_map]; omega)]
  refine ifN (by decide) ?_
  exact ⟨b, i, q, rfl, hb, h0, hq, h⟩
def sp_holds_point : SpD :=
  fun ds R => ∃ b o, ds = [.tup (b.map ivD), .tup (o.map ivD)] ∧ Bx b ∧ Pt o ∧ b.length = o.length ∧ R (.bl ((b.zip o).all fun q => decide (q.1.1 * q.2.2 ≤ q.2.1 * 1099511627776) && decide (q.2.1 * 1099511627776 ≤ q.1.2 * q.2.2)))
set_option maxHeartbeats 0 in
theorem ok_holds_point (T : Txt K mg) (D0 : Dfn K mg "holds_point" "holds_point" s_holds_point ["box", "point"] [(["point", "box"], 0, [1, 0])]) (C_check_box : Cal P w K mg base tabs "check_box" 5 1 ["box"] [] sp_check_box) (C_check_point : Cal P w K mg base tabs "check_point" 5 1 ["point"] [] sp_check_point) (C_check_sizes : Cal P w K mg base tabs "check_sizes" 1 2 ["one", "other"] [] sp_check_sizes) (C_has_ratio : Cal P w K mg base tabs "has_ratio" 1 2 ["interval", "ratio"] [] sp_has_ratio) : Cal P w K mg base tabs "holds_point" 6 2 ["box", "point"] [(["point", "box"], 0, [1, 0])] sp_holds_point := by
  refine cal_of D0 sc_holds_point fun f cdv A outer s H E p ht hg hk hr => ⟨_, (pdss_cons (pds_expr (pdcC (C_check_box.cal ht) hg hr (pda_cons (pd_var 0) pda_nil)))
      (pdss_cons (pds_expr (pdcC (C_check_point.cal ht) hg hr (pda_cons (pd_var 1) pda_nil)))
      (pdss_cons (pds_expr (pdcC (C_check_sizes.cal ht) hg hr (pda_cons (pd_var 0) (pda_cons (pd_var 1) pda_nil))))
      (pdss_one (pds_ret (pd_callB (cd_all rfl) rfl T.b_all PyProof.Rows.boot_all (pda_cons (pd_lc (own := [("part", 2), ("ratio", 3)]) (t := (L2.gTup K 2 (L2.gCons (L2.gName 2) (L2.gCons (L2.gName 3) L2.gNil)))) rfl sc_holds_point.nd (pdi_zip T.b_zip (pda_cons (pd_var 0) (pda_cons (pd_var 1) pda_nil))) (show blkC ["box", "point", "part", "ratio"] (defScope s_holds_point) _ _ = true by decide +kernel) (fun _ _ _ _ _ => (pgw_tup (n := 2) rfl (pgsw_cons (pgw_name (i := 2) (vs := [2, 3]) sc_holds_point.nd rfl (Or.inl rfl)) (pgsw_cons (pgw_name (i := 3) (vs := [2, 3]) sc_holds_point.nd rfl (Or.inl rfl)) pgsw_nil)))) (fun _ _ _ _ _ => (pdcC (C_has_ratio.cal ht) hg hr (pda_cons (pd_var 2) (pda_cons (pd_var 3) pda_nil)))) (sh := s)) pda_nil))))))), ?_⟩
  intro ds R hl h; unfold sp_holds_point at h
  clear hl hg hr hk ht
  obtain ⟨b, o, rfl, hb, ho, hl, h⟩ := h
  have := hb.few
  simp (implicitDefEqProofs := false) (maxSteps := 3000000) only [startD, List.map_cons, List.map_nil, List.length_cons, List.length_nil, List.replicate, List.cons_append, List.nil_append, Nat.reduceAdd, Nat.reduceSub, Nat.zero_add, dSeq, dIfS, dOr, dAnd, dNot, dTst, dOp, dUn, dVar, dC, dB, dBK, dCons, dNil, dTup, dLst, dRet, dRetN, dNext, dNever, dAsg, dPar, dPar3, dIf, dAndV, dOrV, dNotV, dCh, dCt, cLast, cLink, tLast, tLink, dDrop, dFor, dBrk, dCnt, dOwn, dApp, dExt, dFree, gPutO, dIxO, dLend, dLendT, dLcF, gN, gTu, gCn, gNl, gP0, gP1, gII, gIIc, gAdd, gNeg, gIx, gEq, gNe, gIs, gIsNot, gIn, gNotIn, gSl, oNone, oSome, gMt, gIndex, cTuple, cList, cI1, cI2, cInt, cLen, cMax, cMin, cMaxT, cMinT, dAug, cAll, cAny, cRepr, cSqrt, cIsi, tyN, isNon, kb_tt, kb_ii, kb_ib, kb_bi, kb_bb, kb_it, kb_bt, kb_nt, kb_ni, kb_lt, kb_li, kb_ti, kb_si, kb_st, kb_ss, rd, dTru, dRgN, dEnum, gMulT, gDivN, gEqF, dCallV, spOf, atD, ordD, dSq, dZip, zipD_map, ivD, dRg1, dRg2, dLc, dYes, dLcGo, dGen, dGenGo, wipeD, boolsOf, intsOf, maxL, minL, noL, noLs, Option.map_some, Option.bind_some, List.all_cons, List.all_nil, List.any_cons, List.any_nil, id_eq, List.set_cons_zero, List.set_cons_succ, List.getElem?_cons_zero, List.getElem?_cons_succ, List.getElem?_nil, List.getD_cons_zero, List.getD_cons_succ, decide_eq_true_eq, decide_eq_false_iff_not, Bool.not_eq_true', Bool.not_true, Bool.not_false, Bool.and_true, Bool.true_and, Bool.and_false, Bool.false_and, Bool.false_eq_true, if_true, if_false, reduceIte, ite_true, ite_false, true_and, and_true, reduceCtorEq, Int.toNat_zero, Int.toNat_one, Int.cast_ofNat_Int, Int.reduceLT, Int.reduceLE, Int.reduceNeg, Int.reduceToNat, Int.reducePow, Int.reduceMul, Int.reduceAdd, Int.reduceSub, decide_true, decide_false, sp_check_box, sp_check_point, sp_check_sizes, sp_has_ratio]
  refine ⟨b, rfl, hb, o, rfl, ho, by simpa using hl, ?_⟩
  refine ⟨lenOk_zip (by omega), lc_map _ (fun q => .bl (decide (q.1.1 * q.2.2 ≤ q.2.1 * 1099511627776) && decide (q.2.1 * 1099511627776 ≤ q.1.2 * q.2.2))) _ _ (fun q hq Q hQ => ?_) ?_⟩
  · have i1 := hb.iv _ (of_zip hq).1
    have i2 := ho.rt _ (of_zip hq).2
    have i3 := i1.lo
    have i4 := i1.hi
    have i5 := i1.le
    have i6 := i2.pos
    have i7 := i2.few
    simp (implicitDefEqProofs := false) (maxSteps := 3000000) only [startD, List.map_cons, List.map_nil, List.length_cons, List.length_nil, List.replicate, List.cons_append, List.nil_append, Nat.reduceAdd, Nat.reduceSub, Nat.zero_add, dSeq, dIfS, dOr, dAnd, dNot, dTst, dOp, dUn, dVar, dC, dB, dBK, dCons, dNil, dTup, dLst, dRet, dRetN, dNext, dNever, dAsg, dPar, dPar3, dIf, dAndV, dOrV, dNotV, dCh, dCt, cLast, cLink, tLast, tLink, dDrop, dFor, dBrk, dCnt, dOwn, dApp, dExt, dFree, gPutO, dIxO, dLend, dLendT, dLcF, gN, gTu, gCn, gNl, gP0, gP1, gII, gIIc, gAdd, gNeg, gIx, gEq, gNe, gIs, gIsNot, gIn, gNotIn, gSl, oNone, oSome, gMt, gIndex, cTuple, cList, cI1, cI2, cInt, cLen, cMax, cMin, cMaxT, cMinT, dAug, cAll, cAny, cRepr, cSqrt, cIsi, tyN, isNon, kb_tt, kb_ii, kb_ib, kb_bi, kb_bb, kb_it, kb_bt, kb_nt, kb_ni, kb_lt, kb_li, kb_ti, kb_si, kb_st, kb_ss, rd, dTru, dRgN, dEnum, gMulT, gDivN, gEqF, dCallV, spOf, atD, ordD, dSq, dZip, zipD_map, ivD, dRg1, dRg2, dLc, dYes, dLcGo, dGen, dGenGo, wipeD, boolsOf, intsOf, maxL, minL, noL, noLs, Option.map_some, Option.bind_some, List.all_cons, List.all_nil, List.any_cons, List.any_nil, id_eq, List.set_cons_zero, List.set_cons_succ, List.getElem?_cons_zero, List.getElem?_cons_succ, List.getElem?_nil, List.getD_cons_zero, List.getD_cons_succ, decide_eq_true_eq, decide_eq_false_iff_not, Bool.not_eq_true', Bool.not_true, Bool.not_false, Bool.and_true, Bool.true_and, Bool.and_false, Bool.false_and, Bool.false_eq_true, if_true, if_false, reduceIte, ite_true, ite_false, true_and, and_true, reduceCtorEq, Int.toNat_zero, Int.toNat_one, Int.cast_ofNat_Int, Int.reduceLT, Int.reduceLE, Int.reduceNeg, Int.reduceToNat, Int.reducePow, Int.reduceMul, Int.reduceAdd, Int.reduceSub, decide_true, decide_false, sp_check_box, sp_check_point, sp_check_sizes, sp_has_ratio]
    exact ⟨⟨.wide (by omega) (by omega) (by omega) (by omega), .wide (by omega) (by omega) (by omega) (by omega)⟩, hQ⟩
  · simp only [List.nil_append]
    rw [boolsOf_map]
    simpa [List.all_map] using h
def sp_around_point : SpD :=
  fun ds R => ∃ o, ds = [.tup (o.map ivD)] ∧ Pt o ∧ (∀ q ∈ o, -1180591620717411303424 ≤ q.1 * 1099511627776 / q.2 ∧ -(-q.1 * 1099511627776 / q.2) ≤ 1180591620717411303424) ∧ R (.tup (o.map fun q => ivD (q.1 * 1099511627776 / q.2, -(-q.1 * 1099511627776 / q.2))))
set_option maxHeartbeats 0 in
theorem ok_around_point (T : Txt K mg) (D0 : Dfn K mg "around_point" "around_point" s_around_point ["point"] [(["point"], 0, [0])]) (C_check_point : Cal P w K mg base tabs "check_point" 5 1 ["point"] [] sp_check_point) (C_grain_around : Cal P w K mg base tabs "grain_around" 2 1 ["ratio"] [] sp_grain_around) : Cal P w K mg base tabs "around_point" 6 1 ["point"] [(["point"], 0, [0])] sp_around_point := by
  refine cal_of D0 sc_around_point fun f cdv A outer s H E p ht hg hk hr => ⟨_, (pdss_cons (pds_expr (pdcC (C_check_point.cal ht) hg hr (pda_cons (pd_var 0) pda_nil)))
      (pdss_one (pds_ret (pd_callTy cd_tuple rfl T.b_tuple PyProof.Rows.boot_tuple (pda_cons (pd_lc (own := [("ratio", 1)]) (t := (L2.gName 1)) rfl sc_around_point.nd (pdi_sq (pd_var 0)) (show blkC ["point", "ratio"] (defScope s_around_point) _ _ = true by decide +kernel) (fun _ _ _ _ _ => (pgw_name (i := 1) (vs := [1]) sc_around_point.nd rfl (Or.inl rfl))) (fun _ _ _ _ _ => (pdcC (C_grain_around.cal ht) hg hr (pda_cons (pd_var 1) pda_nil))) (sh := s)) pda_nil))))), ?_⟩
  intro ds R hl h; unfold sp_around_point at h
  clear hl hg hr hk ht
  obtain ⟨o, rfl, ho, hq, h⟩ := h
  have := ho.few
  simp (implicitDefEqProofs := false) (maxSteps := 3000000) only [startD, List.map_cons, List.map_nil, List.length_cons, List.length_nil, List.replicate, List.cons_append, List.nil_append, Nat.reduceAdd, Nat.reduceSub, Nat.zero_add, dSeq, dIfS, dOr, dAnd, dNot, dTst, dOp, dUn, dVar, dC, dB, dBK, dCons, dNil, dTup, dLst, dRet, dRetN, dNext, dNever, dAsg, dPar, dPar3, dIf, dAndV, dOrV, dNotV, dCh, dCt, cLast, cLink, tLast, tLink, dDrop, dFor, dBrk, dCnt, dOwn, dApp, dExt, dFree, gPutO, dIxO, dLend, dLendT, dLcF, gN, gTu, gCn, gNl, gP0, gP1, gII, gIIc, gAdd, gNeg, gIx, gEq, gNe, gIs, gIsNot, gIn, gNotIn, gSl, oNone, oSome, gMt, gIndex, cTuple, cList, cI1, cI2, cInt, cLen, cMax, cMin, cMaxT, cMinT, dAug, cAll, cAny, cRepr, cSqrt, cIsi, tyN, isNon, kb_tt, kb_ii, kb_ib, kb_bi, kb_bb, kb_it, kb_bt, kb_nt, kb_ni, kb_lt, kb_li, kb_ti, kb_si, kb_st, kb_ss, rd, dTru, dRgN, dEnum, gMulT, gDivN, gEqF, dCallV, spOf, atD, ordD, dSq, dZip, zipD_map, ivD, dRg1, dRg2, dLc, dYes, dLcGo, dGen, dGenGo, wipeD, boolsOf, intsOf, maxL, minL, noL, noLs, Option.map_some, Option.bind_some, List.all_cons, List.all_nil, List.any_cons, List.any_nil, id_eq, List.set_cons_zero, List.set_cons_succ, List.getElem?_cons_zero, List.getElem?_cons_succ, List.getElem?_nil, List.getD_cons_zero, List.getD_cons_succ, decide_eq_true_eq, decide_eq_false_iff_not, Bool.not_eq_true', Bool.not_true, Bool.not_false, Bool.and_true, Bool.true_and, Bool.and_false, Bool.false_and, Bool.false_eq_true, if_true, if_false, reduceIte, ite_true, ite_false, true_and, and_true, reduceCtorEq, Int.toNat_zero, Int.toNat_one, Int.cast_ofNat_Int, Int.reduceLT, Int.reduceLE, Int.reduceNeg, Int.reduceToNat, Int.reducePow, Int.reduceMul, Int.reduceAdd, Int.reduceSub, decide_true, decide_false, sp_check_point, sp_grain_around]
  refine ⟨o, rfl, ho, ?_⟩
  refine ⟨lenOk_map (by omega), lc_map _ (fun q => ivD (q.1 * 1099511627776 / q.2, -(-q.1 * 1099511627776 / q.2))) _ _ (fun q hm Q hQ => ?_) ?_⟩
  · have i2 := ho.rt _ hm
    have i6 := i2.pos
    have i7 := i2.few
    simp (implicitDefEqProofs := false) (maxSteps := 3000000) only [startD, List.map_cons, List.map_nil, List.length_cons, List.length_nil, List.replicate, List.cons_append, List.nil_append, Nat.reduceAdd, Nat.reduceSub, Nat.zero_add, dSeq, dIfS, dOr, dAnd, dNot, dTst, dOp, dUn, dVar, dC, dB, dBK, dCons, dNil, dTup, dLst, dRet, dRetN, dNext, dNever, dAsg, dPar, dPar3, dIf, dAndV, dOrV, dNotV, dCh, dCt, cLast, cLink, tLast, tLink, dDrop, dFor, dBrk, dCnt, dOwn, dApp, dExt, dFree, gPutO, dIxO, dLend, dLendT, dLcF, gN, gTu, gCn, gNl, gP0, gP1, gII, gIIc, gAdd, gNeg, gIx, gEq, gNe, gIs, gIsNot, gIn, gNotIn, gSl, oNone, oSome, gMt, gIndex, cTuple, cList, cI1, cI2, cInt, cLen, cMax, cMin, cMaxT, cMinT, dAug, cAll, cAny, cRepr, cSqrt, cIsi, tyN, isNon, kb_tt, kb_ii, kb_ib, kb_bi, kb_bb, kb_it, kb_bt, kb_nt, kb_ni, kb_lt, kb_li, kb_ti, kb_si, kb_st, kb_ss, rd, dTru, dRgN, dEnum, gMulT, gDivN, gEqF, dCallV, spOf, atD, ordD, dSq, dZip, zipD_map, ivD, dRg1, dRg2, dLc, dYes, dLcGo, dGen, dGenGo, wipeD, boolsOf, intsOf, maxL, minL, noL, noLs, Option.map_some, Option.bind_some, List.all_cons, List.all_nil, List.any_cons, List.any_nil, id_eq, List.set_cons_zero, List.set_cons_succ, List.getElem?_cons_zero, List.getElem?_cons_succ, List.getElem?_nil, List.getD_cons_zero, List.getD_cons_succ, decide_eq_true_eq, decide_eq_false_iff_not, Bool.not_eq_true', Bool.not_true, Bool.not_false, Bool.and_true, Bool.true_and, Bool.and_false, Bool.false_and, Bool.false_eq_true, if_true, if_false, reduceIte, ite_true, ite_false, true_and, and_true, reduceCtorEq, Int.toNat_zero, Int.toNat_one, Int.cast_ofNat_Int, Int.reduceLT, Int.reduceLE, Int.reduceNeg, Int.reduceToNat, Int.reducePow, Int.reduceMul, Int.reduceAdd, Int.reduceSub, decide_true, decide_false, sp_check_point, sp_grain_around]
    exact ⟨⟨by omega, by omega, (hq q hm).1, (hq q hm).2⟩, hQ⟩
  · exact h
def sp__law_draw : SpD :=
  fun ds R => match ds with
  | [.pot, .int n] => (0 < n ∧ n < 1606938044258990275541962092341162602522202993782792835301376) ∧ ∀ r : Int, 0 ≤ r → r < n → R (.int r)
  | _ => False
set_option maxHeartbeats 0 in
theorem ok__law_draw (T : Txt K mg) (D0 : Dfn K mg "_law_draw" "_law_draw" s__law_draw ["pot", "room"] [])  : Cal P w K mg base tabs "_law_draw" 1 2 ["pot", "room"] [] sp__law_draw := by
  refine cal_of D0 sc__law_draw fun f cdv A outer s H E p ht hg hk hr => ⟨_, (pdss_cons (pds_if (pdt_cmp opd_gt (pd_ix (pd_var 0) pd_int) pd_int) (pdss_cons (pds_asg (pd_callB cd_divmod rfl T.b_divmod PyProof.Rows.boot_divmod (pda_cons (pd_ix (pd_var 0) pd_int) (pda_cons (pd_var 1) pda_nil))) (pdg_tup (n := 2) rfl (pdgs_cons (pdg_p0 (i := 0) rfl (pd_var 0) pd_int) (pdgs_cons (pdg_name (i := 2) sc__law_draw.nd rfl (Or.inl rfl)) pdgs_nil))))
      (pdss_one (pds_ret (pd_var 2)))) pdss_nil)
      (pdss_cons (pds_asg (pd_bin opd_mod (pd_callTy cd_int rfl T.b_int PyProof.Rows.boot_int (pda_cons (pd_bin opd_add (pd_bin opd_mul (pd_ix (pd_var 0) pd_int) pd_int) pd_int) pda_nil)) pd_int) (pdg_p1 (i := 0) rfl (pd_var 0) pd_int))
      (pdss_one (pds_ret (pd_bin opd_mod (pd_callTy cd_int rfl T.b_int PyProof.Rows.boot_int (pda_cons (pd_bin opd_div (pd_bin opd_mod (pd_callTy cd_int rfl T.b_int PyProof.Rows.boot_int (pda_cons (pd_bin opd_mul (pd_ix (pd_var 0) pd_int) (pd_ix (pd_var 0) pd_int)) pda_nil)) pd_int) pd_int) pda_nil)) (pd_var 1)))))), ?_⟩
  intro ds R hl h; unfold sp__law_draw at h; split at h
  all_goals (try exact False.elim h)
  all_goals clear hl hg hr hk ht
  rename_i n
  obtain ⟨⟨h1, h2⟩, h⟩ := h
  simp (implicitDefEqProofs := false) (maxSteps := 3000000) only [startD, List.map_cons, List.map_nil, List.length_cons, List.length_nil, List.replicate, List.cons_append, List.nil_append, Nat.reduceAdd, Nat.reduceSub, Nat.zero_add, dSeq, dIfS, dOr, dAnd, dNot, dTst, dOp, dUn, dVar, dC, dB, dBK, dCons, dNil, dTup, dLst, dRet, dRetN, dNext, dNever, dAsg, dPar, dPar3, dIf, dAndV, dOrV, dNotV, dCh, dCt, cLast, cLink, tLast, tLink, dDrop, dFor, dBrk, dCnt, dOwn, dApp, dExt, dFree, gPutO, dIxO, dLend, dLendT, dLcF, gN, gTu, gCn, gNl, gP0, gP1, gII, gIIc, gAdd, gNeg, gIx, gEq, gNe, gIs, gIsNot, gIn, gNotIn, gSl, oNone, oSome, gMt, gIndex, cTuple, cList, cI1, cI2, cInt, cLen, cMax, cMin, cMaxT, cMinT, dAug, cAll, cAny, cRepr, cSqrt, cIsi, tyN, isNon, kb_tt, kb_ii, kb_ib, kb_bi, kb_bb, kb_it, kb_bt, kb_nt, kb_ni, kb_lt, kb_li, kb_ti, kb_si, kb_st, kb_ss, rd, dTru, dRgN, dEnum, gMulT, gDivN, gEqF, dCallV, spOf, atD, ordD, dSq, dZip, zipD_map, ivD, dRg1, dRg2, dLc, dYes, dLcGo, dGen, dGenGo, wipeD, boolsOf, intsOf, maxL, minL, noL, noLs, Option.map_some, Option.bind_some, List.all_cons, List.all_nil, List.any_cons, List.any_nil, id_eq, List.set_cons_zero, List.set_cons_succ, List.getElem?_cons_zero, List.getElem?_cons_succ, List.getElem?_nil, List.getD_cons_zero, List.getD_cons_succ, decide_eq_true_eq, decide_eq_false_iff_not, Bool.not_eq_true', Bool.not_true, Bool.not_false, Bool.and_true, Bool.true_and, Bool.and_false, Bool.false_and, Bool.false_eq_true, if_true, if_false, reduceIte, ite_true, ite_false, true_and, and_true, reduceCtorEq, Int.toNat_zero, Int.toNat_one, Int.cast_ofNat_Int, Int.reduceLT, Int.reduceLE, Int.reduceNeg, Int.reduceToNat, Int.reducePow, Int.reduceMul, Int.reduceAdd, Int.reduceSub, decide_true, decide_false]
  intro a ha
  split
  · intro b hb
    refine ⟨?_, ?_, h _ ?_ ?_⟩ <;> (first | assumption | omega | (exact BD.of (by omega) (by omega)) | (exact BS.of (by omega) (by omega)) | (exact MulC.left (by omega) (by omega)) | (exact MulC.right (by omega) (by omega)) | (exact MulC.wide (by omega) (by omega) (by omega) (by omega)) | (exact em0 (by omega)) | (exact em1 (by omega)) | (exact ed0 (by omega) (by omega)))
  · intro b hb hb2
    refine ⟨?_, ?_, ?_⟩
    · (first | assumption | omega | (exact BD.of (by omega) (by omega)) | (exact BS.of (by omega) (by omega)) | (exact MulC.left (by omega) (by omega)) | (exact MulC.right (by omega) (by omega)) | (exact MulC.wide (by omega) (by omega) (by omega) (by omega)) | (exact em0 (by omega)) | (exact em1 (by omega)) | (exact ed0 (by omega) (by omega)))
    · (first | assumption | omega | (exact BD.of (by omega) (by omega)) | (exact BS.of (by omega) (by omega)) | (exact MulC.left (by omega) (by omega)) | (exact MulC.right (by omega) (by omega)) | (exact MulC.wide (by omega) (by omega) (by omega) (by omega)) | (exact em0 (by omega)) | (exact em1 (by omega)) | (exact ed0 (by omega) (by omega)))
    · intro c hc hc2 d hd hd2
      refine ⟨?_, ?_, ?_, h _ ?_ ?_⟩ <;> (first | assumption | omega | (exact BD.of (by omega) (by omega)) | (exact BS.of (by omega) (by omega)) | (exact MulC.left (by omega) (by omega)) | (exact MulC.right (by omega) (by omega)) | (exact MulC.wide (by omega) (by omega) (by omega) (by omega)) | (exact em0 (by omega)) | (exact em1 (by omega)) | (exact ed0 (by omega) (by omega)))
def sp__law_pick : SpD :=
  fun ds R => match ds with
  | [.pot, .lst l] => (1 ≤ l.length ∧ l.length ≤ 1000000) ∧ ∀ x ∈ l, R x
  | _ => False
set_option maxHeartbeats 0 in
theorem ok__law_pick (T : Txt K mg) (D0 : Dfn K mg "_law_pick" "_law_pick" s__law_pick ["pot", "some"] []) (C__law_draw : Cal P w K mg base tabs "_law_draw" 1 2 ["pot", "room"] [] sp__law_draw) : Cal P w K mg base tabs "_law_pick" 2 2 ["pot", "some"] [] sp__law_pick := by
  refine cal_of D0 sc__law_pick fun f cdv A outer s H E p ht hg hk hr => ⟨_, (pdss_one (pds_ret (pd_ix (pd_var 1) (pdcC (C__law_draw.cal ht) hg hr (pda_cons (pd_var 0) (pda_cons (pd_callB cd_len rfl T.b_len PySem.boot_len (pda_cons (pd_var 1) pda_nil)) pda_nil)))))), ?_⟩
  intro ds R hl h; unfold sp__law_pick at h; split at h
  all_goals (try exact False.elim h)
  all_goals clear hl hg hr hk ht
  rename_i l
  obtain ⟨⟨h1, h2⟩, h⟩ := h
  simp (implicitDefEqProofs := false) (maxSteps := 3000000) only [startD, List.map_cons, List.map_nil, List.length_cons, List.length_nil, List.replicate, List.cons_append, List.nil_append, Nat.reduceAdd, Nat.reduceSub, Nat.zero_add, dSeq, dIfS, dOr, dAnd, dNot, dTst, dOp, dUn, dVar, dC, dB, dBK, dCons, dNil, dTup, dLst, dRet, dRetN, dNext, dNever, dAsg, dPar, dPar3, dIf, dAndV, dOrV, dNotV, dCh, dCt, cLast, cLink, tLast, tLink, dDrop, dFor, dBrk, dCnt, dOwn, dApp, dExt, dFree, gPutO, dIxO, dLend, dLendT, dLcF, gN, gTu, gCn, gNl, gP0, gP1, gII, gIIc, gAdd, gNeg, gIx, gEq, gNe, gIs, gIsNot, gIn, gNotIn, gSl, oNone, oSome, gMt, gIndex, cTuple, cList, cI1, cI2, cInt, cLen, cMax, cMin, cMaxT, cMinT, dAug, cAll, cAny, cRepr, cSqrt, cIsi, tyN, isNon, kb_tt, kb_ii, kb_ib, kb_bi, kb_bb, kb_it, kb_bt, kb_nt, kb_ni, kb_lt, kb_li, kb_ti, kb_si, kb_st, kb_ss, rd, dTru, dRgN, dEnum, gMulT, gDivN, gEqF, dCallV, spOf, atD, ordD, dSq, dZip, zipD_map, ivD, dRg1, dRg2, dLc, dYes, dLcGo, dGen, dGenGo, wipeD, boolsOf, intsOf, maxL, minL, noL, noLs, Option.map_some, Option.bind_some, List.all_cons, List.all_nil, List.any_cons, List.any_nil, id_eq, List.set_cons_zero, List.set_cons_succ, List.getElem?_cons_zero, List.getElem?_cons_succ, List.getElem?_nil, List.getD_cons_zero, List.getD_cons_succ, decide_eq_true_eq, decide_eq_false_iff_not, Bool.not_eq_true', Bool.not_true, Bool.not_false, Bool.and_true, Bool.true_and, Bool.and_false, Bool.false_and, Bool.false_eq_true, if_true, if_false, reduceIte, ite_true, ite_false, true_and, and_true, reduceCtorEq, Int.toNat_zero, Int.toNat_one, Int.cast_ofNat_Int, Int.reduceLT, Int.reduceLE, Int.reduceNeg, Int.reduceToNat, Int.reducePow, Int.reduceMul, Int.reduceAdd, Int.reduceSub, decide_true, decide_false, sp__law_draw]
  refine ⟨by omega, fun r r0 r1 => ?_⟩
  rw [if_pos r0]
  have hr : r.toNat < l.length := by omega
  rw [List.getElem?_eq_getElem hr]
  exact h _ (List.getElem_mem hr)
def sp__law_one : SpD :=
  fun ds R => match ds with
  | [] => R (.int 1099511627776)
  | _ => False
set_option maxHeartbeats 0 in
theorem ok__law_one (T : Txt K mg) (D0 : Dfn K mg "_law_one" "_law_one" s__law_one [] [])  : Cal P w K mg base tabs "_law_one" 1 0 [] [] sp__law_one := by
  refine cal_of D0 sc__law_one fun f cdv A outer s H E p ht hg hk hr => ⟨_, (pdss_one (pds_ret (pd_bin opd_pow pd_int pd_int))), ?_⟩
  intro ds R hl h; unfold sp__law_one at h; split at h
  all_goals (try exact False.elim h)
  all_goals clear hl hg hr hk ht
  simp (implicitDefEqProofs := false) (maxSteps := 3000000) only [startD, List.map_cons, List.map_nil, List.length_cons, List.length_nil, List.replicate, List.cons_append, List.nil_append, Nat.reduceAdd, Nat.reduceSub, Nat.zero_add, dSeq, dIfS, dOr, dAnd, dNot, dTst, dOp, dUn, dVar, dC, dB, dBK, dCons, dNil, dTup, dLst, dRet, dRetN, dNext, dNever, dAsg, dPar, dPar3, dIf, dAndV, dOrV, dNotV, dCh, dCt, cLast, cLink, tLast, tLink, dDrop, dFor, dBrk, dCnt, dOwn, dApp, dExt, dFree, gPutO, dIxO, dLend, dLendT, dLcF, gN, gTu, gCn, gNl, gP0, gP1, gII, gIIc, gAdd, gNeg, gIx, gEq, gNe, gIs, gIsNot, gIn, gNotIn, gSl, oNone, oSome, gMt, gIndex, cTuple, cList, cI1, cI2, cInt, cLen, cMax, cMin, cMaxT, cMinT, dAug, cAll, cAny, cRepr, cSqrt, cIsi, tyN, isNon, kb_tt, kb_ii, kb_ib, kb_bi, kb_bb, kb_it, kb_bt, kb_nt, kb_ni, kb_lt, kb_li, kb_ti, kb_si, kb_st, kb_ss, rd, dTru, dRgN, dEnum, gMulT, gDivN, gEqF, dCallV, spOf, atD, ordD, dSq, dZip, zipD_map, ivD, dRg1, dRg2, dLc, dYes, dLcGo, dGen, dGenGo, wipeD, boolsOf, intsOf, maxL, minL, noL, noLs, Option.map_some, Option.bind_some, List.all_cons, List.all_nil, List.any_cons, List.any_nil, id_eq, List.set_cons_zero, List.set_cons_succ, List.getElem?_cons_zero, List.getElem?_cons_succ, List.getElem?_nil, List.getD_cons_zero, List.getD_cons_succ, decide_eq_true_eq, decide_eq_false_iff_not, Bool.not_eq_true', Bool.not_true, Bool.not_false, Bool.and_true, Bool.true_and, Bool.and_false, Bool.false_and, Bool.false_eq_true, if_true, if_false, reduceIte, ite_true, ite_false, true_and, and_true, reduceCtorEq, Int.toNat_zero, Int.toNat_one, Int.cast_ofNat_Int, Int.reduceLT, Int.reduceLE, Int.reduceNeg, Int.reduceToNat, Int.reducePow, Int.reduceMul, Int.reduceAdd, Int.reduceSub, decide_true, decide_false]
  exact h
def sp__law_gcd : SpD :=
  fun ds R => match ds with
  | [.int a, .int b] => 0 < b ∧ R (.int ((Nat.gcd a.natAbs b.natAbs : Nat) : Int))
  | _ => False
set_option maxHeartbeats 0 in
theorem ok__law_gcd (T : Txt K mg) (D0 : Dfn K mg "_law_gcd" "_law_gcd" s__law_gcd ["one", "other"] [])  : Cal P w K mg base tabs "_law_gcd" 1 2 ["one", "other"] [] sp__law_gcd := by
  refine cal_of D0 sc__law_gcd fun f cdv A outer s H E p ht hg hk hr => ⟨_, (pdss_cons (pds_while PassesOwn.never (pdt_cmp (opd_ne hr.units) (pd_var 1) pd_int) (pdss_one (pds_par (i := 0) (j := 1) rfl sc__law_gcd.nd rfl rfl (by decide) rfl rfl (pda_cons (pd_var 1) (pda_cons (pd_bin opd_mod (pd_var 0) (pd_var 1)) pda_nil)) (by rfl))))
      (pdss_one (pds_ret (pd_callB cd_abs rfl T.b_abs PyProof.Rows.boot_abs (pda_cons (pd_var 0) pda_nil))))), ?_⟩
  intro ds R hl h; unfold sp__law_gcd at h; split at h
  all_goals (try exact False.elim h)
  all_goals clear hl hg hr hk ht
  rename_i a b
  obtain ⟨h1, h⟩ := h
  simp (implicitDefEqProofs := false) (maxSteps := 3000000) only [startD, List.map_cons, List.map_nil, List.length_cons, List.length_nil, List.replicate, List.cons_append, List.nil_append, Nat.reduceAdd, Nat.reduceSub, Nat.zero_add, dSeq, dIfS, dOr, dAnd, dNot, dTst, dOp, dUn, dVar, dC, dB, dBK, dCons, dNil, dTup, dLst, dRet, dRetN, dNext, dNever, dAsg, dPar, dPar3, dIf, dAndV, dOrV, dNotV, dCh, dCt, cLast, cLink, tLast, tLink, dDrop, dFor, dBrk, dCnt, dOwn, dApp, dExt, dFree, gPutO, dIxO, dLend, dLendT, dLcF, gN, gTu, gCn, gNl, gP0, gP1, gII, gIIc, gAdd, gNeg, gIx, gEq, gNe, gIs, gIsNot, gIn, gNotIn, gSl, oNone, oSome, gMt, gIndex, cTuple, cList, cI1, cI2, cInt, cLen, cMax, cMin, cMaxT, cMinT, dAug, cAll, cAny, cRepr, cSqrt, cIsi, tyN, isNon, kb_tt, kb_ii, kb_ib, kb_bi, kb_bb, kb_it, kb_bt, kb_nt, kb_ni, kb_lt, kb_li, kb_ti, kb_si, kb_st, kb_ss, rd, dTru, dRgN, dEnum, gMulT, gDivN, gEqF, dCallV, spOf, atD, ordD, dSq, dZip, zipD_map, ivD, dRg1, dRg2, dLc, dYes, dLcGo, dGen, dGenGo, wipeD, boolsOf, intsOf, maxL, minL, noL, noLs, Option.map_some, Option.bind_some, List.all_cons, List.all_nil, List.any_cons, List.any_nil, id_eq, List.set_cons_zero, List.set_cons_succ, List.getElem?_cons_zero, List.getElem?_cons_succ, List.getElem?_nil, List.getD_cons_zero, List.getD_cons_succ, decide_eq_true_eq, decide_eq_false_iff_not, Bool.not_eq_true', Bool.not_true, Bool.not_false, Bool.and_true, Bool.true_and, Bool.and_false, Bool.false_and, Bool.false_eq_true, if_true, if_false, reduceIte, ite_true, ite_false, true_and, and_true, reduceCtorEq, Int.toNat_zero, Int.toNat_one, Int.cast_ofNat_Int, Int.reduceLT, Int.reduceLE, Int.reduceNeg, Int.reduceToNat, Int.reducePow, Int.reduceMul, Int.reduceAdd, Int.reduceSub, decide_true, decide_false]
  refine whileI (fun m τ => ∃ c d : Int, τ = [some (.int c), some (.int d)] ∧ 0 ≤ d ∧ d.toNat = m ∧ Nat.gcd c.natAbs d.natAbs = Nat.gcd a.natAbs b.natAbs) b.toNat _ ⟨a, b, rfl, by omega, rfl, rfl⟩ ?_
  rintro m τ k hk ⟨c, d, rfl, d0, rfl, hg⟩
  simp (implicitDefEqProofs := false) (maxSteps := 3000000) only [startD, List.map_cons, List.map_nil, List.length_cons, List.length_nil, List.replicate, List.cons_append, List.nil_append, Nat.reduceAdd, Nat.reduceSub, Nat.zero_add, dSeq, dIfS, dOr, dAnd, dNot, dTst, dOp, dUn, dVar, dC, dB, dBK, dCons, dNil, dTup, dLst, dRet, dRetN, dNext, dNever, dAsg, dPar, dPar3, dIf, dAndV, dOrV, dNotV, dCh, dCt, cLast, cLink, tLast, tLink, dDrop, dFor, dBrk, dCnt, dOwn, dApp, dExt, dFree, gPutO, dIxO, dLend, dLendT, dLcF, gN, gTu, gCn, gNl, gP0, gP1, gII, gIIc, gAdd, gNeg, gIx, gEq, gNe, gIs, gIsNot, gIn, gNotIn, gSl, oNone, oSome, gMt, gIndex, cTuple, cList, cI1, cI2, cInt, cLen, cMax, cMin, cMaxT, cMinT, dAug, cAll, cAny, cRepr, cSqrt, cIsi, tyN, isNon, kb_tt, kb_ii, kb_ib, kb_bi, kb_bb, kb_it, kb_bt, kb_nt, kb_ni, kb_lt, kb_li, kb_ti, kb_si, kb_st, kb_ss, rd, dTru, dRgN, dEnum, gMulT, gDivN, gEqF, dCallV, spOf, atD, ordD, dSq, dZip, zipD_map, ivD, dRg1, dRg2, dLc, dYes, dLcGo, dGen, dGenGo, wipeD, boolsOf, intsOf, maxL, minL, noL, noLs, Option.map_some, Option.bind_some, List.all_cons, List.all_nil, List.any_cons, List.any_nil, id_eq, List.set_cons_zero, List.set_cons_succ, List.getElem?_cons_zero, List.getElem?_cons_succ, List.getElem?_nil, List.getD_cons_zero, List.getD_cons_succ, decide_eq_true_eq, decide_eq_false_iff_not, Bool.not_eq_true', Bool.not_true, Bool.not_false, Bool.and_true, Bool.true_and, Bool.and_false, Bool.false_and, Bool.false_eq_true, if_true, if_false, reduceIte, ite_true, ite_false, true_and, and_true, reduceCtorEq, Int.toNat_zero, Int.toNat_one, Int.cast_ofNat_Int, Int.reduceLT, Int.reduceLE, Int.reduceNeg, Int.reduceToNat, Int.reducePow, Int.reduceMul, Int.reduceAdd, Int.reduceSub, decide_true, decide_false]
  by_cases e : d = 0
  · subst e
    rw [← hg] at h
    have e2 : Nat.gcd c.natAbs (Int.natAbs 0) = c.natAbs := Nat.gcd_zero_right _
    rw [e2] at h
    simpa using h
  · rw [if_pos e]
    have dp : 0 < d := by omega
    have q0 := em0 (a := c) dp
    have q1 := em1 (a := c) dp
    refine ⟨dp, hk _ _ ?_ ⟨d, c % d, rfl, q0, rfl, by rw [gcd_mod c d dp]; exact hg⟩⟩
    omega
def sp__law_ratio : SpD :=
  fun ds R => match ds with
  | [.int n, .int u] => (0 < u ∧ u < 1606938044258990275541962092341162602522202993782792835301376) ∧ ∀ q : Int × Int, Rt q → q.1 * u = n * q.2 → R (ivD q)
  | _ => False
set_option maxHeartbeats 0 in
theorem ok__law_ratio (T : Txt K mg) (D0 : Dfn K mg "_law_ratio" "_law_ratio" s__law_ratio ["number", "under"] []) (C__law_gcd : Cal P w K mg base tabs "_law_gcd" 1 2 ["one", "other"] [] sp__law_gcd) : Cal P w K mg base tabs "_law_ratio" 2 2 ["number", "under"] [] sp__law_ratio := by
  refine cal_of D0 sc__law_ratio fun f cdv A outer s H E p ht hg hk hr => ⟨_, (pdss_cons (pds_set (i := 2) sc__law_ratio.nd rfl (Or.inl rfl) (pdcC (C__law_gcd.cal ht) hg hr (pda_cons (pd_var 0) (pda_cons (pd_var 1) pda_nil))))
      (pdss_cons (pds_set (i := 3) sc__law_ratio.nd rfl (Or.inl rfl) (pd_ifx (pdt_cmp opd_gt (pd_var 1) pd_int) pd_int (pd_un und_neg pd_int)))
      (pdss_one (pds_ret (pd_tup (pda_cons (pd_bin opd_div (pd_bin opd_mul (pd_var 3) (pd_var 0)) (pd_var 2)) (pda_cons (pd_bin opd_div (pd_bin opd_mul (pd_var 3) (pd_var 1)) (pd_var 2)) pda_nil))))))), ?_⟩
  intro ds R hl h; unfold sp__law_ratio at h; split at h
  all_goals (try exact False.elim h)
  all_goals clear hl hg hr hk ht
  rename_i n u
  obtain ⟨⟨h1, h2⟩, h⟩ := h
  have g := low_terms (n := n) h1 h2
  have gp := gcd_pos (a := n) h1
  have gl : Nat.gcd n.natAbs u.natAbs ≤ u.natAbs := Nat.gcd_le_right _ (by omega)
  simp (implicitDefEqProofs := false) (maxSteps := 3000000) only [startD, List.map_cons, List.map_nil, List.length_cons, List.length_nil, List.replicate, List.cons_append, List.nil_append, Nat.reduceAdd, Nat.reduceSub, Nat.zero_add, dSeq, dIfS, dOr, dAnd, dNot, dTst, dOp, dUn, dVar, dC, dB, dBK, dCons, dNil, dTup, dLst, dRet, dRetN, dNext, dNever, dAsg, dPar, dPar3, dIf, dAndV, dOrV, dNotV, dCh, dCt, cLast, cLink, tLast, tLink, dDrop, dFor, dBrk, dCnt, dOwn, dApp, dExt, dFree, gPutO, dIxO, dLend, dLendT, dLcF, gN, gTu, gCn, gNl, gP0, gP1, gII, gIIc, gAdd, gNeg, gIx, gEq, gNe, gIs, gIsNot, gIn, gNotIn, gSl, oNone, oSome, gMt, gIndex, cTuple, cList, cI1, cI2, cInt, cLen, cMax, cMin, cMaxT, cMinT, dAug, cAll, cAny, cRepr, cSqrt, cIsi, tyN, isNon, kb_tt, kb_ii, kb_ib, kb_bi, kb_bb, kb_it, kb_bt, kb_nt, kb_ni, kb_lt, kb_li, kb_ti, kb_si, kb_st, kb_ss, rd, dTru, dRgN, dEnum, gMulT, gDivN, gEqF, dCallV, spOf, atD, ordD, dSq, dZip, zipD_map, ivD, dRg1, dRg2, dLc, dYes, dLcGo, dGen, dGenGo, wipeD, boolsOf, intsOf, maxL, minL, noL, noLs, Option.map_some, Option.bind_some, List.all_cons, List.all_nil, List.any_cons, List.any_nil, id_eq, List.set_cons_zero, List.set_cons_succ, List.getElem?_cons_zero, List.getElem?_cons_succ, List.getElem?_nil, List.getD_cons_zero, List.getD_cons_succ, decide_eq_true_eq, decide_eq_false_iff_not, Bool.not_eq_true', Bool.not_true, Bool.not_false, Bool.and_true, Bool.true_and, Bool.and_false, Bool.false_and, Bool.false_eq_true, if_true, if_false, reduceIte, ite_true, ite_false, true_and, and_true, reduceCtorEq, Int.toNat_zero, Int.toNat_one, Int.cast_ofNat_Int, Int.reduceLT, Int.reduceLE, Int.reduceNeg, Int.reduceToNat, Int.reducePow, Int.reduceMul, Int.reduceAdd, Int.reduceSub, decide_true, decide_false, sp__law_gcd]
  rw [if_pos h1]
  refine ⟨h1, .left (by omega) (by omega), .of (by omega) (by omega), .left (by omega) (by omega), .of (by omega) (by omega), ?_⟩
  rw [Int.one_mul, Int.one_mul]
  exact h _ g.1 g.2
def sp__law_down : SpD :=
  fun ds R => match ds with
  | [.int n, .int u] => (0 < u ∧ u < 1606938044258990275541962092341162602522202993782792835301376) ∧ R (.int (n / u))
  | _ => False
set_option maxHeartbeats 0 in
theorem ok__law_down (T : Txt K mg) (D0 : Dfn K mg "_law_down" "_law_down" s__law_down ["number", "under"] [])  : Cal P w K mg base tabs "_law_down" 1 2 ["number", "under"] [] sp__law_down := by
  refine cal_of D0 sc__law_down fun f cdv A outer s H E p ht hg hk hr => ⟨_, (pdss_one (pds_ret (pd_bin opd_div (pd_var 0) (pd_var 1)))), ?_⟩
  intro ds R hl h; unfold sp__law_down at h; split at h
  all_goals (try exact False.elim h)
  all_goals clear hl hg hr hk ht
  obtain ⟨⟨h1, h2⟩, h⟩ := h
  simp (implicitDefEqProofs := false) (maxSteps := 3000000) only [startD, List.map_cons, List.map_nil, List.length_cons, List.length_nil, List.replicate, List.cons_append, List.nil_append, Nat.reduceAdd, Nat.reduceSub, Nat.zero_add, dSeq, dIfS, dOr, dAnd, dNot, dTst, dOp, dUn, dVar, dC, dB, dBK, dCons, dNil, dTup, dLst, dRet, dRetN, dNext, dNever, dAsg, dPar, dPar3, dIf, dAndV, dOrV, dNotV, dCh, dCt, cLast, cLink, tLast, tLink, dDrop, dFor, dBrk, dCnt, dOwn, dApp, dExt, dFree, gPutO, dIxO, dLend, dLendT, dLcF, gN, gTu, gCn, gNl, gP0, gP1, gII, gIIc, gAdd, gNeg, gIx, gEq, gNe, gIs, gIsNot, gIn, gNotIn, gSl, oNone, oSome, gMt, gIndex, cTuple, cList, cI1, cI2, cInt, cLen, cMax, cMin, cMaxT, cMinT, dAug, cAll, cAny, cRepr, cSqrt, cIsi, tyN, isNon, kb_tt, kb_ii, kb_ib, kb_bi, kb_bb, kb_it, kb_bt, kb_nt, kb_ni, kb_lt, kb_li, kb_ti, kb_si, kb_st, kb_ss, rd, dTru, dRgN, dEnum, gMulT, gDivN, gEqF, dCallV, spOf, atD, ordD, dSq, dZip, zipD_map, ivD, dRg1, dRg2, dLc, dYes, dLcGo, dGen, dGenGo, wipeD, boolsOf, intsOf, maxL, minL, noL, noLs, Option.map_some, Option.bind_some, List.all_cons, List.all_nil, List.any_cons, List.any_nil, id_eq, List.set_cons_zero, List.set_cons_succ, List.getElem?_cons_zero, List.getElem?_cons_succ, List.getElem?_nil, List.getD_cons_zero, List.getD_cons_succ, decide_eq_true_eq, decide_eq_false_iff_not, Bool.not_eq_true', Bool.not_true, Bool.not_false, Bool.and_true, Bool.true_and, Bool.and_false, Bool.false_and, Bool.false_eq_true, if_true, if_false, reduceIte, ite_true, ite_false, true_and, and_true, reduceCtorEq, Int.toNat_zero, Int.toNat_one, Int.cast_ofNat_Int, Int.reduceLT, Int.reduceLE, Int.reduceNeg, Int.reduceToNat, Int.reducePow, Int.reduceMul, Int.reduceAdd, Int.reduceSub, decide_true, decide_false]
  exact ⟨.of h1 h2, h⟩
def sp__law_up : SpD :=
  fun ds R => match ds with
  | [.int n, .int u] => (0 < u ∧ u < 1606938044258990275541962092341162602522202993782792835301376) ∧ R (.int (-(-n / u)))
  | _ => False
set_option maxHeartbeats 0 in
theorem ok__law_up (T : Txt K mg) (D0 : Dfn K mg "_law_up" "_law_up" s__law_up ["number", "under"] [])  : Cal P w K mg base tabs "_law_up" 1 2 ["number", "under"] [] sp__law_up := by
  refine cal_of D0 sc__law_up fun f cdv A outer s H E p ht hg hk hr => ⟨_, (pdss_one (pds_ret (pd_un und_neg (pd_bin opd_div (pd_un und_neg (pd_var 0)) (pd_var 1))))), ?_⟩
  intro ds R hl h; unfold sp__law_up at h; split at h
  all_goals (try exact False.elim h)
  all_goals clear hl hg hr hk ht
  obtain ⟨⟨h1, h2⟩, h⟩ := h
  simp (implicitDefEqProofs := false) (maxSteps := 3000000) only [startD, List.map_cons, List.map_nil, List.length_cons, List.length_nil, List.replicate, List.cons_append, List.nil_append, Nat.reduceAdd, Nat.reduceSub, Nat.zero_add, dSeq, dIfS, dOr, dAnd, dNot, dTst, dOp, dUn, dVar, dC, dB, dBK, dCons, dNil, dTup, dLst, dRet, dRetN, dNext, dNever, dAsg, dPar, dPar3, dIf, dAndV, dOrV, dNotV, dCh, dCt, cLast, cLink, tLast, tLink, dDrop, dFor, dBrk, dCnt, dOwn, dApp, dExt, dFree, gPutO, dIxO, dLend, dLendT, dLcF, gN, gTu, gCn, gNl, gP0, gP1, gII, gIIc, gAdd, gNeg, gIx, gEq, gNe, gIs, gIsNot, gIn, gNotIn, gSl, oNone, oSome, gMt, gIndex, cTuple, cList, cI1, cI2, cInt, cLen, cMax, cMin, cMaxT, cMinT, dAug, cAll, cAny, cRepr, cSqrt, cIsi, tyN, isNon, kb_tt, kb_ii, kb_ib, kb_bi, kb_bb, kb_it, kb_bt, kb_nt, kb_ni, kb_lt, kb_li, kb_ti, kb_si, kb_st, kb_ss, rd, dTru, dRgN, dEnum, gMulT, gDivN, gEqF, dCallV, spOf, atD, ordD, dSq, dZip, zipD_map, ivD, dRg1, dRg2, dLc, dYes, dLcGo, dGen, dGenGo, wipeD, boolsOf, intsOf, maxL, minL, noL, noLs, Option.map_some, Option.bind_some, List.all_cons, List.all_nil, List.any_cons, List.any_nil, id_eq, List.set_cons_zero, List.set_cons_succ, List.getElem?_cons_zero, List.getElem?_cons_succ, List.getElem?_nil, List.getD_cons_zero, List.getD_cons_succ, decide_eq_true_eq, decide_eq_false_iff_not, Bool.not_eq_true', Bool.not_true, Bool.not_false, Bool.and_true, Bool.true_and, Bool.and_false, Bool.false_and, Bool.false_eq_true, if_true, if_false, reduceIte, ite_true, ite_false, true_and, and_true, reduceCtorEq, Int.toNat_zero, Int.toNat_one, Int.cast_ofNat_Int, Int.reduceLT, Int.reduceLE, Int.reduceNeg, Int.reduceToNat, Int.reducePow, Int.reduceMul, Int.reduceAdd, Int.reduceSub, decide_true, decide_false]
  exact ⟨.of h1 h2, h⟩
def sp__law_size : SpD :=
  fun ds R => match ds with
  | [.pot] => ∀ n : Int, 0 ≤ n → n ≤ 1180591620717411303424 → R (.int n)
  | _ => False
set_option maxHeartbeats 0 in
theorem ok__law_size (T : Txt K mg) (D0 : Dfn K mg "_law_size" "_law_size" s__law_size ["pot"] []) (C__law_draw : Cal P w K mg base tabs "_law_draw" 1 2 ["pot", "room"] [] sp__law_draw) (C__law_pick : Cal P w K mg base tabs "_law_pick" 2 2 ["pot", "some"] [] sp__law_pick) (C__law_one : Cal P w K mg base tabs "_law_one" 1 0 [] [] sp__law_one) : Cal P w K mg base tabs "_law_size" 3 1 ["pot"] [] sp__law_size := by
  refine cal_of D0 sc__law_size fun f cdv A outer s H E p ht hg hk hr => ⟨_, (pdss_cons (pds_set (i := 1) sc__law_size.nd rfl (Or.inl rfl) (pdcC (C__law_draw.cal ht) hg hr (pda_cons (pd_var 0) (pda_cons pd_int pda_nil))))
      (pdss_cons (pds_if (pdt_cmp (opd_eq hr.units) (pd_var 1) pd_int) (pdss_one (pds_ret (pd_bin opd_mul (pdcC (C__law_draw.cal ht) hg hr (pda_cons (pd_var 0) (pda_cons (pd_bin opd_pow pd_int pd_int) pda_nil))) (pdcC (C__law_draw.cal ht) hg hr (pda_cons (pd_var 0) (pda_cons (pd_bin opd_add (pd_bin opd_pow pd_int pd_int) pd_int) pda_nil)))))) pdss_nil)
      (pdss_cons (pds_if (pdt_cmp (opd_eq hr.units) (pd_var 1) pd_int) (pdss_one (pds_ret (pdcC (C__law_pick.cal ht) hg hr (pda_cons (pd_var 0) (pda_cons (pd_lst (pda_cons pd_int (pda_cons pd_int (pda_cons pd_int (pda_cons pd_int pda_nil))))) pda_nil))))) pdss_nil)
      (pdss_cons (pds_if (pdt_cmp (opd_eq hr.units) (pd_var 1) pd_int) (pdss_one (pds_ret (pd_bin opd_div (pd_bin opd_mul (pdcC (C__law_pick.cal ht) hg hr (pda_cons (pd_var 0) (pda_cons (pd_lst (pda_cons pd_int (pda_cons pd_int (pda_cons pd_int (pda_cons pd_int pda_nil))))) pda_nil))) (pdcC0 (C__law_one.cal ht) hg hr)) (pdcC (C__law_pick.cal ht) hg hr (pda_cons (pd_var 0) (pda_cons (pd_lst (pda_cons pd_int (pda_cons pd_int (pda_cons pd_int (pda_cons pd_int pda_nil))))) pda_nil)))))) pdss_nil)
      (pdss_cons (pds_if (pdt_cmp (opd_eq hr.units) (pd_var 1) pd_int) (pdss_one (pds_ret (pd_bin opd_add pd_int (pdcC (C__law_draw.cal ht) hg hr (pda_cons (pd_var 0) (pda_cons pd_int pda_nil)))))) pdss_nil)
      (pdss_cons (pds_if (pdt_cmp (opd_eq hr.units) (pd_var 1) pd_int) (pdss_one (pds_ret (pd_bin opd_mul (pdcC (C__law_draw.cal ht) hg hr (pda_cons (pd_var 0) (pda_cons pd_int pda_nil))) (pdcC (C__law_draw.cal ht) hg hr (pda_cons (pd_var 0) (pda_cons pd_int pda_nil)))))) pdss_nil)
      (pdss_one (pds_ret (pd_bin opd_add (pd_bin opd_mul (pdcC (C__law_draw.cal ht) hg hr (pda_cons (pd_var 0) (pda_cons pd_int pda_nil))) pd_int) (pdcC (C__law_draw.cal ht) hg hr (pda_cons (pd_var 0) (pda_cons pd_int pda_nil)))))))))))), ?_⟩
  intro ds R hl h; unfold sp__law_size at h; split at h
  all_goals (try exact False.elim h)
  all_goals clear hl hg hr hk ht
  simp (implicitDefEqProofs := false) (maxSteps := 3000000) only [startD, List.map_cons, List.map_nil, List.length_cons, List.length_nil, List.replicate, List.cons_append, List.nil_append, Nat.reduceAdd, Nat.reduceSub, Nat.zero_add, dSeq, dIfS, dOr, dAnd, dNot, dTst, dOp, dUn, dVar, dC, dB, dBK, dCons, dNil, dTup, dLst, dRet, dRetN, dNext, dNever, dAsg, dPar, dPar3, dIf, dAndV, dOrV, dNotV, dCh, dCt, cLast, cLink, tLast, tLink, dDrop, dFor, dBrk, dCnt, dOwn, dApp, dExt, dFree, gPutO, dIxO, dLend, dLendT, dLcF, gN, gTu, gCn, gNl, gP0, gP1, gII, gIIc, gAdd, gNeg, gIx, gEq, gNe, gIs, gIsNot, gIn, gNotIn, gSl, oNone, oSome, gMt, gIndex, cTuple, cList, cI1, cI2, cInt, cLen, cMax, cMin, cMaxT, cMinT, dAug, cAll, cAny, cRepr, cSqrt, cIsi, tyN, isNon, kb_tt, kb_ii, kb_ib, kb_bi, kb_bb, kb_it, kb_bt, kb_nt, kb_ni, kb_lt, kb_li, kb_ti, kb_si, kb_st, kb_ss, rd, dTru, dRgN, dEnum, gMulT, gDivN, gEqF, dCallV, spOf, atD, ordD, dSq, dZip, zipD_map, ivD, dRg1, dRg2, dLc, dYes, dLcGo, dGen, dGenGo, wipeD, boolsOf, intsOf, maxL, minL, noL, noLs, Option.map_some, Option.bind_some, List.all_cons, List.all_nil, List.any_cons, List.any_nil, id_eq, List.set_cons_zero, List.set_cons_succ, List.getElem?_cons_zero, List.getElem?_cons_succ, List.getElem?_nil, List.getD_cons_zero, List.getD_cons_succ, decide_eq_true_eq, decide_eq_false_iff_not, Bool.not_eq_true', Bool.not_true, Bool.not_false, Bool.and_true, Bool.true_and, Bool.and_false, Bool.false_and, Bool.false_eq_true, if_true, if_false, reduceIte, ite_true, ite_false, true_and, and_true, reduceCtorEq, Int.toNat_zero, Int.toNat_one, Int.cast_ofNat_Int, Int.reduceLT, Int.reduceLE, Int.reduceNeg, Int.reduceToNat, Int.reducePow, Int.reduceMul, Int.reduceAdd, Int.reduceSub, decide_true, decide_false, sp__law_draw, sp__law_pick, sp__law_one]
  intro w w0 w1
  refine ite2P (fun e => ?_) fun e => ?_
  · intro a a0 a1 b b0 b1
    have m1 := Int.mul_nonneg a0 b0
    have m2 := Int.mul_le_mul (show a ≤ 34359738368 by omega) (show b ≤ 34359738368 by omega) b0 (by omega)
    exact ⟨by (first | assumption | omega | (exact BD.of (by omega) (by omega)) | (exact BS.of (by omega) (by omega)) | (exact MulC.left (by omega) (by omega)) | (exact MulC.right (by omega) (by omega)) | (exact MulC.wide (by omega) (by omega) (by omega) (by omega)) | (exact em0 (by omega)) | (exact em1 (by omega)) | (exact ed0 (by omega) (by omega))), h _ (by omega) (by omega)⟩
  refine ite2P (fun e => ?_) fun e => ?_
  · refine ⟨⟨by omega, by omega⟩, fun x hx => ?_⟩
    have : x = .int 0 ∨ x = .int 1 ∨ x = .int 2 ∨ x = .int 3 := by simpa using hx
    rcases this with rfl | rfl | rfl | rfl <;> exact h _ (by omega) (by omega)
  refine ite2P (fun e => ?_) fun e => ?_
  · refine ⟨⟨by omega, by omega⟩, fun x hx => ?_⟩
    have : x = .int 1 ∨ x = .int 2 ∨ x = .int 3 ∨ x = .int 5 := by simpa using hx
    rcases this with rfl | rfl | rfl | rfl
    all_goals
      refine ⟨by (first | assumption | omega | (exact BD.of (by omega) (by omega)) | (exact BS.of (by omega) (by omega)) | (exact MulC.left (by omega) (by omega)) | (exact MulC.right (by omega) (by omega)) | (exact MulC.wide (by omega) (by omega) (by omega) (by omega)) | (exact em0 (by omega)) | (exact em1 (by omega)) | (exact ed0 (by omega) (by omega))), ⟨by omega, by omega⟩, fun y hy => ?_⟩
      have : y = .int 1 ∨ y = .int 2 ∨ y = .int 4 ∨ y = .int 3 := by simpa using hy
      rcases this with rfl | rfl | rfl | rfl <;> exact ⟨by (first | assumption | omega | (exact BD.of (by omega) (by omega)) | (exact BS.of (by omega) (by omega)) | (exact MulC.left (by omega) (by omega)) | (exact MulC.right (by omega) (by omega)) | (exact MulC.wide (by omega) (by omega) (by omega) (by omega)) | (exact em0 (by omega)) | (exact em1 (by omega)) | (exact ed0 (by omega) (by omega))), h _ (by omega) (by omega)⟩
  refine ite2P (fun e => ?_) fun e => ?_
  · intro a a0 a1
    exact h _ (by omega) (by omega)
  refine ite2P (fun e => ?_) fun e => ?_
  · intro a a0 a1 b b0 b1
    have m1 := Int.mul_nonneg a0 b0
    have m2 := Int.mul_le_mul (show a ≤ 1000000 by omega) (show b ≤ 1000000 by omega) b0 (by omega)
    exact ⟨by (first | assumption | omega | (exact BD.of (by omega) (by omega)) | (exact BS.of (by omega) (by omega)) | (exact MulC.left (by omega) (by omega)) | (exact MulC.right (by omega) (by omega)) | (exact MulC.wide (by omega) (by omega) (by omega) (by omega)) | (exact em0 (by omega)) | (exact em1 (by omega)) | (exact ed0 (by omega) (by omega))), h _ (by omega) (by omega)⟩
  · intro a a0 a1
    refine ⟨by (first | assumption | omega | (exact BD.of (by omega) (by omega)) | (exact BS.of (by omega) (by omega)) | (exact MulC.left (by omega) (by omega)) | (exact MulC.right (by omega) (by omega)) | (exact MulC.wide (by omega) (by omega) (by omega) (by omega)) | (exact em0 (by omega)) | (exact em1 (by omega)) | (exact ed0 (by omega) (by omega))), fun b b0 b1 => h _ (by omega) (by omega)⟩
def sp__law_number : SpD :=
  fun ds R => match ds with
  | [.pot] => ∀ n : Int, -1180591620717411303424 ≤ n → n ≤ 1180591620717411303424 → R (.int n)
  | _ => False
set_option maxHeartbeats 0 in
theorem ok__law_number (T : Txt K mg) (D0 : Dfn K mg "_law_number" "_law_number" s__law_number ["pot"] []) (C__law_size : Cal P w K mg base tabs "_law_size" 3 1 ["pot"] [] sp__law_size) (C__law_draw : Cal P w K mg base tabs "_law_draw" 1 2 ["pot", "room"] [] sp__law_draw) : Cal P w K mg base tabs "_law_number" 4 1 ["pot"] [] sp__law_number := by
  refine cal_of D0 sc__law_number fun f cdv A outer s H E p ht hg hk hr => ⟨_, (pdss_cons (pds_set (i := 1) sc__law_number.nd rfl (Or.inl rfl) (pdcC (C__law_size.cal ht) hg hr (pda_cons (pd_var 0) pda_nil)))
      (pdss_one (pds_ret (pd_ifx (pdt_cmp (opd_eq hr.units) (pdcC (C__law_draw.cal ht) hg hr (pda_cons (pd_var 0) (pda_cons pd_int pda_nil))) pd_int) (pd_un und_neg (pd_var 1)) (pd_var 1))))), ?_⟩
  intro ds R hl h; unfold sp__law_number at h; split at h
  all_goals (try exact False.elim h)
  all_goals clear hl hg hr hk ht
  simp (implicitDefEqProofs := false) (maxSteps := 3000000) only [startD, List.map_cons, List.map_nil, List.length_cons, List.length_nil, List.replicate, List.cons_append, List.nil_append, Nat.reduceAdd, Nat.reduceSub, Nat.zero_add, dSeq, dIfS, dOr, dAnd, dNot, dTst, dOp, dUn, dVar, dC, dB, dBK, dCons, dNil, dTup, dLst, dRet, dRetN, dNext, dNever, dAsg, dPar, dPar3, dIf, dAndV, dOrV, dNotV, dCh, dCt, cLast, cLink, tLast, tLink, dDrop, dFor, dBrk, dCnt, dOwn, dApp, dExt, dFree, gPutO, dIxO, dLend, dLendT, dLcF, gN, gTu, gCn, gNl, gP0, gP1, gII, gIIc, gAdd, gNeg, gIx, gEq, gNe, gIs, gIsNot, gIn, gNotIn, gSl, oNone, oSome, gMt, gIndex, cTuple, cList, cI1, cI2, cInt, cLen, cMax, cMin, cMaxT, cMinT, dAug, cAll, cAny, cRepr, cSqrt, cIsi, tyN, isNon, kb_tt, kb_ii, kb_ib, kb_bi, kb_bb, kb_it, kb_bt, kb_nt, kb_ni, kb_lt, kb_li, kb_ti, kb_si, kb_st, kb_ss, rd, dTru, dRgN, dEnum, gMulT, gDivN, gEqF, dCallV, spOf, atD, ordD, dSq, dZip, zipD_map, ivD, dRg1, dRg2, dLc, dYes, dLcGo, dGen, dGenGo, wipeD, boolsOf, intsOf, maxL, minL, noL, noLs, Option.map_some, Option.bind_some, List.all_cons, List.all_nil, List.any_cons, List.any_nil, id_eq, List.set_cons_zero, List.set_cons_succ, List.getElem?_cons_zero, List.getElem?_cons_succ, List.getElem?_nil, List.getD_cons_zero, List.getD_cons_succ, decide_eq_true_eq, decide_eq_false_iff_not, Bool.not_eq_true', Bool.not_true, Bool.not_false, Bool.and_true, Bool.true_and, Bool.and_false, Bool.false_and, Bool.false_eq_true, if_true, if_false, reduceIte, ite_true, ite_false, true_and, and_true, reduceCtorEq, Int.toNat_zero, Int.toNat_one, Int.cast_ofNat_Int, Int.reduceLT, Int.reduceLE, Int.reduceNeg, Int.reduceToNat, Int.reducePow, Int.reduceMul, Int.reduceAdd, Int.reduceSub, decide_true, decide_false, sp__law_size, sp__law_draw]
  intro n n0 n1 d d0 d1
  refine ite2P (fun e => ?_) fun e => ?_
  · exact h _ (by omega) (by omega)
  · exact h _ (by omega) (by omega)
def sp__law_interval : SpD :=
  fun ds R => match ds with
  | [.pot] => ∀ q, Iv q → R (ivD q)
  | _ => False
set_option maxHeartbeats 0 in
theorem ok__law_interval (T : Txt K mg) (D0 : Dfn K mg "_law_interval" "_law_interval" s__law_interval ["pot"] []) (C__law_number : Cal P w K mg base tabs "_law_number" 4 1 ["pot"] [] sp__law_number) (C__law_draw : Cal P w K mg base tabs "_law_draw" 1 2 ["pot", "room"] [] sp__law_draw) : Cal P w K mg base tabs "_law_interval" 5 1 ["pot"] [] sp__law_interval := by
  refine cal_of D0 sc__law_interval fun f cdv A outer s H E p ht hg hk hr => ⟨_, (pdss_cons (pds_par (i := 1) (j := 2) rfl sc__law_interval.nd rfl rfl (by decide) rfl rfl (pda_cons (pdcC (C__law_number.cal ht) hg hr (pda_cons (pd_var 0) pda_nil)) (pda_cons (pdcC (C__law_number.cal ht) hg hr (pda_cons (pd_var 0) pda_nil)) pda_nil)) (by rfl))
      (pdss_cons (pds_if (pdt_cmp (opd_eq hr.units) (pdcC (C__law_draw.cal ht) hg hr (pda_cons (pd_var 0) (pda_cons pd_int pda_nil))) pd_int) (pdss_one (pds_set (i := 2) sc__law_interval.nd rfl (Or.inl rfl) (pd_var 1))) pdss_nil)
      (pdss_one (pds_ret (pd_tup (pda_cons (pd_callB (cd_minT rfl hr.u65) rfl T.b_min PyProof.Rows.boot_min (pda_cons (pd_var 1) (pda_cons (pd_var 2) pda_nil))) (pda_cons (pd_callB (cd_maxT rfl hr.u65) rfl T.b_max PyProof.Rows.boot_max (pda_cons (pd_var 1) (pda_cons (pd_var 2) pda_nil))) pda_nil))))))), ?_⟩
  intro ds R hl h; unfold sp__law_interval at h; split at h
  all_goals (try exact False.elim h)
  all_goals clear hl hg hr hk ht
  simp (implicitDefEqProofs := false) (maxSteps := 3000000) only [startD, List.map_cons, List.map_nil, List.length_cons, List.length_nil, List.replicate, List.cons_append, List.nil_append, Nat.reduceAdd, Nat.reduceSub, Nat.zero_add, dSeq, dIfS, dOr, dAnd, dNot, dTst, dOp, dUn, dVar, dC, dB, dBK, dCons, dNil, dTup, dLst, dRet, dRetN, dNext, dNever, dAsg, dPar, dPar3, dIf, dAndV, dOrV, dNotV, dCh, dCt, cLast, cLink, tLast, tLink, dDrop, dFor, dBrk, dCnt, dOwn, dApp, dExt, dFree, gPutO, dIxO, dLend, dLendT, dLcF, gN, gTu, gCn, gNl, gP0, gP1, gII, gIIc, gAdd, gNeg, gIx, gEq, gNe, gIs, gIsNot, gIn, gNotIn, gSl, oNone, oSome, gMt, gIndex, cTuple, cList, cI1, cI2, cInt, cLen, cMax, cMin, cMaxT, cMinT, dAug, cAll, cAny, cRepr, cSqrt, cIsi, tyN, isNon, kb_tt, kb_ii, kb_ib, kb_bi, kb_bb, kb_it, kb_bt, kb_nt, kb_ni, kb_lt, kb_li, kb_ti, kb_si, kb_st, kb_ss, rd, dTru, dRgN, dEnum, gMulT, gDivN, gEqF, dCallV, spOf, atD, ordD, dSq, dZip, zipD_map, ivD, dRg1, dRg2, dLc, dYes, dLcGo, dGen, dGenGo, wipeD, boolsOf, intsOf, maxL, minL, noL, noLs, Option.map_some, Option.bind_some, List.all_cons, List.all_nil, List.any_cons, List.any_nil, id_eq, List.set_cons_zero, List.set_cons_succ, List.getElem?_cons_zero, List.getElem?_cons_succ, List.getElem?_nil, List.getD_cons_zero, List.getD_cons_succ, decide_eq_true_eq, decide_eq_false_iff_not, Bool.not_eq_true', Bool.not_true, Bool.not_false, Bool.and_true, Bool.true_and, Bool.and_false, Bool.false_and, Bool.false_eq_true, if_true, if_false, reduceIte, ite_true, ite_false, true_and, and_true, reduceCtorEq, Int.toNat_zero, Int.toNat_one, Int.cast_ofNat_Int, Int.reduceLT, Int.reduceLE, Int.reduceNeg, Int.reduceToNat, Int.reducePow, Int.reduceMul, Int.reduceAdd, Int.reduceSub, decide_true, decide_false, sp__law_number, sp__law_draw]
  intro a a0 a1 b b0 b1 d d0 d1
  refine ite2P (fun e => ?_) fun e => ?_
  · exact h (min a a, max a a) ⟨by show _ ≤ min a a; omega, by show min a a ≤ max a a; omega, by show max a a ≤ _; omega⟩
  · exact h (min a b, max a b) ⟨by show _ ≤ min a b; omega, by show min a b ≤ max a b; omega, by show max a b ≤ _; omega⟩
def sp__law_small_ratio : SpD :=
  fun ds R => match ds with
  | [.pot] => ∀ q, Pr q → R (ivD q)
  | _ => False
set_option maxHeartbeats 0 in
theorem ok__law_small_ratio (T : Txt K mg) (D0 : Dfn K mg "_law_small_ratio" "_law_small_ratio" s__law_small_ratio ["pot"] []) (C__law_draw : Cal P w K mg base tabs "_law_draw" 1 2 ["pot", "room"] [] sp__law_draw) (C__law_ratio : Cal P w K mg base tabs "_law_ratio" 2 2 ["number", "under"] [] sp__law_ratio) : Cal P w K mg base tabs "_law_small_ratio" 3 1 ["pot"] [] sp__law_small_ratio := by
  refine cal_of D0 sc__law_small_ratio fun f cdv A outer s H E p ht hg hk hr => ⟨_, (pdss_cons (pds_set (i := 1) sc__law_small_ratio.nd rfl (Or.inl rfl) (pd_bin opd_sub (pdcC (C__law_draw.cal ht) hg hr (pda_cons (pd_var 0) (pda_cons pd_int pda_nil))) pd_int))
      (pdss_one (pds_ret (pdcC (C__law_ratio.cal ht) hg hr (pda_cons (pd_var 1) (pda_cons (pd_bin opd_add pd_int (pdcC (C__law_draw.cal ht) hg hr (pda_cons (pd_var 0) (pda_cons pd_int pda_nil)))) pda_nil)))))), ?_⟩
  intro ds R hl h; unfold sp__law_small_ratio at h; split at h
  all_goals (try exact False.elim h)
  all_goals clear hl hg hr hk ht
  simp (implicitDefEqProofs := false) (maxSteps := 3000000) only [startD, List.map_cons, List.map_nil, List.length_cons, List.length_nil, List.replicate, List.cons_append, List.nil_append, Nat.reduceAdd, Nat.reduceSub, Nat.zero_add, dSeq, dIfS, dOr, dAnd, dNot, dTst, dOp, dUn, dVar, dC, dB, dBK, dCons, dNil, dTup, dLst, dRet, dRetN, dNext, dNever, dAsg, dPar, dPar3, dIf, dAndV, dOrV, dNotV, dCh, dCt, cLast, cLink, tLast, tLink, dDrop, dFor, dBrk, dCnt, dOwn, dApp, dExt, dFree, gPutO, dIxO, dLend, dLendT, dLcF, gN, gTu, gCn, gNl, gP0, gP1, gII, gIIc, gAdd, gNeg, gIx, gEq, gNe, gIs, gIsNot, gIn, gNotIn, gSl, oNone, oSome, gMt, gIndex, cTuple, cList, cI1, cI2, cInt, cLen, cMax, cMin, cMaxT, cMinT, dAug, cAll, cAny, cRepr, cSqrt, cIsi, tyN, isNon, kb_tt, kb_ii, kb_ib, kb_bi, kb_bb, kb_it, kb_bt, kb_nt, kb_ni, kb_lt, kb_li, kb_ti, kb_si, kb_st, kb_ss, rd, dTru, dRgN, dEnum, gMulT, gDivN, gEqF, dCallV, spOf, atD, ordD, dSq, dZip, zipD_map, ivD, dRg1, dRg2, dLc, dYes, dLcGo, dGen, dGenGo, wipeD, boolsOf, intsOf, maxL, minL, noL, noLs, Option.map_some, Option.bind_some, List.all_cons, List.all_nil, List.any_cons, List.any_nil, id_eq, List.set_cons_zero, List.set_cons_succ, List.getElem?_cons_zero, List.getElem?_cons_succ, List.getElem?_nil, List.getD_cons_zero, List.getD_cons_succ, decide_eq_true_eq, decide_eq_false_iff_not, Bool.not_eq_true', Bool.not_true, Bool.not_false, Bool.and_true, Bool.true_and, Bool.and_false, Bool.false_and, Bool.false_eq_true, if_true, if_false, reduceIte, ite_true, ite_false, true_and, and_true, reduceCtorEq, Int.toNat_zero, Int.toNat_one, Int.cast_ofNat_Int, Int.reduceLT, Int.reduceLE, Int.reduceNeg, Int.reduceToNat, Int.reducePow, Int.reduceMul, Int.reduceAdd, Int.reduceSub, decide_true, decide_false, sp__law_draw, sp__law_ratio]
  intro n n0 n1 d d0 d1
  refine ⟨⟨by omega, by omega⟩, fun q hq e => h q ⟨hq, ?_, ?_⟩⟩
  · have := hq.pos
    have e1 : q.1 * (1 + d) = (n - 25) * q.2 := e
    have g1 := Int.mul_le_mul_of_nonneg_right (show -25 ≤ n - 25 by omega) (show 0 ≤ q.2 by omega)
    by_cases c : 0 ≤ q.1
    · omega
    · have g2 := Int.mul_le_mul_of_nonneg_left (show 1 ≤ 1 + d by omega) (show 0 ≤ -q.1 by omega)
      rw [Int.neg_mul, Int.neg_mul] at g2
      omega
  · have := hq.pos
    have e1 : q.1 * (1 + d) = (n - 25) * q.2 := e
    have g1 := Int.mul_le_mul_of_nonneg_right (show n - 25 ≤ 35 by omega) (show 0 ≤ q.2 by omega)
    by_cases c : 0 ≤ q.1
    · have g2 := Int.mul_le_mul_of_nonneg_left (show 1 ≤ 1 + d by omega) c
      omega
    · omega
def sp__law_within : SpD :=
  fun ds R => match ds with
  | [.pot, .tup [.int a, .int b]] => Iv (a, b) ∧ ∀ q, Pr q → R (ivD q)
  | _ => False
set_option maxHeartbeats 0 in
theorem ok__law_within (T : Txt K mg) (D0 : Dfn K mg "_law_within" "_law_within" s__law_within ["pot", "interval"] []) (C__law_draw : Cal P w K mg base tabs "_law_draw" 1 2 ["pot", "room"] [] sp__law_draw) (C__law_ratio : Cal P w K mg base tabs "_law_ratio" 2 2 ["number", "under"] [] sp__law_ratio) (C__law_one : Cal P w K mg base tabs "_law_one" 1 0 [] [] sp__law_one) : Cal P w K mg base tabs "_law_within" 3 2 ["pot", "interval"] [] sp__law_within := by
  refine cal_of D0 sc__law_within fun f cdv A outer s H E p ht hg hk hr => ⟨_, (pdss_cons (pds_asg (pd_var 1) (pdg_tup (n := 2) rfl (pdgs_cons (pdg_name (i := 2) sc__law_within.nd rfl (Or.inl rfl)) (pdgs_cons (pdg_name (i := 3) sc__law_within.nd rfl (Or.inl rfl)) pdgs_nil))))
      (pdss_cons (pds_set (i := 4) sc__law_within.nd rfl (Or.inl rfl) (pd_bin opd_add pd_int (pdcC (C__law_draw.cal ht) hg hr (pda_cons (pd_var 0) (pda_cons pd_int pda_nil)))))
      (pdss_cons (pds_set (i := 5) sc__law_within.nd rfl (Or.inl rfl) (pdcC (C__law_draw.cal ht) hg hr (pda_cons (pd_var 0) (pda_cons (pd_bin opd_add (pd_var 4) pd_int) pda_nil))))
      (pdss_one (pds_ret (pdcC (C__law_ratio.cal ht) hg hr (pda_cons (pd_bin opd_add (pd_bin opd_mul (pd_var 2) (pd_bin opd_sub (pd_var 4) (pd_var 5))) (pd_bin opd_mul (pd_var 3) (pd_var 5))) (pda_cons (pd_bin opd_mul (pd_var 4) (pdcC0 (C__law_one.cal ht) hg hr)) pda_nil)))))))), ?_⟩
  intro ds R hl h; unfold sp__law_within at h; split at h
  all_goals (try exact False.elim h)
  all_goals clear hl hg hr hk ht
  rename_i lo hi
  obtain ⟨iv, h⟩ := h
  have i1 : -1180591620717411303424 ≤ lo := iv.lo
  have i2 : lo ≤ hi := iv.le
  have i3 : hi ≤ 1180591620717411303424 := iv.hi
  simp (implicitDefEqProofs := false) (maxSteps := 3000000) only [startD, List.map_cons, List.map_nil, List.length_cons, List.length_nil, List.replicate, List.cons_append, List.nil_append, Nat.reduceAdd, Nat.reduceSub, Nat.zero_add, dSeq, dIfS, dOr, dAnd, dNot, dTst, dOp, dUn, dVar, dC, dB, dBK, dCons, dNil, dTup, dLst, dRet, dRetN, dNext, dNever, dAsg, dPar, dPar3, dIf, dAndV, dOrV, dNotV, dCh, dCt, cLast, cLink, tLast, tLink, dDrop, dFor, dBrk, dCnt, dOwn, dApp, dExt, dFree, gPutO, dIxO, dLend, dLendT, dLcF, gN, gTu, gCn, gNl, gP0, gP1, gII, gIIc, gAdd, gNeg, gIx, gEq, gNe, gIs, gIsNot, gIn, gNotIn, gSl, oNone, oSome, gMt, gIndex, cTuple, cList, cI1, cI2, cInt, cLen, cMax, cMin, cMaxT, cMinT, dAug, cAll, cAny, cRepr, cSqrt, cIsi, tyN, isNon, kb_tt, kb_ii, kb_ib, kb_bi, kb_bb, kb_it, kb_bt, kb_nt, kb_ni, kb_lt, kb_li, kb_ti, kb_si, kb_st, kb_ss, rd, dTru, dRgN, dEnum, gMulT, gDivN, gEqF, dCallV, spOf, atD, ordD, dSq, dZip, zipD_map, ivD, dRg1, dRg2, dLc, dYes, dLcGo, dGen, dGenGo, wipeD, boolsOf, intsOf, maxL, minL, noL, noLs, Option.map_some, Option.bind_some, List.all_cons, List.all_nil, List.any_cons, List.any_nil, id_eq, List.set_cons_zero, List.set_cons_succ, List.getElem?_cons_zero, List.getElem?_cons_succ, List.getElem?_nil, List.getD_cons_zero, List.getD_cons_succ, decide_eq_true_eq, decide_eq_false_iff_not, Bool.not_eq_true', Bool.not_true, Bool.not_false, Bool.and_true, Bool.true_and, Bool.and_false, Bool.false_and, Bool.false_eq_true, if_true, if_false, reduceIte, ite_true, ite_false, true_and, and_true, reduceCtorEq, Int.toNat_zero, Int.toNat_one, Int.cast_ofNat_Int, Int.reduceLT, Int.reduceLE, Int.reduceNeg, Int.reduceToNat, Int.reducePow, Int.reduceMul, Int.reduceAdd, Int.reduceSub, decide_true, decide_false, sp__law_draw, sp__law_ratio, sp__law_one]
  intro u u0 u1
  refine ⟨⟨by omega, by omega⟩, fun t t0 t1 => ?_⟩
  refine ⟨by (first | assumption | omega | (exact BD.of (by omega) (by omega)) | (exact BS.of (by omega) (by omega)) | (exact MulC.left (by omega) (by omega)) | (exact MulC.right (by omega) (by omega)) | (exact MulC.wide (by omega) (by omega) (by omega) (by omega)) | (exact em0 (by omega)) | (exact em1 (by omega)) | (exact ed0 (by omega) (by omega))), by (first | assumption | omega | (exact BD.of (by omega) (by omega)) | (exact BS.of (by omega) (by omega)) | (exact MulC.left (by omega) (by omega)) | (exact MulC.right (by omega) (by omega)) | (exact MulC.wide (by omega) (by omega) (by omega) (by omega)) | (exact em0 (by omega)) | (exact em1 (by omega)) | (exact ed0 (by omega) (by omega))), by (first | assumption | omega | (exact BD.of (by omega) (by omega)) | (exact BS.of (by omega) (by omega)) | (exact MulC.left (by omega) (by omega)) | (exact MulC.right (by omega) (by omega)) | (exact MulC.wide (by omega) (by omega) (by omega) (by omega)) | (exact em0 (by omega)) | (exact em1 (by omega)) | (exact ed0 (by omega) (by omega))), ⟨by omega, by omega⟩, fun q hq e => h q ⟨hq, ?_, ?_⟩⟩
  all_goals
    have hp := hq.pos
    have e1 : q.1 * 1099511627776 * (1 + u) = (lo * (1 + u - t) + hi * t) * q.2 := by rw [← e]; grind
    have k1 := Int.mul_le_mul_of_nonneg_right i2 t0
    have k2 := Int.mul_le_mul_of_nonneg_right i2 (show 0 ≤ 1 + u - t by omega)
    have k3 : lo * (1 + u) ≤ lo * (1 + u - t) + hi * t := by
      have : lo * (1 + u) = lo * (1 + u - t) + lo * t := by grind
      omega
    have k4 : lo * (1 + u - t) + hi * t ≤ hi * (1 + u) := by
      have : hi * (1 + u) = hi * (1 + u - t) + hi * t := by grind
      omega
    have k5 := Int.mul_le_mul_of_nonneg_right k3 (show 0 ≤ q.2 by omega)
    have k6 := Int.mul_le_mul_of_nonneg_right k4 (show 0 ≤ q.2 by omega)
    have k7 := Int.mul_le_mul_of_nonneg_right i1 (show 0 ≤ q.2 by omega)
    have k8 := Int.mul_le_mul_of_nonneg_right i3 (show 0 ≤ q.2 by omega)
  · have e2 : lo * q.2 * (1 + u) = lo * (1 + u) * q.2 := by grind
    have : lo * q.2 ≤ q.1 * 1099511627776 := Int.le_of_mul_le_mul_right (show lo * q.2 * (1 + u) ≤ q.1 * 1099511627776 * (1 + u) by rw [e1, e2]; exact k5) (by omega)
    omega
  · have e2 : hi * q.2 * (1 + u) = hi * (1 + u) * q.2 := by grind
    have : q.1 * 1099511627776 ≤ hi * q.2 := Int.le_of_mul_le_mul_right (show q.1 * 1099511627776 * (1 + u) ≤ hi * q.2 * (1 + u) by rw [e1, e2]; exact k6) (by omega)
    omega
def sp__law_has : SpD :=
  fun ds R => match ds with
  | [.tup [.int a, .int b], .tup [.int n, .int d]] => (MulC a d ∧ MulC b d) ∧ R (.bl (decide (a * d ≤ n * 1099511627776) && decide (n * 1099511627776 ≤ b * d)))
  | _ => False
set_option maxHeartbeats 0 in
theorem ok__law_has (T : Txt K mg) (D0 : Dfn K mg "_law_has" "_law_has" s__law_has ["interval", "ratio"] []) (C__law_one : Cal P w K mg base tabs "_law_one" 1 0 [] [] sp__law_one) : Cal P w K mg base tabs "_law_has" 2 2 ["interval", "ratio"] [] sp__law_has := by
  refine cal_of D0 sc__law_has fun f cdv A outer s H E p ht hg hk hr => ⟨_, (pdss_cons (pds_asg (pd_var 0) (pdg_tup (n := 2) rfl (pdgs_cons (pdg_name (i := 2) sc__law_has.nd rfl (Or.inl rfl)) (pdgs_cons (pdg_name (i := 3) sc__law_has.nd rfl (Or.inl rfl)) pdgs_nil))))
      (pdss_one (pds_ret (pd_chainN (pd_bin opd_mul (pd_var 2) (pd_ix (pd_var 1) pd_int)) (pch_cons opd_le (pd_bin opd_mul (pd_ix (pd_var 1) pd_int) (pdcC0 (C__law_one.cal ht) hg hr)) (pch_last opd_le (pd_bin opd_mul (pd_var 3) (pd_ix (pd_var 1) pd_int)))))))), ?_⟩
  intro ds R hl h; unfold sp__law_has at h; split at h
  all_goals (try exact False.elim h)
  all_goals clear hl hg hr hk ht
  rename_i a b n d
  obtain ⟨⟨h1, h2⟩, h⟩ := h
  simp (implicitDefEqProofs := false) (maxSteps := 3000000) only [startD, List.map_cons, List.map_nil, List.length_cons, List.length_nil, List.replicate, List.cons_append, List.nil_append, Nat.reduceAdd, Nat.reduceSub, Nat.zero_add, dSeq, dIfS, dOr, dAnd, dNot, dTst, dOp, dUn, dVar, dC, dB, dBK, dCons, dNil, dTup, dLst, dRet, dRetN, dNext, dNever, dAsg, dPar, dPar3, dIf, dAndV, dOrV, dNotV, dCh, dCt, cLast, cLink, tLast, tLink, dDrop, dFor, dBrk, dCnt, dOwn, dApp, dExt, dFree, gPutO, dIxO, dLend, dLendT, dLcF, gN, gTu, gCn, gNl, gP0, gP1, gII, gIIc, gAdd, gNeg, gIx, gEq, gNe, gIs, gIsNot, gIn, gNotIn, gSl, oNone, oSome, gMt, gIndex, cTuple, cList, cI1, cI2, cInt, cLen, cMax, cMin, cMaxT, cMinT, dAug, cAll, cAny, cRepr, cSqrt, cIsi, tyN, isNon, kb_tt, kb_ii, kb_ib, kb_bi, kb_bb, kb_it, kb_bt, kb_nt, kb_ni, kb_lt, kb_li, kb_ti, kb_si, kb_st, kb_ss, rd, dTru, dRgN, dEnum, gMulT, gDivN, gEqF, dCallV, spOf, atD, ordD, dSq, dZip, zipD_map, ivD, dRg1, dRg2, dLc, dYes, dLcGo, dGen, dGenGo, wipeD, boolsOf, intsOf, maxL, minL, noL, noLs, Option.map_some, Option.bind_some, List.all_cons, List.all_nil, List.any_cons, List.any_nil, id_eq, List.set_cons_zero, List.set_cons_succ, List.getElem?_cons_zero, List.getElem?_cons_succ, List.getElem?_nil, List.getD_cons_zero, List.getD_cons_succ, decide_eq_true_eq, decide_eq_false_iff_not, Bool.not_eq_true', Bool.not_true, Bool.not_false, Bool.and_true, Bool.true_and, Bool.and_false, Bool.false_and, Bool.false_eq_true, if_true, if_false, reduceIte, ite_true, ite_false, true_and, and_true, reduceCtorEq, Int.toNat_zero, Int.toNat_one, Int.cast_ofNat_Int, Int.reduceLT, Int.reduceLE, Int.reduceNeg, Int.reduceToNat, Int.reducePow, Int.reduceMul, Int.reduceAdd, Int.reduceSub, decide_true, decide_false, sp__law_one]
  refine ⟨h1, .right (by omega) (by omega), ?_⟩
  by_cases e : a * d ≤ n * 1099511627776
  · rw [if_pos e]
    rw [decide_eq_true e, Bool.true_and] at h
    exact ⟨h2, h⟩
  · rw [if_neg e]
    rw [decide_eq_false e, Bool.false_and] at h
    exact h
def sp__law_box : SpD :=
  fun ds R => match ds with
  | [.pot, .int n] => (1 ≤ n ∧ n ≤ 8) ∧ ∀ b, Bx b → (b.length : Int) = n → R (.tup (b.map ivD))
  | _ => False
set_option maxHeartbeats 0 in
theorem ok__law_box (T : Txt K mg) (D0 : Dfn K mg "_law_box" "_law_box" s__law_box ["pot", "many"] []) (C__law_interval : Cal P w K mg base tabs "_law_interval" 5 1 ["pot"] [] sp__law_interval) : Cal P w K mg base tabs "_law_box" 6 2 ["pot", "many"] [] sp__law_box := by
  refine cal_of D0 sc__law_box fun f cdv A outer s H E p ht hg hk hr => ⟨_, (pdss_cons (pds_set (i := 2) sc__law_box.nd rfl (Or.inl rfl) (pd_tup pda_nil))
      (pdss_cons (pds_for rfl PassesOwn.never (pdi_rg1 T.b_range (pda_cons (pd_var 1) pda_nil)) (pdg_name (i := 3) sc__law_box.nd rfl (Or.inl rfl)) (pdss_one (pds_set (i := 2) sc__law_box.nd rfl (Or.inl rfl) (pd_bin opd_add (pd_var 2) (pd_tup (pda_cons (pdcC (C__law_interval.cal ht) hg hr (pda_cons (pd_var 0) pda_nil)) pda_nil))))))
      (pdss_one (pds_ret (pd_var 2))))), ?_⟩
  intro ds R hl h; unfold sp__law_box at h; split at h
  all_goals (try exact False.elim h)
  all_goals clear hl hg hr hk ht
  rename_i n
  obtain ⟨⟨h1, h2⟩, h⟩ := h
  simp (implicitDefEqProofs := false) (maxSteps := 3000000) only [startD, List.map_cons, List.map_nil, List.length_cons, List.length_nil, List.replicate, List.cons_append, List.nil_append, Nat.reduceAdd, Nat.reduceSub, Nat.zero_add, dSeq, dIfS, dOr, dAnd, dNot, dTst, dOp, dUn, dVar, dC, dB, dBK, dCons, dNil, dTup, dLst, dRet, dRetN, dNext, dNever, dAsg, dPar, dPar3, dIf, dAndV, dOrV, dNotV, dCh, dCt, cLast, cLink, tLast, tLink, dDrop, dFor, dBrk, dCnt, dOwn, dApp, dExt, dFree, gPutO, dIxO, dLend, dLendT, dLcF, gN, gTu, gCn, gNl, gP0, gP1, gII, gIIc, gAdd, gNeg, gIx, gEq, gNe, gIs, gIsNot, gIn, gNotIn, gSl, oNone, oSome, gMt, gIndex, cTuple, cList, cI1, cI2, cInt, cLen, cMax, cMin, cMaxT, cMinT, dAug, cAll, cAny, cRepr, cSqrt, cIsi, tyN, isNon, kb_tt, kb_ii, kb_ib, kb_bi, kb_bb, kb_it, kb_bt, kb_nt, kb_ni, kb_lt, kb_li, kb_ti, kb_si, kb_st, kb_ss, rd, dTru, dRgN, dEnum, gMulT, gDivN, gEqF, dCallV, spOf, atD, ordD, dSq, dZip, zipD_map, ivD, dRg1, dRg2, dLc, dYes, dLcGo, dGen, dGenGo, wipeD, boolsOf, intsOf, maxL, minL, noL, noLs, Option.map_some, Option.bind_some, List.all_cons, List.all_nil, List.any_cons, List.any_nil, id_eq, List.set_cons_zero, List.set_cons_succ, List.getElem?_cons_zero, List.getElem?_cons_succ, List.getElem?_nil, List.getD_cons_zero, List.getD_cons_succ, decide_eq_true_eq, decide_eq_false_iff_not, Bool.not_eq_true', Bool.not_true, Bool.not_false, Bool.and_true, Bool.true_and, Bool.and_false, Bool.false_and, Bool.false_eq_true, if_true, if_false, reduceIte, ite_true, ite_false, true_and, and_true, reduceCtorEq, Int.toNat_zero, Int.toNat_one, Int.cast_ofNat_Int, Int.reduceLT, Int.reduceLE, Int.reduceNeg, Int.reduceToNat, Int.reducePow, Int.reduceMul, Int.reduceAdd, Int.reduceSub, decide_true, decide_false, sp__law_interval]
  refine ⟨⟨by omega, by omega⟩, ?_⟩
  refine forInv (fun i τ => ∃ (b : List (Int × Int)) (o : Option D), τ = [some .pot, some (.int n), some (.tup (b.map ivD)), o] ∧ b.length = i ∧ ∀ q ∈ b, Iv q) _ _ ⟨[], none, rfl, rfl, fun q hq => by cases hq⟩ ?_ ?_
  · rintro k i x τ hx hk ⟨b, o, rfl, hl, hb⟩
    have hi : i < n.toNat := by
      have := (List.getElem?_eq_some_iff.mp hx).1
      rw [rng_len] at this
      omega
    simp (implicitDefEqProofs := false) (maxSteps := 3000000) only [startD, List.map_cons, List.map_nil, List.length_cons, List.length_nil, List.replicate, List.cons_append, List.nil_append, Nat.reduceAdd, Nat.reduceSub, Nat.zero_add, dSeq, dIfS, dOr, dAnd, dNot, dTst, dOp, dUn, dVar, dC, dB, dBK, dCons, dNil, dTup, dLst, dRet, dRetN, dNext, dNever, dAsg, dPar, dPar3, dIf, dAndV, dOrV, dNotV, dCh, dCt, cLast, cLink, tLast, tLink, dDrop, dFor, dBrk, dCnt, dOwn, dApp, dExt, dFree, gPutO, dIxO, dLend, dLendT, dLcF, gN, gTu, gCn, gNl, gP0, gP1, gII, gIIc, gAdd, gNeg, gIx, gEq, gNe, gIs, gIsNot, gIn, gNotIn, gSl, oNone, oSome, gMt, gIndex, cTuple, cList, cI1, cI2, cInt, cLen, cMax, cMin, cMaxT, cMinT, dAug, cAll, cAny, cRepr, cSqrt, cIsi, tyN, isNon, kb_tt, kb_ii, kb_ib, kb_bi, kb_bb, kb_it, kb_bt, kb_nt, kb_ni, kb_lt, kb_li, kb_ti, kb_si, kb_st, kb_ss, rd, dTru, dRgN, dEnum, gMulT, gDivN, gEqF, dCallV, spOf, atD, ordD, dSq, dZip, zipD_map, ivD, dRg1, dRg2, dLc, dYes, dLcGo, dGen, dGenGo, wipeD, boolsOf, intsOf, maxL, minL, noL, noLs, Option.map_some, Option.bind_some, List.all_cons, List.all_nil, List.any_cons, List.any_nil, id_eq, List.set_cons_zero, List.set_cons_succ, List.getElem?_cons_zero, List.getElem?_cons_succ, List.getElem?_nil, List.getD_cons_zero, List.getD_cons_succ, decide_eq_true_eq, decide_eq_false_iff_not, Bool.not_eq_true', Bool.not_true, Bool.not_false, Bool.and_true, Bool.true_and, Bool.and_false, Bool.false_and, Bool.false_eq_true, if_true, if_false, reduceIte, ite_true, ite_false, true_and, and_true, reduceCtorEq, Int.toNat_zero, Int.toNat_one, Int.cast_ofNat_Int, Int.reduceLT, Int.reduceLE, Int.reduceNeg, Int.reduceToNat, Int.reducePow, Int.reduceMul, Int.reduceAdd, Int.reduceSub, decide_true, decide_false, sp__law_interval]
    intro q hq
    refine ⟨by rw [List.length_map]; omega, hk _ ⟨b ++ [q], some x, by simp [ivD], by simp [hl], ?_⟩⟩
    intro z hz
    rcases List.mem_append.mp hz with hz | hz
    · exact hb z hz
    · rw [List.mem_singleton.mp hz]; exact hq
  · rintro τ ⟨b, o, rfl, hl, hb⟩
    rw [rng_len] at hl
    simp (implicitDefEqProofs := false) (maxSteps := 3000000) only [startD, List.map_cons, List.map_nil, List.length_cons, List.length_nil, List.replicate, List.cons_append, List.nil_append, Nat.reduceAdd, Nat.reduceSub, Nat.zero_add, dSeq, dIfS, dOr, dAnd, dNot, dTst, dOp, dUn, dVar, dC, dB, dBK, dCons, dNil, dTup, dLst, dRet, dRetN, dNext, dNever, dAsg, dPar, dPar3, dIf, dAndV, dOrV, dNotV, dCh, dCt, cLast, cLink, tLast, tLink, dDrop, dFor, dBrk, dCnt, dOwn, dApp, dExt, dFree, gPutO, dIxO, dLend, dLendT, dLcF, gN, gTu, gCn, gNl, gP0, gP1, gII, gIIc, gAdd, gNeg, gIx, gEq, gNe, gIs, gIsNot, gIn, gNotIn, gSl, oNone, oSome, gMt, gIndex, cTuple, cList, cI1, cI2, cInt, cLen, cMax, cMin, cMaxT, cMinT, dAug, cAll, cAny, cRepr, cSqrt, cIsi, tyN, isNon, kb_tt, kb_ii, kb_ib, kb_bi, kb_bb, kb_it, kb_bt, kb_nt, kb_ni, kb_lt, kb_li, kb_ti, kb_si, kb_st, kb_ss, rd, dTru, dRgN, dEnum, gMulT, gDivN, gEqF, dCallV, spOf, atD, ordD, dSq, dZip, zipD_map, ivD, dRg1, dRg2, dLc, dYes, dLcGo, dGen, dGenGo, wipeD, boolsOf, intsOf, maxL, minL, noL, noLs, Option.map_some, Option.bind_some, List.all_cons, List.all_nil, List.any_cons, List.any_nil, id_eq, List.set_cons_zero, List.set_cons_succ, List.getElem?_cons_zero, List.getElem?_cons_succ, List.getElem?_nil, List.getD_cons_zero, List.getD_cons_succ, decide_eq_true_eq, decide_eq_false_iff_not, Bool.not_eq_true', Bool.not_true, Bool.not_false, Bool.and_true, Bool.true_and, Bool.and_false, Bool.false_and, Bool.false_eq_true, if_true, if_false, reduceIte, ite_true, ite_false, true_and, and_true, reduceCtorEq, Int.toNat_zero, Int.toNat_one, Int.cast_ofNat_Int, Int.reduceLT, Int.reduceLE, Int.reduceNeg, Int.reduceToNat, Int.reducePow, Int.reduceMul, Int.reduceAdd, Int.reduceSub, decide_true, decide_false, sp__law_interval]
    exact h b ⟨by omega, by omega, hb⟩ (by omega)
def sp__law_other : SpD :=
  fun ds R => ∃ b, ds = [.pot, .tup (b.map ivD)] ∧ Bx b ∧ ∀ o, Bx o → b.length = o.length → R (.tup (o.map ivD))
set_option maxHeartbeats 0 in
theorem ok__law_other (T : Txt K mg) (D0 : Dfn K mg "_law_other" "_law_other" s__law_other ["pot", "box"] []) (C__law_draw : Cal P w K mg base tabs "_law_draw" 1 2 ["pot", "room"] [] sp__law_draw) (C__law_interval : Cal P w K mg base tabs "_law_interval" 5 1 ["pot"] [] sp__law_interval) (C__law_size : Cal P w K mg base tabs "_law_size" 3 1 ["pot"] [] sp__law_size) : Cal P w K mg base tabs "_law_other" 6 2 ["pot", "box"] [] sp__law_other := by
  refine cal_of D0 sc__law_other fun f cdv A outer s H E p ht hg hk hr => ⟨_, (pdss_cons (pds_par (i := 2) (j := 3) rfl sc__law_other.nd rfl rfl (by decide) rfl rfl (pda_cons (pd_tup pda_nil) (pda_cons (pdcC (C__law_draw.cal ht) hg hr (pda_cons (pd_var 0) (pda_cons pd_int pda_nil))) pda_nil)) (by rfl))
      (pdss_cons (pds_for rfl PassesOwn.never (pdi_sq (pd_var 1)) (pdg_tup (n := 2) rfl (pdgs_cons (pdg_name (i := 4) sc__law_other.nd rfl (Or.inl rfl)) (pdgs_cons (pdg_name (i := 5) sc__law_other.nd rfl (Or.inl rfl)) pdgs_nil))) (pdss_one (pds_if (pdt_cmp (opd_eq hr.units) (pd_var 3) pd_int) (pdss_one (pds_set (i := 2) sc__law_other.nd rfl (Or.inl rfl) (pd_bin opd_add (pd_var 2) (pd_tup (pda_cons (pdcC (C__law_interval.cal ht) hg hr (pda_cons (pd_var 0) pda_nil)) pda_nil))))) (pdss_one (pds_if (pdt_cmp (opd_eq hr.units) (pd_var 3) pd_int) (pdss_cons (pds_set (i := 6) sc__law_other.nd rfl (Or.inl rfl) (pd_bin opd_add (pd_var 4) (pd_bin opd_div (pd_bin opd_mul (pdcC (C__law_draw.cal ht) hg hr (pda_cons (pd_var 0) (pda_cons pd_int pda_nil))) (pd_bin opd_sub (pd_var 5) (pd_var 4))) pd_int)))
      (pdss_one (pds_set (i := 2) sc__law_other.nd rfl (Or.inl rfl) (pd_bin opd_add (pd_var 2) (pd_tup (pda_cons (pd_tup (pda_cons (pd_var 6) (pda_cons (pd_bin opd_sub (pd_var 5) (pd_bin opd_div (pd_bin opd_mul (pdcC (C__law_draw.cal ht) hg hr (pda_cons (pd_var 0) (pda_cons pd_int pda_nil))) (pd_bin opd_sub (pd_var 5) (pd_var 6))) pd_int)) pda_nil))) pda_nil)))))) (pdss_one (pds_if (pdt_cmp (opd_eq hr.units) (pd_var 3) pd_int) (pdss_cons (pds_set (i := 6) sc__law_other.nd rfl (Or.inl rfl) (pd_callB (cd_maxT rfl hr.u65) rfl T.b_max PyProof.Rows.boot_max (pda_cons (pd_bin opd_sub (pd_var 4) (pdcC (C__law_draw.cal ht) hg hr (pda_cons (pd_var 0) (pda_cons pd_int pda_nil)))) (pda_cons (pd_un und_neg (pd_bin opd_mul (pd_bin opd_pow pd_int pd_int) (pd_bin opd_pow pd_int pd_int))) pda_nil))))
      (pdss_one (pds_set (i := 2) sc__law_other.nd rfl (Or.inl rfl) (pd_bin opd_add (pd_var 2) (pd_tup (pda_cons (pd_tup (pda_cons (pd_var 6) (pda_cons (pd_callB (cd_minT rfl hr.u65) rfl T.b_min PyProof.Rows.boot_min (pda_cons (pd_bin opd_add (pd_var 5) (pdcC (C__law_draw.cal ht) hg hr (pda_cons (pd_var 0) (pda_cons pd_int pda_nil)))) (pda_cons (pd_bin opd_mul (pd_bin opd_pow pd_int pd_int) (pd_bin opd_pow pd_int pd_int)) pda_nil))) pda_nil))) pda_nil)))))) (pdss_cons (pds_set (i := 6) sc__law_other.nd rfl (Or.inl rfl) (pd_callB (cd_minT rfl hr.u65) rfl T.b_min PyProof.Rows.boot_min (pda_cons (pd_bin opd_add (pd_var 5) (pdcC (C__law_size.cal ht) hg hr (pda_cons (pd_var 0) pda_nil))) (pda_cons (pd_bin opd_mul (pd_bin opd_pow pd_int pd_int) (pd_bin opd_pow pd_int pd_int)) pda_nil))))
      (pdss_one (pds_set (i := 2) sc__law_other.nd rfl (Or.inl rfl) (pd_bin opd_add (pd_var 2) (pd_tup (pda_cons (pd_ifx (pdt_cmp (opd_eq hr.units) (pdcC (C__law_draw.cal ht) hg hr (pda_cons (pd_var 0) (pda_cons pd_int pda_nil))) pd_int) (pd_tup (pda_cons (pd_var 5) (pda_cons (pd_var 6) pda_nil))) (pd_tup (pda_cons (pd_var 4) (pda_cons (pd_var 5) pda_nil)))) pda_nil)))))))))))))
      (pdss_one (pds_ret (pd_var 2))))), ?_⟩
  intro ds R hl h; unfold sp__law_other at h
  clear hl hg hr hk ht
  obtain ⟨b, rfl, hb, h⟩ := h
  have hf := hb.few
  simp (implicitDefEqProofs := false) (maxSteps := 3000000) only [startD, List.map_cons, List.map_nil, List.length_cons, List.length_nil, List.replicate, List.cons_append, List.nil_append, Nat.reduceAdd, Nat.reduceSub, Nat.zero_add, dSeq, dIfS, dOr, dAnd, dNot, dTst, dOp, dUn, dVar, dC, dB, dBK, dCons, dNil, dTup, dLst, dRet, dRetN, dNext, dNever, dAsg, dPar, dPar3, dIf, dAndV, dOrV, dNotV, dCh, dCt, cLast, cLink, tLast, tLink, dDrop, dFor, dBrk, dCnt, dOwn, dApp, dExt, dFree, gPutO, dIxO, dLend, dLendT, dLcF, gN, gTu, gCn, gNl, gP0, gP1, gII, gIIc, gAdd, gNeg, gIx, gEq, gNe, gIs, gIsNot, gIn, gNotIn, gSl, oNone, oSome, gMt, gIndex, cTuple, cList, cI1, cI2, cInt, cLen, cMax, cMin, cMaxT, cMinT, dAug, cAll, cAny, cRepr, cSqrt, cIsi, tyN, isNon, kb_tt, kb_ii, kb_ib, kb_bi, kb_bb, kb_it, kb_bt, kb_nt, kb_ni, kb_lt, kb_li, kb_ti, kb_si, kb_st, kb_ss, rd, dTru, dRgN, dEnum, gMulT, gDivN, gEqF, dCallV, spOf, atD, ordD, dSq, dZip, zipD_map, ivD, dRg1, dRg2, dLc, dYes, dLcGo, dGen, dGenGo, wipeD, boolsOf, intsOf, maxL, minL, noL, noLs, Option.map_some, Option.bind_some, List.all_cons, List.all_nil, List.any_cons, List.any_nil, id_eq, List.set_cons_zero, List.set_cons_succ, List.getElem?_cons_zero, List.getElem?_cons_succ, List.getElem?_nil, List.getD_cons_zero, List.getD_cons_succ, decide_eq_true_eq, decide_eq_false_iff_not, Bool.not_eq_true', Bool.not_true, Bool.not_false, Bool.and_true, Bool.true_and, Bool.and_false, Bool.false_and, Bool.false_eq_true, if_true, if_false, reduceIte, ite_true, ite_false, true_and, and_true, reduceCtorEq, Int.toNat_zero, Int.toNat_one, Int.cast_ofNat_Int, Int.reduceLT, Int.reduceLE, Int.reduceNeg, Int.reduceToNat, Int.reducePow, Int.reduceMul, Int.reduceAdd, Int.reduceSub, decide_true, decide_false, sp__law_draw, sp__law_interval, sp__law_size]
  intro w w0 w1
  refine forList ivD b (fun done τ => ∃ (o : List (Int × Int)) (o1 o2 o3 : Option D), τ = [some .pot, some (.tup (b.map ivD)), some (.tup (o.map ivD)), some (.int w), o1, o2, o3] ∧ o.length = done.length ∧ ∀ q ∈ o, Iv q) _ ⟨[], none, none, none, rfl, rfl, fun q hq => by cases hq⟩ ?_ ?_
  · rintro k done x rest τ e hk ⟨o, o1, o2, o3, rfl, hl, ho⟩
    have hx := hb.iv x (by rw [e]; simp)
    have i1 := hx.lo
    have i2 := hx.le
    have i3 := hx.hi
    have hd : o.length ≤ 8 := by
      rw [e] at hf
      simp at hf
      omega
    have nx : ∀ (q : Int × Int) (p1 p2 p3 : Option D), Iv q → (List.map ivD o).length + 1 ≤ 1000000 ∧ k [some .pot, some (.tup (b.map ivD)), some (.tup (o.map ivD ++ [ivD q])), some (.int w), p1, p2, p3] := by
      intro q p1 p2 p3 hq
      refine ⟨by rw [List.length_map]; omega, hk _ ⟨o ++ [q], p1, p2, p3, by simp, by simp [hl], ?_⟩⟩
      intro z hz
      rcases List.mem_append.mp hz with hz | hz
      · exact ho z hz
      · rw [List.mem_singleton.mp hz]; exact hq
    simp only [ivD] at nx
    simp (implicitDefEqProofs := false) (maxSteps := 3000000) only [startD, List.map_cons, List.map_nil, List.length_cons, List.length_nil, List.replicate, List.cons_append, List.nil_append, Nat.reduceAdd, Nat.reduceSub, Nat.zero_add, dSeq, dIfS, dOr, dAnd, dNot, dTst, dOp, dUn, dVar, dC, dB, dBK, dCons, dNil, dTup, dLst, dRet, dRetN, dNext, dNever, dAsg, dPar, dPar3, dIf, dAndV, dOrV, dNotV, dCh, dCt, cLast, cLink, tLast, tLink, dDrop, dFor, dBrk, dCnt, dOwn, dApp, dExt, dFree, gPutO, dIxO, dLend, dLendT, dLcF, gN, gTu, gCn, gNl, gP0, gP1, gII, gIIc, gAdd, gNeg, gIx, gEq, gNe, gIs, gIsNot, gIn, gNotIn, gSl, oNone, oSome, gMt, gIndex, cTuple, cList, cI1, cI2, cInt, cLen, cMax, cMin, cMaxT, cMinT, dAug, cAll, cAny, cRepr, cSqrt, cIsi, tyN, isNon, kb_tt, kb_ii, kb_ib, kb_bi, kb_bb, kb_it, kb_bt, kb_nt, kb_ni, kb_lt, kb_li, kb_ti, kb_si, kb_st, kb_ss, rd, dTru, dRgN, dEnum, gMulT, gDivN, gEqF, dCallV, spOf, atD, ordD, dSq, dZip, zipD_map, ivD, dRg1, dRg2, dLc, dYes, dLcGo, dGen, dGenGo, wipeD, boolsOf, intsOf, maxL, minL, noL, noLs, Option.map_some, Option.bind_some, List.all_cons, List.all_nil, List.any_cons, List.any_nil, id_eq, List.set_cons_zero, List.set_cons_succ, List.getElem?_cons_zero, List.getElem?_cons_succ, List.getElem?_nil, List.getD_cons_zero, List.getD_cons_succ, decide_eq_true_eq, decide_eq_false_iff_not, Bool.not_eq_true', Bool.not_true, Bool.not_false, Bool.and_true, Bool.true_and, Bool.and_false, Bool.false_and, Bool.false_eq_true, if_true, if_false, reduceIte, ite_true, ite_false, true_and, and_true, reduceCtorEq, Int.toNat_zero, Int.toNat_one, Int.cast_ofNat_Int, Int.reduceLT, Int.reduceLE, Int.reduceNeg, Int.reduceToNat, Int.reducePow, Int.reduceMul, Int.reduceAdd, Int.reduceSub, decide_true, decide_false, sp__law_draw, sp__law_interval, sp__law_size]
    refine ite2P (fun e => ?_) fun e => ?_
    · exact fun q hq => nx q _ _ _ hq
    refine ite2P (fun e => ?_) fun e => ?_
    · intro r r0 r1
      have m0 : 0 ≤ r * (x.2 - x.1) := Int.mul_nonneg r0 (by omega)
      have m1 : r * (x.2 - x.1) ≤ 4 * (x.2 - x.1) := Int.mul_le_mul_of_nonneg_right (by omega) (by omega)
      refine ⟨by (first | assumption | omega | (exact BD.of (by omega) (by omega)) | (exact BS.of (by omega) (by omega)) | (exact MulC.left (by omega) (by omega)) | (exact MulC.right (by omega) (by omega)) | (exact MulC.wide (by omega) (by omega) (by omega) (by omega)) | (exact em0 (by omega)) | (exact em1 (by omega)) | (exact ed0 (by omega) (by omega))), by (first | assumption | omega | (exact BD.of (by omega) (by omega)) | (exact BS.of (by omega) (by omega)) | (exact MulC.left (by omega) (by omega)) | (exact MulC.right (by omega) (by omega)) | (exact MulC.wide (by omega) (by omega) (by omega) (by omega)) | (exact em0 (by omega)) | (exact em1 (by omega)) | (exact ed0 (by omega) (by omega))), fun s s0 s1 => ?_⟩
      have q0 : x.1 ≤ x.1 + r * (x.2 - x.1) / 8 := by omega
      have q1 : x.1 + r * (x.2 - x.1) / 8 ≤ x.2 := by omega
      generalize x.1 + r * (x.2 - x.1) / 8 = y at q0 q1
      have m2 : 0 ≤ s * (x.2 - y) := Int.mul_nonneg s0 (by omega)
      have m3 : s * (x.2 - y) ≤ 2 * (x.2 - y) := Int.mul_le_mul_of_nonneg_right (by omega) (by omega)
      refine ⟨by (first | assumption | omega | (exact BD.of (by omega) (by omega)) | (exact BS.of (by omega) (by omega)) | (exact MulC.left (by omega) (by omega)) | (exact MulC.right (by omega) (by omega)) | (exact MulC.wide (by omega) (by omega) (by omega) (by omega)) | (exact em0 (by omega)) | (exact em1 (by omega)) | (exact ed0 (by omega) (by omega))), by (first | assumption | omega | (exact BD.of (by omega) (by omega)) | (exact BS.of (by omega) (by omega)) | (exact MulC.left (by omega) (by omega)) | (exact MulC.right (by omega) (by omega)) | (exact MulC.wide (by omega) (by omega) (by omega) (by omega)) | (exact em0 (by omega)) | (exact em1 (by omega)) | (exact ed0 (by omega) (by omega))), nx (y, x.2 - s * (x.2 - y) / 4) _ _ _ ⟨?_, ?_, ?_⟩⟩
      · show _ ≤ y; omega
      · show y ≤ x.2 - s * (x.2 - y) / 4; omega
      · show x.2 - s * (x.2 - y) / 4 ≤ _; omega
    refine ite2P (fun e => ?_) fun e => ?_
    · intro r r0 r1
      refine ⟨by (first | assumption | omega | (exact BD.of (by omega) (by omega)) | (exact BS.of (by omega) (by omega)) | (exact MulC.left (by omega) (by omega)) | (exact MulC.right (by omega) (by omega)) | (exact MulC.wide (by omega) (by omega) (by omega) (by omega)) | (exact em0 (by omega)) | (exact em1 (by omega)) | (exact ed0 (by omega) (by omega))), fun s s0 s1 => ⟨by (first | assumption | omega | (exact BD.of (by omega) (by omega)) | (exact BS.of (by omega) (by omega)) | (exact MulC.left (by omega) (by omega)) | (exact MulC.right (by omega) (by omega)) | (exact MulC.wide (by omega) (by omega) (by omega) (by omega)) | (exact em0 (by omega)) | (exact em1 (by omega)) | (exact ed0 (by omega) (by omega))), ?_⟩⟩
      exact nx (max (x.1 - r) (-1180591620717411303424), min (x.2 + s) 1180591620717411303424) _ _ _ ⟨by show _ ≤ max _ _; omega, by show max _ _ ≤ min _ _; omega, by show min _ _ ≤ _; omega⟩
    · intro s s0 s1
      refine ⟨by (first | assumption | omega | (exact BD.of (by omega) (by omega)) | (exact BS.of (by omega) (by omega)) | (exact MulC.left (by omega) (by omega)) | (exact MulC.right (by omega) (by omega)) | (exact MulC.wide (by omega) (by omega) (by omega) (by omega)) | (exact em0 (by omega)) | (exact em1 (by omega)) | (exact ed0 (by omega) (by omega))), fun d d0 d1 => ?_⟩
      refine ite2P (fun e => ?_) fun e => ?_
      · exact nx (x.2, min (x.2 + s) 1180591620717411303424) _ _ _ ⟨by show _ ≤ x.2; omega, by show x.2 ≤ min _ _; omega, by show min _ _ ≤ _; omega⟩
      · exact nx x _ _ _ hx
  · rintro τ ⟨o, o1, o2, o3, rfl, hl, ho⟩
    simp (implicitDefEqProofs := false) (maxSteps := 3000000) only [startD, List.map_cons, List.map_nil, List.length_cons, List.length_nil, List.replicate, List.cons_append, List.nil_append, Nat.reduceAdd, Nat.reduceSub, Nat.zero_add, dSeq, dIfS, dOr, dAnd, dNot, dTst, dOp, dUn, dVar, dC, dB, dBK, dCons, dNil, dTup, dLst, dRet, dRetN, dNext, dNever, dAsg, dPar, dPar3, dIf, dAndV, dOrV, dNotV, dCh, dCt, cLast, cLink, tLast, tLink, dDrop, dFor, dBrk, dCnt, dOwn, dApp, dExt, dFree, gPutO, dIxO, dLend, dLendT, dLcF, gN, gTu, gCn, gNl, gP0, gP1, gII, gIIc, gAdd, gNeg, gIx, gEq, gNe, gIs, gIsNot, gIn, gNotIn, gSl, oNone, oSome, gMt, gIndex, cTuple, cList, cI1, cI2, cInt, cLen, cMax, cMin, cMaxT, cMinT, dAug, cAll, cAny, cRepr, cSqrt, cIsi, tyN, isNon, kb_tt, kb_ii, kb_ib, kb_bi, kb_bb, kb_it, kb_bt, kb_nt, kb_ni, kb_lt, kb_li, kb_ti, kb_si, kb_st, kb_ss, rd, dTru, dRgN, dEnum, gMulT, gDivN, gEqF, dCallV, spOf, atD, ordD, dSq, dZip, zipD_map, ivD, dRg1, dRg2, dLc, dYes, dLcGo, dGen, dGenGo, wipeD, boolsOf, intsOf, maxL, minL, noL, noLs, Option.map_some, Option.bind_some, List.all_cons, List.all_nil, List.any_cons, List.any_nil, id_eq, List.set_cons_zero, List.set_cons_succ, List.getElem?_cons_zero, List.getElem?_cons_succ, List.getElem?_nil, List.getD_cons_zero, List.getD_cons_succ, decide_eq_true_eq, decide_eq_false_iff_not, Bool.not_eq_true', Bool.not_true, Bool.not_false, Bool.and_true, Bool.true_and, Bool.and_false, Bool.false_and, Bool.false_eq_true, if_true, if_false, reduceIte, ite_true, ite_false, true_and, and_true, reduceCtorEq, Int.toNat_zero, Int.toNat_one, Int.cast_ofNat_Int, Int.reduceLT, Int.reduceLE, Int.reduceNeg, Int.reduceToNat, Int.reducePow, Int.reduceMul, Int.reduceAdd, Int.reduceSub, decide_true, decide_false, sp__law_draw, sp__law_interval, sp__law_size]
    exact h o ⟨by have := hb.one; omega, by omega, ho⟩ (by omega)
def sp__law_point : SpD :=
  fun ds R => ∃ b, ds = [.pot, .tup (b.map ivD)] ∧ Bx b ∧ ∀ p, Pp p → p.length = b.length → R (.tup (p.map ivD))
set_option maxHeartbeats 0 in
theorem ok__law_point (T : Txt K mg) (D0 : Dfn K mg "_law_point" "_law_point" s__law_point ["pot", "box"] []) (C__law_draw : Cal P w K mg base tabs "_law_draw" 1 2 ["pot", "room"] [] sp__law_draw) (C__law_within : Cal P w K mg base tabs "_law_within" 3 2 ["pot", "interval"] [] sp__law_within) (C__law_small_ratio : Cal P w K mg base tabs "_law_small_ratio" 3 1 ["pot"] [] sp__law_small_ratio) : Cal P w K mg base tabs "_law_point" 4 2 ["pot", "box"] [] sp__law_point := by
  refine cal_of D0 sc__law_point fun f cdv A outer s H E p ht hg hk hr => ⟨_, (pdss_cons (pds_set (i := 2) sc__law_point.nd rfl (Or.inl rfl) (pd_tup pda_nil))
      (pdss_cons (pds_for rfl PassesOwn.never (pdi_sq (pd_var 1)) (pdg_name (i := 3) sc__law_point.nd rfl (Or.inl rfl)) (pdss_one (pds_set (i := 2) sc__law_point.nd rfl (Or.inl rfl) (pd_bin opd_add (pd_var 2) (pd_tup (pda_cons (pd_ifx (pdt_cmp opd_gt (pdcC (C__law_draw.cal ht) hg hr (pda_cons (pd_var 0) (pda_cons pd_int pda_nil))) pd_int) (pdcC (C__law_within.cal ht) hg hr (pda_cons (pd_var 0) (pda_cons (pd_var 3) pda_nil))) (pdcC (C__law_small_ratio.cal ht) hg hr (pda_cons (pd_var 0) pda_nil))) pda_nil))))))
      (pdss_one (pds_ret (pd_var 2))))), ?_⟩
  intro ds R hl h; unfold sp__law_point at h
  clear hl hg hr hk ht
  obtain ⟨b, rfl, hb, h⟩ := h
  have hf := hb.few
  simp (implicitDefEqProofs := false) (maxSteps := 3000000) only [startD, List.map_cons, List.map_nil, List.length_cons, List.length_nil, List.replicate, List.cons_append, List.nil_append, Nat.reduceAdd, Nat.reduceSub, Nat.zero_add, dSeq, dIfS, dOr, dAnd, dNot, dTst, dOp, dUn, dVar, dC, dB, dBK, dCons, dNil, dTup, dLst, dRet, dRetN, dNext, dNever, dAsg, dPar, dPar3, dIf, dAndV, dOrV, dNotV, dCh, dCt, cLast, cLink, tLast, tLink, dDrop, dFor, dBrk, dCnt, dOwn, dApp, dExt, dFree, gPutO, dIxO, dLend, dLendT, dLcF, gN, gTu, gCn, gNl, gP0, gP1, gII, gIIc, gAdd, gNeg, gIx, gEq, gNe, gIs, gIsNot, gIn, gNotIn, gSl, oNone, oSome, gMt, gIndex, cTuple, cList, cI1, cI2, cInt, cLen, cMax, cMin, cMaxT, cMinT, dAug, cAll, cAny, cRepr, cSqrt, cIsi, tyN, isNon, kb_tt, kb_ii, kb_ib, kb_bi, kb_bb, kb_it, kb_bt, kb_nt, kb_ni, kb_lt, kb_li, kb_ti, kb_si, kb_st, kb_ss, rd, dTru, dRgN, dEnum, gMulT, gDivN, gEqF, dCallV, spOf, atD, ordD, dSq, dZip, zipD_map, ivD, dRg1, dRg2, dLc, dYes, dLcGo, dGen, dGenGo, wipeD, boolsOf, intsOf, maxL, minL, noL, noLs, Option.map_some, Option.bind_some, List.all_cons, List.all_nil, List.any_cons, List.any_nil, id_eq, List.set_cons_zero, List.set_cons_succ, List.getElem?_cons_zero, List.getElem?_cons_succ, List.getElem?_nil, List.getD_cons_zero, List.getD_cons_succ, decide_eq_true_eq, decide_eq_false_iff_not, Bool.not_eq_true', Bool.not_true, Bool.not_false, Bool.and_true, Bool.true_and, Bool.and_false, Bool.false_and, Bool.false_eq_true, if_true, if_false, reduceIte, ite_true, ite_false, true_and, and_true, reduceCtorEq, Int.toNat_zero, Int.toNat_one, Int.cast_ofNat_Int, Int.reduceLT, Int.reduceLE, Int.reduceNeg, Int.reduceToNat, Int.reducePow, Int.reduceMul, Int.reduceAdd, Int.reduceSub, decide_true, decide_false, sp__law_draw, sp__law_within, sp__law_small_ratio]
  refine forList ivD b (fun done τ => ∃ (o : List (Int × Int)) (o1 : Option D), τ = [some .pot, some (.tup (b.map ivD)), some (.tup (o.map ivD)), o1] ∧ o.length = done.length ∧ ∀ q ∈ o, Pr q) _ ⟨[], none, rfl, rfl, fun q hq => by cases hq⟩ ?_ ?_
  · rintro k done x rest τ e hk ⟨o, o1, rfl, hl, ho⟩
    have hx := hb.iv x (by rw [e]; simp)
    have hd : o.length ≤ 8 := by
      rw [e] at hf
      simp at hf
      omega
    have nx : ∀ (q : Int × Int) (p1 : Option D), Pr q → (List.map ivD o).length + 1 ≤ 1000000 ∧ k [some .pot, some (.tup (b.map ivD)), some (.tup (o.map ivD ++ [ivD q])), p1] := by
      intro q p1 hq
      refine ⟨by rw [List.length_map]; omega, hk _ ⟨o ++ [q], p1, by simp, by simp [hl], ?_⟩⟩
      intro z hz
      rcases List.mem_append.mp hz with hz | hz
      · exact ho z hz
      · rw [List.mem_singleton.mp hz]; exact hq
    simp only [ivD] at nx
    simp (implicitDefEqProofs := false) (maxSteps := 3000000) only [startD, List.map_cons, List.map_nil, List.length_cons, List.length_nil, List.replicate, List.cons_append, List.nil_append, Nat.reduceAdd, Nat.reduceSub, Nat.zero_add, dSeq, dIfS, dOr, dAnd, dNot, dTst, dOp, dUn, dVar, dC, dB, dBK, dCons, dNil, dTup, dLst, dRet, dRetN, dNext, dNever, dAsg, dPar, dPar3, dIf, dAndV, dOrV, dNotV, dCh, dCt, cLast, cLink, tLast, tLink, dDrop, dFor, dBrk, dCnt, dOwn, dApp, dExt, dFree, gPutO, dIxO, dLend, dLendT, dLcF, gN, gTu, gCn, gNl, gP0, gP1, gII, gIIc, gAdd, gNeg, gIx, gEq, gNe, gIs, gIsNot, gIn, gNotIn, gSl, oNone, oSome, gMt, gIndex, cTuple, cList, cI1, cI2, cInt, cLen, cMax, cMin, cMaxT, cMinT, dAug, cAll, cAny, cRepr, cSqrt, cIsi, tyN, isNon, kb_tt, kb_ii, kb_ib, kb_bi, kb_bb, kb_it, kb_bt, kb_nt, kb_ni, kb_lt, kb_li, kb_ti, kb_si, kb_st, kb_ss, rd, dTru, dRgN, dEnum, gMulT, gDivN, gEqF, dCallV, spOf, atD, ordD, dSq, dZip, zipD_map, ivD, dRg1, dRg2, dLc, dYes, dLcGo, dGen, dGenGo, wipeD, boolsOf, intsOf, maxL, minL, noL, noLs, Option.map_some, Option.bind_some, List.all_cons, List.all_nil, List.any_cons, List.any_nil, id_eq, List.set_cons_zero, List.set_cons_succ, List.getElem?_cons_zero, List.getElem?_cons_succ, List.getElem?_nil, List.getD_cons_zero, List.getD_cons_succ, decide_eq_true_eq, decide_eq_false_iff_not, Bool.not_eq_true', Bool.not_true, Bool.not_false, Bool.and_true, Bool.true_and, Bool.and_false, Bool.false_and, Bool.false_eq_true, if_true, if_false, reduceIte, ite_true, ite_false, true_and, and_true, reduceCtorEq, Int.toNat_zero, Int.toNat_one, Int.cast_ofNat_Int, Int.reduceLT, Int.reduceLE, Int.reduceNeg, Int.reduceToNat, Int.reducePow, Int.reduceMul, Int.reduceAdd, Int.reduceSub, decide_true, decide_false, sp__law_draw, sp__law_within, sp__law_small_ratio]
    intro r r0 r1
    refine ite2P (fun e => ?_) fun e => ?_
    · exact ⟨hx, fun q hq => nx q _ hq⟩
    · exact fun q hq => nx q _ hq
  · rintro τ ⟨o, o1, rfl, hl, ho⟩
    simp (implicitDefEqProofs := false) (maxSteps := 3000000) only [startD, List.map_cons, List.map_nil, List.length_cons, List.length_nil, List.replicate, List.cons_append, List.nil_append, Nat.reduceAdd, Nat.reduceSub, Nat.zero_add, dSeq, dIfS, dOr, dAnd, dNot, dTst, dOp, dUn, dVar, dC, dB, dBK, dCons, dNil, dTup, dLst, dRet, dRetN, dNext, dNever, dAsg, dPar, dPar3, dIf, dAndV, dOrV, dNotV, dCh, dCt, cLast, cLink, tLast, tLink, dDrop, dFor, dBrk, dCnt, dOwn, dApp, dExt, dFree, gPutO, dIxO, dLend, dLendT, dLcF, gN, gTu, gCn, gNl, gP0, gP1, gII, gIIc, gAdd, gNeg, gIx, gEq, gNe, gIs, gIsNot, gIn, gNotIn, gSl, oNone, oSome, gMt, gIndex, cTuple, cList, cI1, cI2, cInt, cLen, cMax, cMin, cMaxT, cMinT, dAug, cAll, cAny, cRepr, cSqrt, cIsi, tyN, isNon, kb_tt, kb_ii, kb_ib, kb_bi, kb_bb, kb_it, kb_bt, kb_nt, kb_ni, kb_lt, kb_li, kb_ti, kb_si, kb_st, kb_ss, rd, dTru, dRgN, dEnum, gMulT, gDivN, gEqF, dCallV, spOf, atD, ordD, dSq, dZip, zipD_map, ivD, dRg1, dRg2, dLc, dYes, dLcGo, dGen, dGenGo, wipeD, boolsOf, intsOf, maxL, minL, noL, noLs, Option.map_some, Option.bind_some, List.all_cons, List.all_nil, List.any_cons, List.any_nil, id_eq, List.set_cons_zero, List.set_cons_succ, List.getElem?_cons_zero, List.getElem?_cons_succ, List.getElem?_nil, List.getD_cons_zero, List.getD_cons_succ, decide_eq_true_eq, decide_eq_false_iff_not, Bool.not_eq_true', Bool.not_true, Bool.not_false, Bool.and_true, Bool.true_and, Bool.and_false, Bool.false_and, Bool.false_eq_true, if_true, if_false, reduceIte, ite_true, ite_false, true_and, and_true, reduceCtorEq, Int.toNat_zero, Int.toNat_one, Int.cast_ofNat_Int, Int.reduceLT, Int.reduceLE, Int.reduceNeg, Int.reduceToNat, Int.reducePow, Int.reduceMul, Int.reduceAdd, Int.reduceSub, decide_true, decide_false, sp__law_draw, sp__law_within, sp__law_small_ratio]
    exact h o ⟨by have := hb.one; omega, by omega, ho⟩ hl
def sp__law_in : SpD :=
  fun ds R => ∃ b p, ds = [.tup (b.map ivD), .tup (p.map ivD)] ∧ Bx b ∧ Pt p ∧ R (.bl ((b.zip p).all has))
set_option maxHeartbeats 0 in
theorem ok__law_in (T : Txt K mg) (D0 : Dfn K mg "_law_in" "_law_in" s__law_in ["box", "point"] []) (C__law_has : Cal P w K mg base tabs "_law_has" 2 2 ["interval", "ratio"] [] sp__law_has) : Cal P w K mg base tabs "_law_in" 3 2 ["box", "point"] [] sp__law_in := by
  refine cal_of D0 sc__law_in fun f cdv A outer s H E p ht hg hk hr => ⟨_, (pdss_one (pds_ret (pd_callB (cd_all rfl) rfl T.b_all PyProof.Rows.boot_all (pda_cons (pd_lc (own := [("interval", 2), ("one", 3)]) (t := (L2.gTup K 2 (L2.gCons (L2.gName 2) (L2.gCons (L2.gName 3) L2.gNil)))) rfl sc__law_in.nd (pdi_zip T.b_zip (pda_cons (pd_var 0) (pda_cons (pd_var 1) pda_nil))) (show blkC ["box", "point", "interval", "one"] (defScope s__law_in) _ _ = true by decide +kernel) (fun _ _ _ _ _ => (pgw_tup (n := 2) rfl (pgsw_cons (pgw_name (i := 2) (vs := [2, 3]) sc__law_in.nd rfl (Or.inl rfl)) (pgsw_cons (pgw_name (i := 3) (vs := [2, 3]) sc__law_in.nd rfl (Or.inl rfl)) pgsw_nil)))) (fun _ _ _ _ _ => (pdcC (C__law_has.cal ht) hg hr (pda_cons (pd_var 2) (pda_cons (pd_var 3) pda_nil)))) (sh := s)) pda_nil)))), ?_⟩
  intro ds R hl h; unfold sp__law_in at h
  clear hl hg hr hk ht
  obtain ⟨b, o, rfl, hb, ho, h⟩ := h
  have := hb.few
  simp (implicitDefEqProofs := false) (maxSteps := 3000000) only [startD, List.map_cons, List.map_nil, List.length_cons, List.length_nil, List.replicate, List.cons_append, List.nil_append, Nat.reduceAdd, Nat.reduceSub, Nat.zero_add, dSeq, dIfS, dOr, dAnd, dNot, dTst, dOp, dUn, dVar, dC, dB, dBK, dCons, dNil, dTup, dLst, dRet, dRetN, dNext, dNever, dAsg, dPar, dPar3, dIf, dAndV, dOrV, dNotV, dCh, dCt, cLast, cLink, tLast, tLink, dDrop, dFor, dBrk, dCnt, dOwn, dApp, dExt, dFree, gPutO, dIxO, dLend, dLendT, dLcF, gN, gTu, gCn, gNl, gP0, gP1, gII, gIIc, gAdd, gNeg, gIx, gEq, gNe, gIs, gIsNot, gIn, gNotIn, gSl, oNone, oSome, gMt, gIndex, cTuple, cList, cI1, cI2, cInt, cLen, cMax, cMin, cMaxT, cMinT, dAug, cAll, cAny, cRepr, cSqrt, cIsi, tyN, isNon, kb_tt, kb_ii, kb_ib, kb_bi, kb_bb, kb_it, kb_bt, kb_nt, kb_ni, kb_lt, kb_li, kb_ti, kb_si, kb_st, kb_ss, rd, dTru, dRgN, dEnum, gMulT, gDivN, gEqF, dCallV, spOf, atD, ordD, dSq, dZip, zipD_map, ivD, dRg1, dRg2, dLc, dYes, dLcGo, dGen, dGenGo, wipeD, boolsOf, intsOf, maxL, minL, noL, noLs, Option.map_some, Option.bind_some, List.all_cons, List.all_nil, List.any_cons, List.any_nil, id_eq, List.set_cons_zero, List.set_cons_succ, List.getElem?_cons_zero, List.getElem?_cons_succ, List.getElem?_nil, List.getD_cons_zero, List.getD_cons_succ, decide_eq_true_eq, decide_eq_false_iff_not, Bool.not_eq_true', Bool.not_true, Bool.not_false, Bool.and_true, Bool.true_and, Bool.and_false, Bool.false_and, Bool.false_eq_true, if_true, if_false, reduceIte, ite_true, ite_false, true_and, and_true, reduceCtorEq, Int.toNat_zero, Int.toNat_one, Int.cast_ofNat_Int, Int.reduceLT, Int.reduceLE, Int.reduceNeg, Int.reduceToNat, Int.reducePow, Int.reduceMul, Int.reduceAdd, Int.reduceSub, decide_true, decide_false, sp__law_has]
  refine ⟨lenOk_zip (by omega), lc_map _ (fun q => .bl (has q)) _ _ (fun q hq Q hQ => ?_) ?_⟩
  · have i1 := hb.iv _ (of_zip hq).1
    have i2 := ho.rt _ (of_zip hq).2
    have i3 := i1.lo
    have i4 := i1.hi
    have i5 := i1.le
    have i6 := i2.pos
    have i7 := i2.few
    simp (implicitDefEqProofs := false) (maxSteps := 3000000) only [startD, List.map_cons, List.map_nil, List.length_cons, List.length_nil, List.replicate, List.cons_append, List.nil_append, Nat.reduceAdd, Nat.reduceSub, Nat.zero_add, dSeq, dIfS, dOr, dAnd, dNot, dTst, dOp, dUn, dVar, dC, dB, dBK, dCons, dNil, dTup, dLst, dRet, dRetN, dNext, dNever, dAsg, dPar, dPar3, dIf, dAndV, dOrV, dNotV, dCh, dCt, cLast, cLink, tLast, tLink, dDrop, dFor, dBrk, dCnt, dOwn, dApp, dExt, dFree, gPutO, dIxO, dLend, dLendT, dLcF, gN, gTu, gCn, gNl, gP0, gP1, gII, gIIc, gAdd, gNeg, gIx, gEq, gNe, gIs, gIsNot, gIn, gNotIn, gSl, oNone, oSome, gMt, gIndex, cTuple, cList, cI1, cI2, cInt, cLen, cMax, cMin, cMaxT, cMinT, dAug, cAll, cAny, cRepr, cSqrt, cIsi, tyN, isNon, kb_tt, kb_ii, kb_ib, kb_bi, kb_bb, kb_it, kb_bt, kb_nt, kb_ni, kb_lt, kb_li, kb_ti, kb_si, kb_st, kb_ss, rd, dTru, dRgN, dEnum, gMulT, gDivN, gEqF, dCallV, spOf, atD, ordD, dSq, dZip, zipD_map, ivD, dRg1, dRg2, dLc, dYes, dLcGo, dGen, dGenGo, wipeD, boolsOf, intsOf, maxL, minL, noL, noLs, Option.map_some, Option.bind_some, List.all_cons, List.all_nil, List.any_cons, List.any_nil, id_eq, List.set_cons_zero, List.set_cons_succ, List.getElem?_cons_zero, List.getElem?_cons_succ, List.getElem?_nil, List.getD_cons_zero, List.getD_cons_succ, decide_eq_true_eq, decide_eq_false_iff_not, Bool.not_eq_true', Bool.not_true, Bool.not_false, Bool.and_true, Bool.true_and, Bool.and_false, Bool.false_and, Bool.false_eq_true, if_true, if_false, reduceIte, ite_true, ite_false, true_and, and_true, reduceCtorEq, Int.toNat_zero, Int.toNat_one, Int.cast_ofNat_Int, Int.reduceLT, Int.reduceLE, Int.reduceNeg, Int.reduceToNat, Int.reducePow, Int.reduceMul, Int.reduceAdd, Int.reduceSub, decide_true, decide_false, sp__law_has]
    exact ⟨⟨.wide (by omega) (by omega) (by omega) (by omega), .wide (by omega) (by omega) (by omega) (by omega)⟩, hQ⟩
  · simp only [List.nil_append]
    rw [boolsOf_map]
    simpa [List.all_map] using h
def sp__law_meet : SpD :=
  fun ds R => ∃ b o, ds = [.tup (b.map ivD), .tup (o.map ivD)] ∧ Bx b ∧ R (meetD b o)
set_option maxHeartbeats 0 in
theorem ok__law_meet (T : Txt K mg) (D0 : Dfn K mg "_law_meet" "_law_meet" s__law_meet ["box", "other"] [])  : Cal P w K mg base tabs "_law_meet" 1 2 ["box", "other"] [] sp__law_meet := by
  refine cal_of D0 sc__law_meet fun f cdv A outer s H E p ht hg hk hr => ⟨_, (pdss_cons (pds_set (i := 2) sc__law_meet.nd rfl (Or.inl rfl) (pd_callTy cd_tuple rfl T.b_tuple PyProof.Rows.boot_tuple (pda_cons (pd_lc (own := [("one", 3), ("late", 4)]) (t := (L2.gTup K 2 (L2.gCons (L2.gName 3) (L2.gCons (L2.gName 4) L2.gNil)))) rfl sc__law_meet.nd (pdi_zip T.b_zip (pda_cons (pd_var 0) (pda_cons (pd_var 1) pda_nil))) (show blkC ["box", "other", "found", "one", "late", "low", "high"] (defScope s__law_meet) _ _ = true by decide +kernel) (fun _ _ _ _ _ => (pgw_tup (n := 2) rfl (pgsw_cons (pgw_name (i := 3) (vs := [3, 4]) sc__law_meet.nd rfl (Or.inl rfl)) (pgsw_cons (pgw_name (i := 4) (vs := [3, 4]) sc__law_meet.nd rfl (Or.inl rfl)) pgsw_nil)))) (fun _ _ _ _ _ => (pd_tup (pda_cons (pd_callB (cd_maxT rfl hr.u65) rfl T.b_max PyProof.Rows.boot_max (pda_cons (pd_ix (pd_var 3) pd_int) (pda_cons (pd_ix (pd_var 4) pd_int) pda_nil))) (pda_cons (pd_callB (cd_minT rfl hr.u65) rfl T.b_min PyProof.Rows.boot_min (pda_cons (pd_ix (pd_var 3) pd_int) (pda_cons (pd_ix (pd_var 4) pd_int) pda_nil))) pda_nil)))) (sh := s)) pda_nil)))
      (pdss_one (pds_ret (pd_ifx (pdt_val (pd_callB (cd_all rfl) rfl T.b_all PyProof.Rows.boot_all (pda_cons (pd_lc (own := [("low", 5), ("high", 6)]) (t := (L2.gTup K 2 (L2.gCons (L2.gName 5) (L2.gCons (L2.gName 6) L2.gNil)))) rfl sc__law_meet.nd (pdi_sq (pd_var 2)) (show blkC ["box", "other", "found", "one", "late", "low", "high"] (defScope s__law_meet) _ _ = true by decide +kernel) (fun _ _ _ _ _ => (pgw_tup (n := 2) rfl (pgsw_cons (pgw_name (i := 5) (vs := [5, 6]) sc__law_meet.nd rfl (Or.inl rfl)) (pgsw_cons (pgw_name (i := 6) (vs := [5, 6]) sc__law_meet.nd rfl (Or.inl rfl)) pgsw_nil)))) (fun _ _ _ _ _ => (pd_cmp opd_le (pd_var 5) (pd_var 6))) (sh := s)) pda_nil))) (pd_var 2) pd_non)))), ?_⟩
  intro ds R hl h; unfold sp__law_meet at h
  clear hl hg hr hk ht
  obtain ⟨b, o, rfl, hb, h⟩ := h
  have := hb.few
  simp (implicitDefEqProofs := false) (maxSteps := 3000000) only [startD, List.map_cons, List.map_nil, List.length_cons, List.length_nil, List.replicate, List.cons_append, List.nil_append, Nat.reduceAdd, Nat.reduceSub, Nat.zero_add, dSeq, dIfS, dOr, dAnd, dNot, dTst, dOp, dUn, dVar, dC, dB, dBK, dCons, dNil, dTup, dLst, dRet, dRetN, dNext, dNever, dAsg, dPar, dPar3, dIf, dAndV, dOrV, dNotV, dCh, dCt, cLast, cLink, tLast, tLink, dDrop, dFor, dBrk, dCnt, dOwn, dApp, dExt, dFree, gPutO, dIxO, dLend, dLendT, dLcF, gN, gTu, gCn, gNl, gP0, gP1, gII, gIIc, gAdd, gNeg, gIx, gEq, gNe, gIs, gIsNot, gIn, gNotIn, gSl, oNone, oSome, gMt, gIndex, cTuple, cList, cI1, cI2, cInt, cLen, cMax, cMin, cMaxT, cMinT, dAug, cAll, cAny, cRepr, cSqrt, cIsi, tyN, isNon, kb_tt, kb_ii, kb_ib, kb_bi, kb_bb, kb_it, kb_bt, kb_nt, kb_ni, kb_lt, kb_li, kb_ti, kb_si, kb_st, kb_ss, rd, dTru, dRgN, dEnum, gMulT, gDivN, gEqF, dCallV, spOf, atD, ordD, dSq, dZip, zipD_map, ivD, dRg1, dRg2, dLc, dYes, dLcGo, dGen, dGenGo, wipeD, boolsOf, intsOf, maxL, minL, noL, noLs, Option.map_some, Option.bind_some, List.all_cons, List.all_nil, List.any_cons, List.any_nil, id_eq, List.set_cons_zero, List.set_cons_succ, List.getElem?_cons_zero, List.getElem?_cons_succ, List.getElem?_nil, List.getD_cons_zero, List.getD_cons_succ, decide_eq_true_eq, decide_eq_false_iff_not, Bool.not_eq_true', Bool.not_true, Bool.not_false, Bool.and_true, Bool.true_and, Bool.and_false, Bool.false_and, Bool.false_eq_true, if_true, if_false, reduceIte, ite_true, ite_false, true_and, and_true, reduceCtorEq, Int.toNat_zero, Int.toNat_one, Int.cast_ofNat_Int, Int.reduceLT, Int.reduceLE, Int.reduceNeg, Int.reduceToNat, Int.reducePow, Int.reduceMul, Int.reduceAdd, Int.reduceSub, decide_true, decide_false]
  refine ⟨lenOk_zip (by omega), lc_map _ (fun q => ivD (max q.1.1 q.2.1, min q.1.2 q.2.2)) _ _ (fun q hq Q hQ => ?_) ?_⟩
  · simp (implicitDefEqProofs := false) (maxSteps := 3000000) only [startD, List.map_cons, List.map_nil, List.length_cons, List.length_nil, List.replicate, List.cons_append, List.nil_append, Nat.reduceAdd, Nat.reduceSub, Nat.zero_add, dSeq, dIfS, dOr, dAnd, dNot, dTst, dOp, dUn, dVar, dC, dB, dBK, dCons, dNil, dTup, dLst, dRet, dRetN, dNext, dNever, dAsg, dPar, dPar3, dIf, dAndV, dOrV, dNotV, dCh, dCt, cLast, cLink, tLast, tLink, dDrop, dFor, dBrk, dCnt, dOwn, dApp, dExt, dFree, gPutO, dIxO, dLend, dLendT, dLcF, gN, gTu, gCn, gNl, gP0, gP1, gII, gIIc, gAdd, gNeg, gIx, gEq, gNe, gIs, gIsNot, gIn, gNotIn, gSl, oNone, oSome, gMt, gIndex, cTuple, cList, cI1, cI2, cInt, cLen, cMax, cMin, cMaxT, cMinT, dAug, cAll, cAny, cRepr, cSqrt, cIsi, tyN, isNon, kb_tt, kb_ii, kb_ib, kb_bi, kb_bb, kb_it, kb_bt, kb_nt, kb_ni, kb_lt, kb_li, kb_ti, kb_si, kb_st, kb_ss, rd, dTru, dRgN, dEnum, gMulT, gDivN, gEqF, dCallV, spOf, atD, ordD, dSq, dZip, zipD_map, ivD, dRg1, dRg2, dLc, dYes, dLcGo, dGen, dGenGo, wipeD, boolsOf, intsOf, maxL, minL, noL, noLs, Option.map_some, Option.bind_some, List.all_cons, List.all_nil, List.any_cons, List.any_nil, id_eq, List.set_cons_zero, List.set_cons_succ, List.getElem?_cons_zero, List.getElem?_cons_succ, List.getElem?_nil, List.getD_cons_zero, List.getD_cons_succ, decide_eq_true_eq, decide_eq_false_iff_not, Bool.not_eq_true', Bool.not_true, Bool.not_false, Bool.and_true, Bool.true_and, Bool.and_false, Bool.false_and, Bool.false_eq_true, if_true, if_false, reduceIte, ite_true, ite_false, true_and, and_true, reduceCtorEq, Int.toNat_zero, Int.toNat_one, Int.cast_ofNat_Int, Int.reduceLT, Int.reduceLE, Int.reduceNeg, Int.reduceToNat, Int.reducePow, Int.reduceMul, Int.reduceAdd, Int.reduceSub, decide_true, decide_false]
    exact hQ
  · simp only [List.nil_append]
    have e : (b.zip o).map (fun q => ivD (max q.1.1 q.2.1, min q.1.2 q.2.2)) = ((b.zip o).map fun q => (max q.1.1 q.2.1, min q.1.2 q.2.2)).map ivD := by
      rw [List.map_map]
      rfl
    rw [e]
    refine ⟨lenOk_map (by rw [List.length_map, List.length_zip]; omega), lc_map _ (fun q => .bl (decide (q.1 ≤ q.2))) _ _ (fun q hq Q hQ => ?_) ?_⟩
    · simp (implicitDefEqProofs := false) (maxSteps := 3000000) only [startD, List.map_cons, List.map_nil, List.length_cons, List.length_nil, List.replicate, List.cons_append, List.nil_append, Nat.reduceAdd, Nat.reduceSub, Nat.zero_add, dSeq, dIfS, dOr, dAnd, dNot, dTst, dOp, dUn, dVar, dC, dB, dBK, dCons, dNil, dTup, dLst, dRet, dRetN, dNext, dNever, dAsg, dPar, dPar3, dIf, dAndV, dOrV, dNotV, dCh, dCt, cLast, cLink, tLast, tLink, dDrop, dFor, dBrk, dCnt, dOwn, dApp, dExt, dFree, gPutO, dIxO, dLend, dLendT, dLcF, gN, gTu, gCn, gNl, gP0, gP1, gII, gIIc, gAdd, gNeg, gIx, gEq, gNe, gIs, gIsNot, gIn, gNotIn, gSl, oNone, oSome, gMt, gIndex, cTuple, cList, cI1, cI2, cInt, cLen, cMax, cMin, cMaxT, cMinT, dAug, cAll, cAny, cRepr, cSqrt, cIsi, tyN, isNon, kb_tt, kb_ii, kb_ib, kb_bi, kb_bb, kb_it, kb_bt, kb_nt, kb_ni, kb_lt, kb_li, kb_ti, kb_si, kb_st, kb_ss, rd, dTru, dRgN, dEnum, gMulT, gDivN, gEqF, dCallV, spOf, atD, ordD, dSq, dZip, zipD_map, ivD, dRg1, dRg2, dLc, dYes, dLcGo, dGen, dGenGo, wipeD, boolsOf, intsOf, maxL, minL, noL, noLs, Option.map_some, Option.bind_some, List.all_cons, List.all_nil, List.any_cons, List.any_nil, id_eq, List.set_cons_zero, List.set_cons_succ, List.getElem?_cons_zero, List.getElem?_cons_succ, List.getElem?_nil, List.getD_cons_zero, List.getD_cons_succ, decide_eq_true_eq, decide_eq_false_iff_not, Bool.not_eq_true', Bool.not_true, Bool.not_false, Bool.and_true, Bool.true_and, Bool.and_false, Bool.false_and, Bool.false_eq_true, if_true, if_false, reduceIte, ite_true, ite_false, true_and, and_true, reduceCtorEq, Int.toNat_zero, Int.toNat_one, Int.cast_ofNat_Int, Int.reduceLT, Int.reduceLE, Int.reduceNeg, Int.reduceToNat, Int.reducePow, Int.reduceMul, Int.reduceAdd, Int.reduceSub, decide_true, decide_false]
      exact hQ
    · simp only [List.nil_append]
      rw [boolsOf_map]
      unfold meetD at h
      rw [List.map_map]
      simp only []
      rw [List.all_map]
      rw [List.map_map]
      refine ite2P (fun c => ?_) fun c => ?_
      · have c' : ((b.zip o).all fun q => decide (max q.1.1 q.2.1 ≤ min q.1.2 q.2.2)) = true := c
        rw [if_pos c'] at h
        exact h
      · have c' : ¬ ((b.zip o).all fun q => decide (max q.1.1 q.2.1 ≤ min q.1.2 q.2.2)) = true := c
        rw [if_neg c'] at h
        exact h
def sp__law_two_right : SpD :=
  fun ds R => ∃ b o, ds = [.pot, .tup (b.map ivD), .tup (o.map ivD)] ∧ Bx b ∧ Bx o ∧ b.length = o.length ∧ R (.bl true)
set_option maxHeartbeats 0 in
theorem ok__law_two_right (T : Txt K mg) (D0 : Dfn K mg "_law_two_right" "_law_two_right" s__law_two_right ["pot", "box", "other"] []) (C_box_within : Cal P w K mg base tabs "box_within" 7 2 ["box", "other"] [(["other", "box"], 0, [1, 0])] sp_box_within) (C__law_meet : Cal P w K mg base tabs "_law_meet" 1 2 ["box", "other"] [] sp__law_meet) (C_box_meet : Cal P w K mg base tabs "box_meet" 7 2 ["box", "other"] [(["other", "box"], 0, [1, 0])] sp_box_meet) (C_box_hull : Cal P w K mg base tabs "box_hull" 7 2 ["box", "other"] [(["other", "box"], 0, [1, 0])] sp_box_hull) (C__law_point : Cal P w K mg base tabs "_law_point" 4 2 ["pot", "box"] [] sp__law_point) (C__law_in : Cal P w K mg base tabs "_law_in" 3 2 ["box", "point"] [] sp__law_in) (C_holds_point : Cal P w K mg base tabs "holds_point" 6 2 ["box", "point"] [(["point", "box"], 0, [1, 0])] sp_holds_point) : Cal P w K mg base tabs "_law_two_right" 8 3 ["pot", "box", "other"] [] sp__law_two_right := by
  refine cal_of D0 sc__law_two_right fun f cdv A outer s H E p ht hg hk hr => ⟨_, (pdss_cons (pds_set (i := 3) sc__law_two_right.nd rfl (Or.inl rfl) (pd_callB (cd_all rfl) rfl T.b_all PyProof.Rows.boot_all (pda_cons (pd_lc (own := [("one", 9), ("late", 10)]) (t := (L2.gTup K 2 (L2.gCons (L2.gName 9) (L2.gCons (L2.gName 10) L2.gNil)))) rfl sc__law_two_right.nd (pdi_zip T.b_zip (pda_cons (pd_var 1) (pda_cons (pd_var 2) pda_nil))) (show blkC ["pot", "box", "other", "inside", "due", "both", "point", "is_in", "is_there", "one", "late"] (defScope s__law_two_right) _ _ = true by decide +kernel) (fun _ _ _ _ _ => (pgw_tup (n := 2) rfl (pgsw_cons (pgw_name (i := 9) (vs := [9, 10]) sc__law_two_right.nd rfl (Or.inl rfl)) (pgsw_cons (pgw_name (i := 10) (vs := [9, 10]) sc__law_two_right.nd rfl (Or.inl rfl)) pgsw_nil)))) (fun _ _ _ _ _ => (pd_and (pd_cmp opd_le (pd_ix (pd_var 10) pd_int) (pd_ix (pd_var 9) pd_int)) (pd_one (pd_cmp opd_le (pd_ix (pd_var 9) pd_int) (pd_ix (pd_var 10) pd_int))))) (sh := s)) pda_nil)))
      (pdss_cons (pds_if (pdt_cmp (opd_ne hr.units) (pd_callB (cd_repr hg hr.units) rfl T.b_repr PyProof.Rows.boot_repr (pda_cons (pd_lst (pda_cons (pdcC (C_box_within.cal ht) hg hr (pda_cons (pd_var 1) (pda_cons (pd_var 2) pda_nil))) (pda_cons (pdcCK0 (ks := ["other", "box"]) (perm := [1, 0]) (C_box_within.cal ht) hg hr (by decide) (pdk_cons (pd_var 1) (pdk_cons (pd_var 1) pdk_nil))) pda_nil))) pda_nil)) (pd_callB (cd_repr hg hr.units) rfl T.b_repr PyProof.Rows.boot_repr (pda_cons (pd_lst (pda_cons (pd_var 3) (pda_cons pd_bl pda_nil))) pda_nil))) (pdss_one (pds_ret pd_bl)) pdss_nil)
      (pdss_cons (pds_par (i := 4) (j := 5) rfl sc__law_two_right.nd rfl rfl (by decide) rfl rfl (pda_cons (pd_callTy cd_tuple rfl T.b_tuple PyProof.Rows.boot_tuple (pda_cons (pd_lc (own := [("one", 9), ("late", 10)]) (t := (L2.gTup K 2 (L2.gCons (L2.gName 9) (L2.gCons (L2.gName 10) L2.gNil)))) rfl sc__law_two_right.nd (pdi_zip T.b_zip (pda_cons (pd_var 1) (pda_cons (pd_var 2) pda_nil))) (show blkC ["pot", "box", "other", "inside", "due", "both", "point", "is_in", "is_there", "one", "late"] (defScope s__law_two_right) _ _ = true by decide +kernel) (fun _ _ _ _ _ => (pgw_tup (n := 2) rfl (pgsw_cons (pgw_name (i := 9) (vs := [9, 10]) sc__law_two_right.nd rfl (Or.inl rfl)) (pgsw_cons (pgw_name (i := 10) (vs := [9, 10]) sc__law_two_right.nd rfl (Or.inl rfl)) pgsw_nil)))) (fun _ _ _ _ _ => (pd_tup (pda_cons (pd_callB (cd_minT rfl hr.u65) rfl T.b_min PyProof.Rows.boot_min (pda_cons (pd_ix (pd_var 9) pd_int) (pda_cons (pd_ix (pd_var 10) pd_int) pda_nil))) (pda_cons (pd_callB (cd_maxT rfl hr.u65) rfl T.b_max PyProof.Rows.boot_max (pda_cons (pd_ix (pd_var 9) pd_int) (pda_cons (pd_ix (pd_var 10) pd_int) pda_nil))) pda_nil)))) (sh := s)) pda_nil)) (pda_cons (pdcC (C__law_meet.cal ht) hg hr (pda_cons (pd_var 1) (pda_cons (pd_var 2) pda_nil))) pda_nil)) (by rfl))
      (pdss_cons (pds_if (pdw_t (pdw_or (pdt_cmp (opd_ne hr.units) (pdcCK0 (ks := ["other", "box"]) (perm := [1, 0]) (C_box_hull.cal ht) hg hr (by decide) (pdk_cons (pd_var 2) (pdk_cons (pd_var 1) pdk_nil))) (pd_var 4)) (pdw_or1 (pdt_cmp (opd_ne hr.units) (pd_callB (cd_repr hg hr.units) rfl T.b_repr PyProof.Rows.boot_repr (pda_cons (pdcCK0 (ks := ["other", "box"]) (perm := [1, 0]) (C_box_meet.cal ht) hg hr (by decide) (pdk_cons (pd_var 2) (pdk_cons (pd_var 1) pdk_nil))) pda_nil)) (pd_callB (cd_repr hg hr.units) rfl T.b_repr PyProof.Rows.boot_repr (pda_cons (pd_var 5) pda_nil)))))) (pdss_one (pds_ret pd_bl)) pdss_nil)
      (pdss_cons (pds_set (i := 6) sc__law_two_right.nd rfl (Or.inl rfl) (pdcC (C__law_point.cal ht) hg hr (pda_cons (pd_var 0) (pda_cons (pd_var 1) pda_nil))))
      (pdss_cons (pds_par (i := 7) (j := 8) rfl sc__law_two_right.nd rfl rfl (by decide) rfl rfl (pda_cons (pdcC (C__law_in.cal ht) hg hr (pda_cons (pd_var 1) (pda_cons (pd_var 6) pda_nil))) (pda_cons (pdcC (C__law_in.cal ht) hg hr (pda_cons (pd_var 2) (pda_cons (pd_var 6) pda_nil))) pda_nil)) (by rfl))
      (pdss_cons (pds_if (pdt_cmp (opd_ne hr.units) (pd_callB (cd_repr hg hr.units) rfl T.b_repr PyProof.Rows.boot_repr (pda_cons (pd_lst (pda_cons (pdcC (C_holds_point.cal ht) hg hr (pda_cons (pd_var 1) (pda_cons (pd_var 6) pda_nil))) (pda_cons (pdcCK0 (ks := ["point", "box"]) (perm := [1, 0]) (C_holds_point.cal ht) hg hr (by decide) (pdk_cons (pd_var 6) (pdk_cons (pd_var 2) pdk_nil))) pda_nil))) pda_nil)) (pd_callB (cd_repr hg hr.units) rfl T.b_repr PyProof.Rows.boot_repr (pda_cons (pd_lst (pda_cons (pd_var 7) (pda_cons (pd_var 8) pda_nil))) pda_nil))) (pdss_one (pds_ret pd_bl)) pdss_nil)
      (pdss_cons (pds_if (pdw_t (pdw_and (pdw_t (pdw_or (pdt_val (pd_var 7)) (pdw_or1 (pdt_val (pd_var 8))))) (pdw_and1 (pdt_not (pdt_val (pdcC (C_holds_point.cal ht) hg hr (pda_cons (pdcC (C_box_hull.cal ht) hg hr (pda_cons (pd_var 1) (pda_cons (pd_var 2) pda_nil))) (pda_cons (pd_var 6) pda_nil)))))))) (pdss_one (pds_ret pd_bl)) pdss_nil)
      (pdss_one (pds_ret (pd_or (pd_cmp opd_is (pd_var 5) pd_non) (pd_one (pd_cmp (opd_eq hr.units) (pd_callB (cd_repr hg hr.units) rfl T.b_repr PyProof.Rows.boot_repr (pda_cons (pdcC (C_holds_point.cal ht) hg hr (pda_cons (pd_var 5) (pda_cons (pd_var 6) pda_nil))) pda_nil)) (pd_callB (cd_repr hg hr.units) rfl T.b_repr PyProof.Rows.boot_repr (pda_cons (pd_and (pd_var 7) (pd_one (pd_var 8))) pda_nil))))))))))))))), ?_⟩
  intro ds R hl h; unfold sp__law_two_right at h
  clear hl hg hr hk ht
  obtain ⟨b, o, rfl, hb, ho, hl, h⟩ := h
  have hf := hb.few
  have hbb := hb.one
  simp (implicitDefEqProofs := false) (maxSteps := 3000000) only [startD, List.map_cons, List.map_nil, List.length_cons, List.length_nil, List.replicate, List.cons_append, List.nil_append, Nat.reduceAdd, Nat.reduceSub, Nat.zero_add, dSeq, dIfS, dOr, dAnd, dNot, dTst, dOp, dUn, dVar, dC, dB, dBK, dCons, dNil, dTup, dLst, dRet, dRetN, dNext, dNever, dAsg, dPar, dPar3, dIf, dAndV, dOrV, dNotV, dCh, dCt, cLast, cLink, tLast, tLink, dDrop, dFor, dBrk, dCnt, dOwn, dApp, dExt, dFree, gPutO, dIxO, dLend, dLendT, dLcF, gN, gTu, gCn, gNl, gP0, gP1, gII, gIIc, gAdd, gNeg, gIx, gEq, gNe, gIs, gIsNot, gIn, gNotIn, gSl, oNone, oSome, gMt, gIndex, cTuple, cList, cI1, cI2, cInt, cLen, cMax, cMin, cMaxT, cMinT, dAug, cAll, cAny, cRepr, cSqrt, cIsi, tyN, isNon, kb_tt, kb_ii, kb_ib, kb_bi, kb_bb, kb_it, kb_bt, kb_nt, kb_ni, kb_lt, kb_li, kb_ti, kb_si, kb_st, kb_ss, rd, dTru, dRgN, dEnum, gMulT, gDivN, gEqF, dCallV, spOf, atD, ordD, dSq, dZip, zipD_map, ivD, dRg1, dRg2, dLc, dYes, dLcGo, dGen, dGenGo, wipeD, boolsOf, intsOf, maxL, minL, noL, noLs, Option.map_some, Option.bind_some, List.all_cons, List.all_nil, List.any_cons, List.any_nil, id_eq, List.set_cons_zero, List.set_cons_succ, List.getElem?_cons_zero, List.getElem?_cons_succ, List.getElem?_nil, List.getD_cons_zero, List.getD_cons_succ, decide_eq_true_eq, decide_eq_false_iff_not, Bool.not_eq_true', Bool.not_true, Bool.not_false, Bool.and_true, Bool.true_and, Bool.and_false, Bool.false_and, Bool.false_eq_true, if_true, if_false, reduceIte, ite_true, ite_false, true_and, and_true, reduceCtorEq, Int.toNat_zero, Int.toNat_one, Int.cast_ofNat_Int, Int.reduceLT, Int.reduceLE, Int.reduceNeg, Int.reduceToNat, Int.reducePow, Int.reduceMul, Int.reduceAdd, Int.reduceSub, decide_true, decide_false, sp_box_within, sp__law_meet, sp_box_meet, sp_box_hull, sp__law_point, sp__law_in, sp_holds_point]
  refine ⟨lenOk_zip (by omega), lc_map _ (fun q => .bl (decide (q.2.1 ≤ q.1.1) && decide (q.1.2 ≤ q.2.2))) _ _ (fun q hq Q hQ => ?_) ?_⟩
  · simp (implicitDefEqProofs := false) (maxSteps := 3000000) only [startD, List.map_cons, List.map_nil, List.length_cons, List.length_nil, List.replicate, List.cons_append, List.nil_append, Nat.reduceAdd, Nat.reduceSub, Nat.zero_add, dSeq, dIfS, dOr, dAnd, dNot, dTst, dOp, dUn, dVar, dC, dB, dBK, dCons, dNil, dTup, dLst, dRet, dRetN, dNext, dNever, dAsg, dPar, dPar3, dIf, dAndV, dOrV, dNotV, dCh, dCt, cLast, cLink, tLast, tLink, dDrop, dFor, dBrk, dCnt, dOwn, dApp, dExt, dFree, gPutO, dIxO, dLend, dLendT, dLcF, gN, gTu, gCn, gNl, gP0, gP1, gII, gIIc, gAdd, gNeg, gIx, gEq, gNe, gIs, gIsNot, gIn, gNotIn, gSl, oNone, oSome, gMt, gIndex, cTuple, cList, cI1, cI2, cInt, cLen, cMax, cMin, cMaxT, cMinT, dAug, cAll, cAny, cRepr, cSqrt, cIsi, tyN, isNon, kb_tt, kb_ii, kb_ib, kb_bi, kb_bb, kb_it, kb_bt, kb_nt, kb_ni, kb_lt, kb_li, kb_ti, kb_si, kb_st, kb_ss, rd, dTru, dRgN, dEnum, gMulT, gDivN, gEqF, dCallV, spOf, atD, ordD, dSq, dZip, zipD_map, ivD, dRg1, dRg2, dLc, dYes, dLcGo, dGen, dGenGo, wipeD, boolsOf, intsOf, maxL, minL, noL, noLs, Option.map_some, Option.bind_some, List.all_cons, List.all_nil, List.any_cons, List.any_nil, id_eq, List.set_cons_zero, List.set_cons_succ, List.getElem?_cons_zero, List.getElem?_cons_succ, List.getElem?_nil, List.getD_cons_zero, List.getD_cons_succ, decide_eq_true_eq, decide_eq_false_iff_not, Bool.not_eq_true', Bool.not_true, Bool.not_false, Bool.and_true, Bool.true_and, Bool.and_false, Bool.false_and, Bool.false_eq_true, if_true, if_false, reduceIte, ite_true, ite_false, true_and, and_true, reduceCtorEq, Int.toNat_zero, Int.toNat_one, Int.cast_ofNat_Int, Int.reduceLT, Int.reduceLE, Int.reduceNeg, Int.reduceToNat, Int.reducePow, Int.reduceMul, Int.reduceAdd, Int.reduceSub, decide_true, decide_false, sp_box_within, sp__law_meet, sp_box_meet, sp_box_hull, sp__law_point, sp__law_in, sp_holds_point]
    by_cases e : q.2.1 ≤ q.1.1
    · rw [if_pos e]
      rw [decide_eq_true e, Bool.true_and] at hQ
      exact hQ
    · rw [if_neg e]
      rw [decide_eq_false e, Bool.false_and] at hQ
      exact hQ
  simp only [List.nil_append, boolsOf_map, List.all_map]
  refine ⟨b, o, rfl, hb, ho, hl, b, b, rfl, hb, hb, rfl, ok2 _ _, ok2 _ _, ?_⟩
  refine ifF (fun z => z ?_) ?_
  · rw [within_self]
    rfl
  refine ⟨lenOk_zip (by omega), lc_map _ (fun q => ivD (min q.1.1 q.2.1, max q.1.2 q.2.2)) _ _ (fun q hq Q hQ => ?_) ?_⟩
  · simp (implicitDefEqProofs := false) (maxSteps := 3000000) only [startD, List.map_cons, List.map_nil, List.length_cons, List.length_nil, List.replicate, List.cons_append, List.nil_append, Nat.reduceAdd, Nat.reduceSub, Nat.zero_add, dSeq, dIfS, dOr, dAnd, dNot, dTst, dOp, dUn, dVar, dC, dB, dBK, dCons, dNil, dTup, dLst, dRet, dRetN, dNext, dNever, dAsg, dPar, dPar3, dIf, dAndV, dOrV, dNotV, dCh, dCt, cLast, cLink, tLast, tLink, dDrop, dFor, dBrk, dCnt, dOwn, dApp, dExt, dFree, gPutO, dIxO, dLend, dLendT, dLcF, gN, gTu, gCn, gNl, gP0, gP1, gII, gIIc, gAdd, gNeg, gIx, gEq, gNe, gIs, gIsNot, gIn, gNotIn, gSl, oNone, oSome, gMt, gIndex, cTuple, cList, cI1, cI2, cInt, cLen, cMax, cMin, cMaxT, cMinT, dAug, cAll, cAny, cRepr, cSqrt, cIsi, tyN, isNon, kb_tt, kb_ii, kb_ib, kb_bi, kb_bb, kb_it, kb_bt, kb_nt, kb_ni, kb_lt, kb_li, kb_ti, kb_si, kb_st, kb_ss, rd, dTru, dRgN, dEnum, gMulT, gDivN, gEqF, dCallV, spOf, atD, ordD, dSq, dZip, zipD_map, ivD, dRg1, dRg2, dLc, dYes, dLcGo, dGen, dGenGo, wipeD, boolsOf, intsOf, maxL, minL, noL, noLs, Option.map_some, Option.bind_some, List.all_cons, List.all_nil, List.any_cons, List.any_nil, id_eq, List.set_cons_zero, List.set_cons_succ, List.getElem?_cons_zero, List.getElem?_cons_succ, List.getElem?_nil, List.getD_cons_zero, List.getD_cons_succ, decide_eq_true_eq, decide_eq_false_iff_not, Bool.not_eq_true', Bool.not_true, Bool.not_false, Bool.and_true, Bool.true_and, Bool.and_false, Bool.false_and, Bool.false_eq_true, if_true, if_false, reduceIte, ite_true, ite_false, true_and, and_true, reduceCtorEq, Int.toNat_zero, Int.toNat_one, Int.cast_ofNat_Int, Int.reduceLT, Int.reduceLE, Int.reduceNeg, Int.reduceToNat, Int.reducePow, Int.reduceMul, Int.reduceAdd, Int.reduceSub, decide_true, decide_false, sp_box_within, sp__law_meet, sp_box_meet, sp_box_hull, sp__law_point, sp__law_in, sp_holds_point]
    exact hQ
  refine ⟨b, o, rfl, hb, b, o, rfl, hb, ho, hl, ⟨shps_map fun _ _ => rfl, shps_map fun _ _ => rfl⟩, ?_⟩
  have eq1 : PyData.eqv (toP (D.tup ((b.zip o).map fun q => ivD (min q.1.1 q.2.1, max q.1.2 q.2.2)))) (toP (D.tup ((b.zip o).map fun q => ivD (min q.1.1 q.2.1, max q.1.2 q.2.2)))) = true := eqv_self (shps_map fun _ _ => rfl)
  refine ifF (fun z => Bool.noConfusion (z.symm.trans eq1)) ?_
  have mok := meet_ok hb ho hl
  -- a point, and where it lies
  have rest : ∀ (p : List (Int × Int)), Pp p → p.length = b.length →
      ((b.zip p).all has = true ∨ (o.zip p).all has = true → (((b.zip o).map fun q => (min q.1.1 q.2.1, max q.1.2 q.2.2)).zip p).all has = true) := fun p hp hpl hh => hull_has hb ho hp hl hh
  by_cases c : ((b.zip o).all fun q => decide (max q.1.1 q.2.1 ≤ min q.1.2 q.2.2)) = true
  · rw [meetD_pos c] at mok
    simp only [meetD_pos c]
    refine ⟨b, o, rfl, hb, ho, hl, by rw [meetD_pos c]; exact mok, mok, ?_⟩
    refine ifF (fun z => z (by rw [meetD_pos c])) ?_
    refine ⟨b, rfl, hb, fun p hp hpl => ?_⟩
    refine ⟨b, p, rfl, hb, hp.pt, o, p, rfl, ho, hp.pt, b, p, rfl, hb, hp.pt, hpl.symm, o, p, rfl, ho, hp.pt, by omega, ok2 _ _, ok2 _ _, ?_⟩
    refine ifF (fun z => z rfl) ?_
    have hr := rest p hp hpl
    have mh := meet_has (b := b) (o := o) hp hl hpl
    refine ite2P (fun i1 => ?_) fun i1 => ?_
    · refine ⟨b, o, rfl, hb, ho, hl, (b.zip o).map fun q => (min q.1.1 q.2.1, max q.1.2 q.2.2), p, by rw [List.map_map]; rfl, hull_bx hb ho hl, hp.pt, by rw [List.length_map, List.length_zip]; omega, ?_⟩
      refine ifF (fun z => Bool.noConfusion (z.symm.trans (hr (.inl i1)))) (ifF Bool.false_ne_true ?_)
      refine ⟨(b.zip o).map fun q => (max q.1.1 q.2.1, min q.1.2 q.2.2), p, rfl, meet_bx hb ho hl c, hp.pt, by rw [List.length_map, List.length_zip]; omega, ok1 _, ?_⟩
      have mh2 : (((b.zip o).map fun q => (max q.1.1 q.2.1, min q.1.2 q.2.2)).zip p).all (fun q => decide (q.1.1 * q.2.2 ≤ q.2.1 * 1099511627776) && decide (q.2.1 * 1099511627776 ≤ q.1.2 * q.2.2)) = ((b.zip p).all has && (o.zip p).all has) := mh
      rw [mh2]
      refine ifT i1 ⟨ok1 _, ?_⟩
      rw [i1, Bool.true_and, decide_eq_true rfl]
      exact h
    refine ite2P (fun i2 => ?_) fun i2 => ?_
    · refine ⟨b, o, rfl, hb, ho, hl, (b.zip o).map fun q => (min q.1.1 q.2.1, max q.1.2 q.2.2), p, by rw [List.map_map]; rfl, hull_bx hb ho hl, hp.pt, by rw [List.length_map, List.length_zip]; omega, ?_⟩
      refine ifF (fun z => Bool.noConfusion (z.symm.trans (hr (.inr i2)))) (ifF Bool.false_ne_true ?_)
      refine ⟨(b.zip o).map fun q => (max q.1.1 q.2.1, min q.1.2 q.2.2), p, rfl, meet_bx hb ho hl c, hp.pt, by rw [List.length_map, List.length_zip]; omega, ok1 _, ?_⟩
      have mh2 : (((b.zip o).map fun q => (max q.1.1 q.2.1, min q.1.2 q.2.2)).zip p).all (fun q => decide (q.1.1 * q.2.2 ≤ q.2.1 * 1099511627776) && decide (q.2.1 * 1099511627776 ≤ q.1.2 * q.2.2)) = ((b.zip p).all has && (o.zip p).all has) := mh
      rw [mh2]
      refine ifF i1 ⟨ok1 _, ?_⟩
      rw [Bool.eq_false_iff.mpr i1, Bool.false_and, decide_eq_true rfl]
      exact h
    · refine ifF Bool.false_ne_true ?_
      refine ⟨(b.zip o).map fun q => (max q.1.1 q.2.1, min q.1.2 q.2.2), p, rfl, meet_bx hb ho hl c, hp.pt, by rw [List.length_map, List.length_zip]; omega, ok1 _, ?_⟩
      have mh2 : (((b.zip o).map fun q => (max q.1.1 q.2.1, min q.1.2 q.2.2)).zip p).all (fun q => decide (q.1.1 * q.2.2 ≤ q.2.1 * 1099511627776) && decide (q.2.1 * 1099511627776 ≤ q.1.2 * q.2.2)) = ((b.zip p).all has && (o.zip p).all has) := mh
      rw [mh2]
      refine ifF i1 ⟨ok1 _, ?_⟩
      rw [Bool.eq_false_iff.mpr i1, Bool.false_and, decide_eq_true rfl]
      exact h
  · simp only [meetD_neg c]
    refine ⟨b, o, rfl, hb, ho, hl, by rw [meetD_neg c]; exact ⟨rfl, trivial, (show 1 ≤ 5000 by omega)⟩, ⟨rfl, trivial, (show 1 ≤ 5000 by omega)⟩, ?_⟩
    refine ifF (fun z => z (by rw [meetD_neg c])) ?_
    refine ⟨b, rfl, hb, fun p hp hpl => ?_⟩
    refine ⟨b, p, rfl, hb, hp.pt, o, p, rfl, ho, hp.pt, b, p, rfl, hb, hp.pt, hpl.symm, o, p, rfl, ho, hp.pt, by omega, ok2 _ _, ok2 _ _, ?_⟩
    refine ifF (fun z => z rfl) ?_
    have hr := rest p hp hpl
    refine ite2P (fun i1 => ?_) fun i1 => ?_
    · refine ⟨b, o, rfl, hb, ho, hl, (b.zip o).map fun q => (min q.1.1 q.2.1, max q.1.2 q.2.2), p, by rw [List.map_map]; rfl, hull_bx hb ho hl, hp.pt, by rw [List.length_map, List.length_zip]; omega, ?_⟩
      refine ifF (fun z => Bool.noConfusion (z.symm.trans (hr (.inl i1)))) (ifT trivial h)
    refine ite2P (fun i2 => ?_) fun i2 => ?_
    · refine ⟨b, o, rfl, hb, ho, hl, (b.zip o).map fun q => (min q.1.1 q.2.1, max q.1.2 q.2.2), p, by rw [List.map_map]; rfl, hull_bx hb ho hl, hp.pt, by rw [List.length_map, List.length_zip]; omega, ?_⟩
      refine ifF (fun z => Bool.noConfusion (z.symm.trans (hr (.inr i2)))) (ifT trivial h)
    · exact ifT trivial h
def sp__law_parts_right : SpD :=
  fun ds R => ∃ b, ds = [.pot, .tup (b.map ivD)] ∧ Bx b ∧ R (.bl true)
set_option maxHeartbeats 0 in
theorem ok__law_parts_right (T : Txt K mg) (D0 : Dfn K mg "_law_parts_right" "_law_parts_right" s__law_parts_right ["pot", "box"] []) (C__law_draw : Cal P w K mg base tabs "_law_draw" 1 2 ["pot", "room"] [] sp__law_draw) (C_widest : Cal P w K mg base tabs "widest" 6 1 ["box"] [(["box"], 0, [0])] sp_widest) (C_box_width : Cal P w K mg base tabs "box_width" 6 1 ["box"] [] sp_box_width) (C_split_box : Cal P w K mg base tabs "split_box" 6 2 ["box", "position"] [(["position", "box"], 0, [1, 0])] sp_split_box) (C__law_point : Cal P w K mg base tabs "_law_point" 4 2 ["pot", "box"] [] sp__law_point) (C__law_in : Cal P w K mg base tabs "_law_in" 3 2 ["box", "point"] [] sp__law_in) (C_holds_point : Cal P w K mg base tabs "holds_point" 6 2 ["box", "point"] [(["point", "box"], 0, [1, 0])] sp_holds_point) (C__law_up : Cal P w K mg base tabs "_law_up" 1 2 ["number", "under"] [] sp__law_up) (C__law_one : Cal P w K mg base tabs "_law_one" 1 0 [] [] sp__law_one) (C__law_down : Cal P w K mg base tabs "_law_down" 1 2 ["number", "under"] [] sp__law_down) (C_around_point : Cal P w K mg base tabs "around_point" 6 1 ["point"] [(["point"], 0, [0])] sp_around_point) : Cal P w K mg base tabs "_law_parts_right" 7 2 ["pot", "box"] [] sp__law_parts_right := by
  refine cal_of D0 sc__law_parts_right fun f cdv A outer s H E p ht hg hk hr => ⟨_, (pdss_cons (pds_setLc (i := 4) (own := [("low", 2), ("high", 3)]) (t := (L2.gTup K 2 (L2.gCons (L2.gName 2) (L2.gCons (L2.gName 3) L2.gNil)))) rfl sc__law_parts_right.nd rfl rfl (pdi_sq (pd_var 1)) (show blkC ["pot", "box", "low", "high", "wide", "at", "half", "due", "point", "near", "one"] (defScope s__law_parts_right) _ _ = true by decide +kernel) (fun _ _ _ _ _ => (pgw_tup (n := 2) rfl (pgsw_cons (pgw_name (i := 2) (vs := [2, 3]) sc__law_parts_right.nd rfl (Or.inl rfl)) (pgsw_cons (pgw_name (i := 3) (vs := [2, 3]) sc__law_parts_right.nd rfl (Or.inl rfl)) pgsw_nil)))) (fun _ _ _ _ _ => (pd_bin opd_sub (pd_var 3) (pd_var 2))) (sh := s))
      (pdss_cons (pds_set (i := 5) sc__law_parts_right.nd rfl (Or.inl rfl) (pdcC (C__law_draw.cal ht) hg hr (pda_cons (pd_var 0) (pda_cons (pd_callB cd_len rfl T.b_len PySem.boot_len (pda_cons (pd_var 1) pda_nil)) pda_nil))))
      (pdss_cons (pds_if (pdt_cmp (opd_ne hr.units) (pd_lst (pda_cons (pdcC (C_box_width.cal ht) hg hr (pda_cons (pd_var 1) pda_nil)) (pda_cons (pdcCK0 (ks := ["box"]) (perm := [0]) (C_widest.cal ht) hg hr (by decide) (pdk_cons (pd_var 1) pdk_nil)) pda_nil))) (pd_lst (pda_cons (pd_callB (cd_maxT rfl hr.u65) rfl T.b_max PyProof.Rows.boot_max (pda_cons (pd_var 4) pda_nil)) (pda_cons (pd_index (pd_var 4) (pda_cons (pd_callB (cd_maxT rfl hr.u65) rfl T.b_max PyProof.Rows.boot_max (pda_cons (pd_var 4) pda_nil)) pda_nil)) pda_nil)))) (pdss_one (pds_ret pd_bl)) pdss_nil)
      (pdss_cons (pds_asg (pd_ix (pd_var 1) (pd_var 5)) (pdg_tup (n := 2) rfl (pdgs_cons (pdg_name (i := 2) sc__law_parts_right.nd rfl (Or.inl rfl)) (pdgs_cons (pdg_name (i := 3) sc__law_parts_right.nd rfl (Or.inl rfl)) pdgs_nil))))
      (pdss_cons (pds_set (i := 6) sc__law_parts_right.nd rfl (Or.inl rfl) (pd_bin opd_div (pd_bin opd_add (pd_var 2) (pd_var 3)) pd_int))
      (pdss_cons (pds_set (i := 7) sc__law_parts_right.nd rfl (Or.inl rfl) (pd_tup (pda_cons (pd_bin opd_add (pd_bin opd_add (pd_sl (pd_var 1) pdo_none (pdo_some (pd_var 5))) (pd_tup (pda_cons (pd_tup (pda_cons (pd_var 2) (pda_cons (pd_var 6) pda_nil))) pda_nil))) (pd_sl (pd_var 1) (pdo_some (pd_bin opd_add (pd_var 5) pd_int)) pdo_none)) (pda_cons (pd_bin opd_add (pd_bin opd_add (pd_sl (pd_var 1) pdo_none (pdo_some (pd_var 5))) (pd_tup (pda_cons (pd_tup (pda_cons (pd_var 6) (pda_cons (pd_var 3) pda_nil))) pda_nil))) (pd_sl (pd_var 1) (pdo_some (pd_bin opd_add (pd_var 5) pd_int)) pdo_none)) pda_nil))))
      (pdss_cons (pds_if (pdw_t (pdw_or (pdt_cmp (opd_ne hr.units) (pdcC (C_split_box.cal ht) hg hr (pda_cons (pd_var 1) (pda_cons (pd_var 5) pda_nil))) (pd_var 7)) (pdw_or1 (pdt_cmp (opd_ne hr.units) (pdcCK0 (ks := ["position", "box"]) (perm := [1, 0]) (C_split_box.cal ht) hg hr (by decide) (pdk_cons (pd_var 5) (pdk_cons (pd_var 1) pdk_nil))) (pd_var 7))))) (pdss_one (pds_ret pd_bl)) pdss_nil)
      (pdss_cons (pds_set (i := 8) sc__law_parts_right.nd rfl (Or.inl rfl) (pdcC (C__law_point.cal ht) hg hr (pda_cons (pd_var 0) (pda_cons (pd_var 1) pda_nil))))
      (pdss_cons (pds_if (pdt_cmp (opd_ne hr.units) (pd_callB (cd_repr hg hr.units) rfl T.b_repr PyProof.Rows.boot_repr (pda_cons (pd_or (pdcC (C__law_in.cal ht) hg hr (pda_cons (pd_ix (pd_var 7) pd_int) (pda_cons (pd_var 8) pda_nil))) (pd_one (pdcC (C__law_in.cal ht) hg hr (pda_cons (pd_ix (pd_var 7) pd_int) (pda_cons (pd_var 8) pda_nil))))) pda_nil)) (pd_callB (cd_repr hg hr.units) rfl T.b_repr PyProof.Rows.boot_repr (pda_cons (pdcC (C_holds_point.cal ht) hg hr (pda_cons (pd_var 1) (pda_cons (pd_var 8) pda_nil))) pda_nil))) (pdss_one (pds_ret pd_bl)) pdss_nil)
      (pdss_cons (pds_set (i := 9) sc__law_parts_right.nd rfl (Or.inl rfl) (pd_callTy cd_tuple rfl T.b_tuple PyProof.Rows.boot_tuple (pda_cons (pd_lc (own := [("one", 10)]) (t := (L2.gName 10)) rfl sc__law_parts_right.nd (pdi_sq (pd_var 8)) (show blkC ["pot", "box", "low", "high", "wide", "at", "half", "due", "point", "near", "one"] (defScope s__law_parts_right) _ _ = true by decide +kernel) (fun _ _ _ _ _ => (pgw_name (i := 10) (vs := [10]) sc__law_parts_right.nd rfl (Or.inl rfl))) (fun _ _ _ _ _ => (pd_tup (pda_cons (pdcC (C__law_down.cal ht) hg hr (pda_cons (pd_bin opd_mul (pd_ix (pd_var 10) pd_int) (pdcC0 (C__law_one.cal ht) hg hr)) (pda_cons (pd_ix (pd_var 10) pd_int) pda_nil))) (pda_cons (pdcC (C__law_up.cal ht) hg hr (pda_cons (pd_bin opd_mul (pd_ix (pd_var 10) pd_int) (pdcC0 (C__law_one.cal ht) hg hr)) (pda_cons (pd_ix (pd_var 10) pd_int) pda_nil))) pda_nil)))) (sh := s)) pda_nil)))
      (pdss_one (pds_ret (pd_and (pd_cmp (opd_eq hr.units) (pdcC (C_around_point.cal ht) hg hr (pda_cons (pd_var 8) pda_nil)) (pd_var 9)) (pd_one (pd_cmp opd_is (pdcC (C_holds_point.cal ht) hg hr (pda_cons (pdcCK0 (ks := ["point"]) (perm := [0]) (C_around_point.cal ht) hg hr (by decide) (pdk_cons (pd_var 8) pdk_nil)) (pda_cons (pd_var 8) pda_nil))) pd_bl))))))))))))))), ?_⟩
  intro ds R hl h; unfold sp__law_parts_right at h
  clear hl hg hr hk ht
  obtain ⟨b, rfl, hb, h⟩ := h
  have hf := hb.few
  have hbb := hb.one
  obtain ⟨q0, r0, eb⟩ := widths_ne hbb
  simp (implicitDefEqProofs := false) (maxSteps := 3000000) only [startD, List.map_cons, List.map_nil, List.length_cons, List.length_nil, List.replicate, List.cons_append, List.nil_append, Nat.reduceAdd, Nat.reduceSub, Nat.zero_add, dSeq, dIfS, dOr, dAnd, dNot, dTst, dOp, dUn, dVar, dC, dB, dBK, dCons, dNil, dTup, dLst, dRet, dRetN, dNext, dNever, dAsg, dPar, dPar3, dIf, dAndV, dOrV, dNotV, dCh, dCt, cLast, cLink, tLast, tLink, dDrop, dFor, dBrk, dCnt, dOwn, dApp, dExt, dFree, gPutO, dIxO, dLend, dLendT, dLcF, gN, gTu, gCn, gNl, gP0, gP1, gII, gIIc, gAdd, gNeg, gIx, gEq, gNe, gIs, gIsNot, gIn, gNotIn, gSl, oNone, oSome, gMt, gIndex, cTuple, cList, cI1, cI2, cInt, cLen, cMax, cMin, cMaxT, cMinT, dAug, cAll, cAny, cRepr, cSqrt, cIsi, tyN, isNon, kb_tt, kb_ii, kb_ib, kb_bi, kb_bb, kb_it, kb_bt, kb_nt, kb_ni, kb_lt, kb_li, kb_ti, kb_si, kb_st, kb_ss, rd, dTru, dRgN, dEnum, gMulT, gDivN, gEqF, dCallV, spOf, atD, ordD, dSq, dZip, zipD_map, ivD, dRg1, dRg2, dLc, dYes, dLcGo, dGen, dGenGo, wipeD, boolsOf, intsOf, maxL, minL, noL, noLs, Option.map_some, Option.bind_some, List.all_cons, List.all_nil, List.any_cons, List.any_nil, id_eq, List.set_cons_zero, List.set_cons_succ, List.getElem?_cons_zero, List.getElem?_cons_succ, List.getElem?_nil, List.getD_cons_zero, List.getD_cons_succ, decide_eq_true_eq, decide_eq_false_iff_not, Bool.not_eq_true', Bool.not_true, Bool.not_false, Bool.and_true, Bool.true_and, Bool.and_false, Bool.false_and, Bool.false_eq_true, if_true, if_false, reduceIte, ite_true, ite_false, true_and, and_true, reduceCtorEq, Int.toNat_zero, Int.toNat_one, Int.cast_ofNat_Int, Int.reduceLT, Int.reduceLE, Int.reduceNeg, Int.reduceToNat, Int.reducePow, Int.reduceMul, Int.reduceAdd, Int.reduceSub, decide_true, decide_false, sp__law_draw, sp_widest, sp_box_width, sp_split_box, sp__law_point, sp__law_in, sp_holds_point, sp__law_up, sp__law_one, sp__law_down, sp_around_point]
  refine ⟨lenOk_map (by omega), lc_map _ (fun q => .int (q.2 - q.1)) _ _ (fun q hq Q hQ => ?_) ?_⟩
  · simp (implicitDefEqProofs := false) (maxSteps := 3000000) only [startD, List.map_cons, List.map_nil, List.length_cons, List.length_nil, List.replicate, List.cons_append, List.nil_append, Nat.reduceAdd, Nat.reduceSub, Nat.zero_add, dSeq, dIfS, dOr, dAnd, dNot, dTst, dOp, dUn, dVar, dC, dB, dBK, dCons, dNil, dTup, dLst, dRet, dRetN, dNext, dNever, dAsg, dPar, dPar3, dIf, dAndV, dOrV, dNotV, dCh, dCt, cLast, cLink, tLast, tLink, dDrop, dFor, dBrk, dCnt, dOwn, dApp, dExt, dFree, gPutO, dIxO, dLend, dLendT, dLcF, gN, gTu, gCn, gNl, gP0, gP1, gII, gIIc, gAdd, gNeg, gIx, gEq, gNe, gIs, gIsNot, gIn, gNotIn, gSl, oNone, oSome, gMt, gIndex, cTuple, cList, cI1, cI2, cInt, cLen, cMax, cMin, cMaxT, cMinT, dAug, cAll, cAny, cRepr, cSqrt, cIsi, tyN, isNon, kb_tt, kb_ii, kb_ib, kb_bi, kb_bb, kb_it, kb_bt, kb_nt, kb_ni, kb_lt, kb_li, kb_ti, kb_si, kb_st, kb_ss, rd, dTru, dRgN, dEnum, gMulT, gDivN, gEqF, dCallV, spOf, atD, ordD, dSq, dZip, zipD_map, ivD, dRg1, dRg2, dLc, dYes, dLcGo, dGen, dGenGo, wipeD, boolsOf, intsOf, maxL, minL, noL, noLs, Option.map_some, Option.bind_some, List.all_cons, List.all_nil, List.any_cons, List.any_nil, id_eq, List.set_cons_zero, List.set_cons_succ, List.getElem?_cons_zero, List.getElem?_cons_succ, List.getElem?_nil, List.getD_cons_zero, List.getD_cons_succ, decide_eq_true_eq, decide_eq_false_iff_not, Bool.not_eq_true', Bool.not_true, Bool.not_false, Bool.and_true, Bool.true_and, Bool.and_false, Bool.false_and, Bool.false_eq_true, if_true, if_false, reduceIte, ite_true, ite_false, true_and, and_true, reduceCtorEq, Int.toNat_zero, Int.toNat_one, Int.cast_ofNat_Int, Int.reduceLT, Int.reduceLE, Int.reduceNeg, Int.reduceToNat, Int.reducePow, Int.reduceMul, Int.reduceAdd, Int.reduceSub, decide_true, decide_false, sp__law_draw, sp_widest, sp_box_width, sp_split_box, sp__law_point, sp__law_in, sp_holds_point, sp__law_up, sp__law_one, sp__law_down, sp_around_point]
    exact hQ
  simp only [List.nil_append, intsOf_map]
  have el : (b.map fun q => q.2 - q.1) = (q0.2 - q0.1) :: (r0.map fun q => q.2 - q.1) := by rw [eb]; rfl
  simp only [el]
  rw [List.length_map]
  refine ⟨⟨by omega, by omega⟩, fun r r0' r1 => ?_⟩
  refine ⟨q0, r0, by rw [eb]; rfl, eb ▸ hb, q0, r0, by rw [eb]; rfl, eb ▸ hb, ?_, ⟨rfl, rfl⟩, ?_⟩
  · rcases maxL_mem (r0.map fun q => q.2 - q.1) (q0.2 - q0.1) with e | e
    · rw [e]; exact List.mem_cons_self
    · exact List.mem_cons_of_mem _ e
  refine ifF (fun z => Bool.noConfusion (z.symm.trans (eqv_self (d := .lst [.int _, .int _]) rfl))) ?_
  obtain ⟨q, hq⟩ := get_ex (l := b) (i := r.toNat) (by omega)
  have hiv := hb.iv q (mem_of_get hq)
  have hle := hiv.le
  have hr := lt_of_get hq
  rw [if_pos r0', List.getElem?_map, hq]
  simp (implicitDefEqProofs := false) (maxSteps := 3000000) only [startD, List.map_cons, List.map_nil, List.length_cons, List.length_nil, List.replicate, List.cons_append, List.nil_append, Nat.reduceAdd, Nat.reduceSub, Nat.zero_add, dSeq, dIfS, dOr, dAnd, dNot, dTst, dOp, dUn, dVar, dC, dB, dBK, dCons, dNil, dTup, dLst, dRet, dRetN, dNext, dNever, dAsg, dPar, dPar3, dIf, dAndV, dOrV, dNotV, dCh, dCt, cLast, cLink, tLast, tLink, dDrop, dFor, dBrk, dCnt, dOwn, dApp, dExt, dFree, gPutO, dIxO, dLend, dLendT, dLcF, gN, gTu, gCn, gNl, gP0, gP1, gII, gIIc, gAdd, gNeg, gIx, gEq, gNe, gIs, gIsNot, gIn, gNotIn, gSl, oNone, oSome, gMt, gIndex, cTuple, cList, cI1, cI2, cInt, cLen, cMax, cMin, cMaxT, cMinT, dAug, cAll, cAny, cRepr, cSqrt, cIsi, tyN, isNon, kb_tt, kb_ii, kb_ib, kb_bi, kb_bb, kb_it, kb_bt, kb_nt, kb_ni, kb_lt, kb_li, kb_ti, kb_si, kb_st, kb_ss, rd, dTru, dRgN, dEnum, gMulT, gDivN, gEqF, dCallV, spOf, atD, ordD, dSq, dZip, zipD_map, ivD, dRg1, dRg2, dLc, dYes, dLcGo, dGen, dGenGo, wipeD, boolsOf, intsOf, maxL, minL, noL, noLs, Option.map_some, Option.bind_some, List.all_cons, List.all_nil, List.any_cons, List.any_nil, id_eq, List.set_cons_zero, List.set_cons_succ, List.getElem?_cons_zero, List.getElem?_cons_succ, List.getElem?_nil, List.getD_cons_zero, List.getD_cons_succ, decide_eq_true_eq, decide_eq_false_iff_not, Bool.not_eq_true', Bool.not_true, Bool.not_false, Bool.and_true, Bool.true_and, Bool.and_false, Bool.false_and, Bool.false_eq_true, if_true, if_false, reduceIte, ite_true, ite_false, true_and, and_true, reduceCtorEq, Int.toNat_zero, Int.toNat_one, Int.cast_ofNat_Int, Int.reduceLT, Int.reduceLE, Int.reduceNeg, Int.reduceToNat, Int.reducePow, Int.reduceMul, Int.reduceAdd, Int.reduceSub, decide_true, decide_false, sp__law_draw, sp_widest, sp_box_width, sp_split_box, sp__law_point, sp__law_in, sp_holds_point, sp__law_up, sp__law_one, sp__law_down, sp_around_point]
  rw [cut_lo r0' (by rw [List.length_map]; omega), cut_hi (by omega) (by rw [List.length_map]; omega)]
  have len : ∀ x : List D, x.length = 1 → (List.take r.toNat (b.map ivD)).length + x.length ≤ 1000000 ∧ (List.take r.toNat (b.map ivD) ++ x).length + (List.drop (r + 1).toNat (b.map ivD)).length ≤ 1000000 := fun x hx => by
    simp only [List.length_take, List.length_drop, List.length_append, List.length_map, hx]
    omega
  refine ⟨.of (by omega) (by omega), (len [D.int 0] rfl).1, (len [ivD (q.1, (q.1 + q.2) / 2)] rfl).2, (len [D.int 0] rfl).1, (len [ivD ((q.1 + q.2) / 2, q.2)] rfl).2, ?_⟩
  have er : (r + 1).toNat = r.toNat + 1 := by omega
  rw [er]
  refine ⟨b, r, q, rfl, hb, r0', hq, ?_⟩
  have hn : r.toNat < b.length := hr
  have mm : q.1 ≤ (q.1 + q.2) / 2 ∧ (q.1 + q.2) / 2 ≤ q.2 := by omega
  generalize hm : (q.1 + q.2) / 2 = m at mm ⊢
  have e1 : List.take r.toNat (b.map ivD) ++ [D.tup [D.int q.1, D.int m]] ++ List.drop (r.toNat + 1) (b.map ivD) = (b.take r.toNat ++ [(q.1, m)] ++ b.drop (r.toNat + 1)).map ivD := by
    simp only [List.map_append, List.map_take, List.map_drop, List.map_cons, List.map_nil, ivD]
  have e2 : List.take r.toNat (b.map ivD) ++ [D.tup [D.int m, D.int q.2]] ++ List.drop (r.toNat + 1) (b.map ivD) = (b.take r.toNat ++ [(m, q.2)] ++ b.drop (r.toNat + 1)).map ivD := by
    simp only [List.map_append, List.map_take, List.map_drop, List.map_cons, List.map_nil, ivD]
  have hv := fun p hp hl => halves_has (p := p) hb hp hl hq m mm
  have bx : ∀ z : Int × Int, Iv z → Bx (b.take r.toNat ++ [z] ++ b.drop (r.toNat + 1)) := fun z hz => by
    refine ⟨by simp only [List.length_append, List.length_cons, List.length_nil]; omega, by simp only [List.length_append, List.length_cons, List.length_nil, List.length_take, List.length_drop]; omega, fun x hx => ?_⟩
    rcases List.mem_append.mp hx with hx | hx
    · rcases List.mem_append.mp hx with hx | hx
      · exact hb.iv x (List.mem_of_mem_take hx)
      · rw [List.mem_singleton.mp hx]; exact hz
    · exact hb.iv x (List.mem_of_mem_drop hx)
  have bx1 := bx (q.1, m) ⟨hiv.lo, mm.1, by have := hiv.hi; show m ≤ _; omega⟩
  have bx2 := bx (m, q.2) ⟨by have := hiv.lo; show _ ≤ m; omega, mm.2, hiv.hi⟩
  rw [e1, e2]
  simp only [er]
  generalize hB1 : b.take r.toNat ++ [(q.1, m)] ++ b.drop (r.toNat + 1) = B1 at hv bx1 ⊢
  generalize hB2 : b.take r.toNat ++ [(m, q.2)] ++ b.drop (r.toNat + 1) = B2 at hv bx2 ⊢
  have sB : shp 60 (D.tup [.tup (B1.map ivD), .tup (B2.map ivD)]) = true := by
    have s1 : shps 58 (B1.map ivD) = true := shps_map fun _ _ => rfl
    have s2 : shps 58 (B2.map ivD) = true := shps_map fun _ _ => rfl
    show (shps 58 (B1.map ivD) && (shps 58 (B2.map ivD) && true)) = true
    rw [s1, s2]
    rfl
  have sE := eqv_self sB
  refine ⟨⟨sB, sB⟩, ifF (fun z => Bool.noConfusion (z.symm.trans sE)) ?_⟩
  refine ⟨b, r, q, rfl, hb, r0', hq, ?_⟩
  simp only [er, hm, hB1, hB2]
  refine ⟨⟨sB, sB⟩, ifF (fun z => Bool.noConfusion (z.symm.trans sE)) ?_⟩
  refine ⟨b, rfl, hb, fun p hp hl => ?_⟩
  have hvp := hv p hp hl
  refine ⟨B1, p, rfl, bx1, hp.pt, ?_⟩
  have hE : ((b.zip p).all fun q => decide (q.1.1 * q.2.2 ≤ q.2.1 * 1099511627776) && decide (q.2.1 * 1099511627776 ≤ q.1.2 * q.2.2)) = (b.zip p).all has := rfl
  have gr : ∀ q ∈ p, -1180591620717411303424 ≤ q.1 * 1099511627776 / q.2 ∧ q.1 * 1099511627776 / q.2 ≤ -(-q.1 * 1099511627776 / q.2) ∧ -(-q.1 * 1099511627776 / q.2) ≤ 1180591620717411303424 ∧ has ((q.1 * 1099511627776 / q.2, -(-q.1 * 1099511627776 / q.2)), q) = true := fun q hq => by
    have pr := hp.pr q hq
    have d0 := pr.rt.pos
    have l1 := pr.lo
    have l2 := pr.hi
    have f1 := Int.ediv_mul_le (q.1 * 1099511627776) (show q.2 ≠ 0 by omega)
    have f2 := Int.ediv_mul_le (-q.1 * 1099511627776) (show q.2 ≠ 0 by omega)
    have g1 : -1180591620717411303424 ≤ q.1 * 1099511627776 / q.2 := Int.le_ediv_of_mul_le (by omega) l1
    have g2 : -1180591620717411303424 ≤ -q.1 * 1099511627776 / q.2 := Int.le_ediv_of_mul_le (by omega) (by rw [Int.neg_mul q.1]; omega)
    have h1 : q.1 * 1099511627776 / q.2 * q.2 ≤ q.1 * 1099511627776 := f1
    have h2 : q.1 * 1099511627776 ≤ -(-q.1 * 1099511627776 / q.2) * q.2 := by rw [Int.neg_mul (-q.1 * 1099511627776 / q.2)]; rw [Int.neg_mul q.1] at f2 ⊢; omega
    exact ⟨g1, Int.le_of_mul_le_mul_right (Int.le_trans h1 h2) (by omega), by omega, has_iff.mpr ⟨h1, h2⟩⟩
  refine ite2P (fun i1 => ⟨ok1 _, b, p, rfl, hb, hp.pt, hl.symm, ok1 _, ifF (fun z => z ?_) ?_⟩) fun i1 => ⟨B2, p, rfl, bx2, hp.pt, ok1 _, b, p, rfl, hb, hp.pt, hl.symm, ok1 _, ifF (fun z => z ?_) ?_⟩
  · rw [hE, ← hvp, i1, Bool.true_or]
  rotate_left
  · rw [hE, ← hvp, Bool.eq_false_iff.mpr i1, Bool.false_or]
  all_goals
    refine ⟨lenOk_map (by omega), lc_map _ (fun q => ivD (q.1 * 1099511627776 / q.2, -(-q.1 * 1099511627776 / q.2))) _ _ (fun q hq Q hQ => ?_) ?_⟩
    · have d0 := (hp.pr q hq).rt.pos
      have d1 := (hp.pr q hq).rt.few
      simp (implicitDefEqProofs := false) (maxSteps := 3000000) only [startD, List.map_cons, List.map_nil, List.length_cons, List.length_nil, List.replicate, List.cons_append, List.nil_append, Nat.reduceAdd, Nat.reduceSub, Nat.zero_add, dSeq, dIfS, dOr, dAnd, dNot, dTst, dOp, dUn, dVar, dC, dB, dBK, dCons, dNil, dTup, dLst, dRet, dRetN, dNext, dNever, dAsg, dPar, dPar3, dIf, dAndV, dOrV, dNotV, dCh, dCt, cLast, cLink, tLast, tLink, dDrop, dFor, dBrk, dCnt, dOwn, dApp, dExt, dFree, gPutO, dIxO, dLend, dLendT, dLcF, gN, gTu, gCn, gNl, gP0, gP1, gII, gIIc, gAdd, gNeg, gIx, gEq, gNe, gIs, gIsNot, gIn, gNotIn, gSl, oNone, oSome, gMt, gIndex, cTuple, cList, cI1, cI2, cInt, cLen, cMax, cMin, cMaxT, cMinT, dAug, cAll, cAny, cRepr, cSqrt, cIsi, tyN, isNon, kb_tt, kb_ii, kb_ib, kb_bi, kb_bb, kb_it, kb_bt, kb_nt, kb_ni, kb_lt, kb_li, kb_ti, kb_si, kb_st, kb_ss, rd, dTru, dRgN, dEnum, gMulT, gDivN, gEqF, dCallV, spOf, atD, ordD, dSq, dZip, zipD_map, ivD, dRg1, dRg2, dLc, dYes, dLcGo, dGen, dGenGo, wipeD, boolsOf, intsOf, maxL, minL, noL, noLs, Option.map_some, Option.bind_some, List.all_cons, List.all_nil, List.any_cons, List.any_nil, id_eq, List.set_cons_zero, List.set_cons_succ, List.getElem?_cons_zero, List.getElem?_cons_succ, List.getElem?_nil, List.getD_cons_zero, List.getD_cons_succ, decide_eq_true_eq, decide_eq_false_iff_not, Bool.not_eq_true', Bool.not_true, Bool.not_false, Bool.and_true, Bool.true_and, Bool.and_false, Bool.false_and, Bool.false_eq_true, if_true, if_false, reduceIte, ite_true, ite_false, true_and, and_true, reduceCtorEq, Int.toNat_zero, Int.toNat_one, Int.cast_ofNat_Int, Int.reduceLT, Int.reduceLE, Int.reduceNeg, Int.reduceToNat, Int.reducePow, Int.reduceMul, Int.reduceAdd, Int.reduceSub, decide_true, decide_false, sp__law_draw, sp_widest, sp_box_width, sp_split_box, sp__law_point, sp__law_in, sp_holds_point, sp__law_up, sp__law_one, sp__law_down, sp_around_point]
      refine ⟨.right (by omega) (by omega), ⟨by omega, d1⟩, .right (by omega) (by omega), ⟨by omega, d1⟩, ?_⟩
      rw [← Int.neg_mul]
      exact hQ
    have sN : shp 60 (.tup (p.map fun q => ivD (q.1 * 1099511627776 / q.2, -(-q.1 * 1099511627776 / q.2)))) = true := shps_map fun _ _ => rfl
    refine ⟨p, rfl, hp.pt, fun q hq => ⟨(gr q hq).1, (gr q hq).2.2.1⟩, ⟨sN, sN⟩, ?_⟩
    refine ifT (eqv_self sN) ?_
    refine ⟨p, rfl, hp.pt, fun q hq => ⟨(gr q hq).1, (gr q hq).2.2.1⟩, p.map fun q => (q.1 * 1099511627776 / q.2, -(-q.1 * 1099511627776 / q.2)), p, by rw [List.map_map]; rfl, ⟨by rw [List.length_map]; omega, by rw [List.length_map]; omega, fun z hz => ?_⟩, hp.pt, by rw [List.length_map], ?_⟩
    · obtain ⟨q, hq, rfl⟩ := List.mem_map.mp hz
      exact ⟨(gr q hq).1, (gr q hq).2.1, (gr q hq).2.2.1⟩
    · have hA : ((p.map fun q => (q.1 * 1099511627776 / q.2, -(-q.1 * 1099511627776 / q.2))).zip p).all (fun q => decide (q.1.1 * q.2.2 ≤ q.2.1 * 1099511627776) && decide (q.2.1 * 1099511627776 ≤ q.1.2 * q.2.2)) = true := by
        refine zip_all.mpr fun i x y hx hy => ?_
        obtain ⟨q, hq, rfl⟩ := map_get hx
        rw [hy] at hq
        cases hq
        exact (gr y (mem_of_get hy)).2.2.2
      rw [hA]
      exact h
def sp__law_right : SpD :=
  fun ds R => match ds with
  | [.pot] => R (.bl true)
  | _ => False
set_option maxHeartbeats 0 in
theorem ok__law_right (T : Txt K mg) (D0 : Dfn K mg "_law_right" "_law_right" s__law_right ["pot"] []) (C__law_box : Cal P w K mg base tabs "_law_box" 6 2 ["pot", "many"] [] sp__law_box) (C__law_draw : Cal P w K mg base tabs "_law_draw" 1 2 ["pot", "room"] [] sp__law_draw) (C__law_parts_right : Cal P w K mg base tabs "_law_parts_right" 7 2 ["pot", "box"] [] sp__law_parts_right) (C__law_two_right : Cal P w K mg base tabs "_law_two_right" 8 3 ["pot", "box", "other"] [] sp__law_two_right) (C__law_other : Cal P w K mg base tabs "_law_other" 6 2 ["pot", "box"] [] sp__law_other) : Cal P w K mg base tabs "_law_right" 9 1 ["pot"] [] sp__law_right := by
  refine cal_of D0 sc__law_right fun f cdv A outer s H E p ht hg hk hr => ⟨_, (pdss_cons (pds_for rfl PassesOwn.never (pdi_rg1 T.b_range (pda_cons pd_int pda_nil)) (pdg_name (i := 1) sc__law_right.nd rfl (Or.inl rfl)) (pdss_cons (pds_set (i := 2) sc__law_right.nd rfl (Or.inl rfl) (pdcC (C__law_box.cal ht) hg hr (pda_cons (pd_var 0) (pda_cons (pd_bin opd_add pd_int (pdcC (C__law_draw.cal ht) hg hr (pda_cons (pd_var 0) (pda_cons pd_int pda_nil)))) pda_nil))))
      (pdss_one (pds_if (pdw_t (pdw_or (pdt_not (pdt_val (pdcC (C__law_two_right.cal ht) hg hr (pda_cons (pd_var 0) (pda_cons (pd_var 2) (pda_cons (pdcC (C__law_other.cal ht) hg hr (pda_cons (pd_var 0) (pda_cons (pd_var 2) pda_nil))) pda_nil)))))) (pdw_or1 (pdt_not (pdt_val (pdcC (C__law_parts_right.cal ht) hg hr (pda_cons (pd_var 0) (pda_cons (pd_var 2) pda_nil)))))))) (pdss_one (pds_ret pd_bl)) pdss_nil))))
      (pdss_one (pds_ret pd_bl))), ?_⟩
  intro ds R hl h; unfold sp__law_right at h; split at h
  all_goals (try exact False.elim h)
  all_goals clear hl hg hr hk ht
  simp (implicitDefEqProofs := false) (maxSteps := 3000000) only [startD, List.map_cons, List.map_nil, List.length_cons, List.length_nil, List.replicate, List.cons_append, List.nil_append, Nat.reduceAdd, Nat.reduceSub, Nat.zero_add, dSeq, dIfS, dOr, dAnd, dNot, dTst, dOp, dUn, dVar, dC, dB, dBK, dCons, dNil, dTup, dLst, dRet, dRetN, dNext, dNever, dAsg, dPar, dPar3, dIf, dAndV, dOrV, dNotV, dCh, dCt, cLast, cLink, tLast, tLink, dDrop, dFor, dBrk, dCnt, dOwn, dApp, dExt, dFree, gPutO, dIxO, dLend, dLendT, dLcF, gN, gTu, gCn, gNl, gP0, gP1, gII, gIIc, gAdd, gNeg, gIx, gEq, gNe, gIs, gIsNot, gIn, gNotIn, gSl, oNone, oSome, gMt, gIndex, cTuple, cList, cI1, cI2, cInt, cLen, cMax, cMin, cMaxT, cMinT, dAug, cAll, cAny, cRepr, cSqrt, cIsi, tyN, isNon, kb_tt, kb_ii, kb_ib, kb_bi, kb_bb, kb_it, kb_bt, kb_nt, kb_ni, kb_lt, kb_li, kb_ti, kb_si, kb_st, kb_ss, rd, dTru, dRgN, dEnum, gMulT, gDivN, gEqF, dCallV, spOf, atD, ordD, dSq, dZip, zipD_map, ivD, dRg1, dRg2, dLc, dYes, dLcGo, dGen, dGenGo, wipeD, boolsOf, intsOf, maxL, minL, noL, noLs, Option.map_some, Option.bind_some, List.all_cons, List.all_nil, List.any_cons, List.any_nil, id_eq, List.set_cons_zero, List.set_cons_succ, List.getElem?_cons_zero, List.getElem?_cons_succ, List.getElem?_nil, List.getD_cons_zero, List.getD_cons_succ, decide_eq_true_eq, decide_eq_false_iff_not, Bool.not_eq_true', Bool.not_true, Bool.not_false, Bool.and_true, Bool.true_and, Bool.and_false, Bool.false_and, Bool.false_eq_true, if_true, if_false, reduceIte, ite_true, ite_false, true_and, and_true, reduceCtorEq, Int.toNat_zero, Int.toNat_one, Int.cast_ofNat_Int, Int.reduceLT, Int.reduceLE, Int.reduceNeg, Int.reduceToNat, Int.reducePow, Int.reduceMul, Int.reduceAdd, Int.reduceSub, decide_true, decide_false, sp__law_box, sp__law_draw, sp__law_parts_right, sp__law_two_right, sp__law_other]
  refine forInv (fun i τ => ∃ o1 o2, τ = [some .pot, o1, o2]) _ _ ⟨none, none, rfl⟩ ?_ ?_
  · rintro k i x τ hx hk ⟨o1, o2, rfl⟩
    simp (implicitDefEqProofs := false) (maxSteps := 3000000) only [startD, List.map_cons, List.map_nil, List.length_cons, List.length_nil, List.replicate, List.cons_append, List.nil_append, Nat.reduceAdd, Nat.reduceSub, Nat.zero_add, dSeq, dIfS, dOr, dAnd, dNot, dTst, dOp, dUn, dVar, dC, dB, dBK, dCons, dNil, dTup, dLst, dRet, dRetN, dNext, dNever, dAsg, dPar, dPar3, dIf, dAndV, dOrV, dNotV, dCh, dCt, cLast, cLink, tLast, tLink, dDrop, dFor, dBrk, dCnt, dOwn, dApp, dExt, dFree, gPutO, dIxO, dLend, dLendT, dLcF, gN, gTu, gCn, gNl, gP0, gP1, gII, gIIc, gAdd, gNeg, gIx, gEq, gNe, gIs, gIsNot, gIn, gNotIn, gSl, oNone, oSome, gMt, gIndex, cTuple, cList, cI1, cI2, cInt, cLen, cMax, cMin, cMaxT, cMinT, dAug, cAll, cAny, cRepr, cSqrt, cIsi, tyN, isNon, kb_tt, kb_ii, kb_ib, kb_bi, kb_bb, kb_it, kb_bt, kb_nt, kb_ni, kb_lt, kb_li, kb_ti, kb_si, kb_st, kb_ss, rd, dTru, dRgN, dEnum, gMulT, gDivN, gEqF, dCallV, spOf, atD, ordD, dSq, dZip, zipD_map, ivD, dRg1, dRg2, dLc, dYes, dLcGo, dGen, dGenGo, wipeD, boolsOf, intsOf, maxL, minL, noL, noLs, Option.map_some, Option.bind_some, List.all_cons, List.all_nil, List.any_cons, List.any_nil, id_eq, List.set_cons_zero, List.set_cons_succ, List.getElem?_cons_zero, List.getElem?_cons_succ, List.getElem?_nil, List.getD_cons_zero, List.getD_cons_succ, decide_eq_true_eq, decide_eq_false_iff_not, Bool.not_eq_true', Bool.not_true, Bool.not_false, Bool.and_true, Bool.true_and, Bool.and_false, Bool.false_and, Bool.false_eq_true, if_true, if_false, reduceIte, ite_true, ite_false, true_and, and_true, reduceCtorEq, Int.toNat_zero, Int.toNat_one, Int.cast_ofNat_Int, Int.reduceLT, Int.reduceLE, Int.reduceNeg, Int.reduceToNat, Int.reducePow, Int.reduceMul, Int.reduceAdd, Int.reduceSub, decide_true, decide_false, sp__law_box, sp__law_draw, sp__law_parts_right, sp__law_two_right, sp__law_other]
    refine fun r r0 r1 => ⟨⟨by omega, by omega⟩, fun b hb hl => ?_⟩
    refine ⟨b, rfl, hb, fun o ho hlo => ⟨b, o, rfl, hb, ho, hlo, b, rfl, hb, ?_⟩⟩
    exact hk _ ⟨_, _, rfl⟩
  · rintro τ ⟨o1, o2, rfl⟩
    simp (implicitDefEqProofs := false) (maxSteps := 3000000) only [startD, List.map_cons, List.map_nil, List.length_cons, List.length_nil, List.replicate, List.cons_append, List.nil_append, Nat.reduceAdd, Nat.reduceSub, Nat.zero_add, dSeq, dIfS, dOr, dAnd, dNot, dTst, dOp, dUn, dVar, dC, dB, dBK, dCons, dNil, dTup, dLst, dRet, dRetN, dNext, dNever, dAsg, dPar, dPar3, dIf, dAndV, dOrV, dNotV, dCh, dCt, cLast, cLink, tLast, tLink, dDrop, dFor, dBrk, dCnt, dOwn, dApp, dExt, dFree, gPutO, dIxO, dLend, dLendT, dLcF, gN, gTu, gCn, gNl, gP0, gP1, gII, gIIc, gAdd, gNeg, gIx, gEq, gNe, gIs, gIsNot, gIn, gNotIn, gSl, oNone, oSome, gMt, gIndex, cTuple, cList, cI1, cI2, cInt, cLen, cMax, cMin, cMaxT, cMinT, dAug, cAll, cAny, cRepr, cSqrt, cIsi, tyN, isNon, kb_tt, kb_ii, kb_ib, kb_bi, kb_bb, kb_it, kb_bt, kb_nt, kb_ni, kb_lt, kb_li, kb_ti, kb_si, kb_st, kb_ss, rd, dTru, dRgN, dEnum, gMulT, gDivN, gEqF, dCallV, spOf, atD, ordD, dSq, dZip, zipD_map, ivD, dRg1, dRg2, dLc, dYes, dLcGo, dGen, dGenGo, wipeD, boolsOf, intsOf, maxL, minL, noL, noLs, Option.map_some, Option.bind_some, List.all_cons, List.all_nil, List.any_cons, List.any_nil, id_eq, List.set_cons_zero, List.set_cons_succ, List.getElem?_cons_zero, List.getElem?_cons_succ, List.getElem?_nil, List.getD_cons_zero, List.getD_cons_succ, decide_eq_true_eq, decide_eq_false_iff_not, Bool.not_eq_true', Bool.not_true, Bool.not_false, Bool.and_true, Bool.true_and, Bool.and_false, Bool.false_and, Bool.false_eq_true, if_true, if_false, reduceIte, ite_true, ite_false, true_and, and_true, reduceCtorEq, Int.toNat_zero, Int.toNat_one, Int.cast_ofNat_Int, Int.reduceLT, Int.reduceLE, Int.reduceNeg, Int.reduceToNat, Int.reducePow, Int.reduceMul, Int.reduceAdd, Int.reduceSub, decide_true, decide_false, sp__law_box, sp__law_draw, sp__law_parts_right, sp__law_two_right, sp__law_other]
    exact h
end
section
variable {P : Program} {w : World} {K : PySem.W.Frag} {mg : Str → Option Value} {base : Heap} {tabs : Tf}
def spPot (K : PySem.W.Frag) : Sp := fun vs H Q _ => ∃ (a : Addr) (ns : List Int), vs = [.ref a, .int 0] ∧ SqL K H a (ns.map V.int) ∧
  ∀ (p : Addr) (x y : Int), H p = none → 0 ≤ x → 0 ≤ y → y < 4294967296 → Q (.ref p) (upd H p (.lst [.int x, .int y]))
def spLaw (K : PySem.W.Frag) (tabs : List Addr) : Sp := fun vs H Q _ => ∃ (a : Addr) (ns : List Int), vs = [.ref a] ∧ SqL K H a (ns.map V.int) ∧ (∀ t ∈ tabs, GxR.TabG H t) ∧ ∀ H', Q (.bl true) H'
theorem raw_pot {f : Addr} {fd : FuncData} (T : Txt K mg) (F : Fun K "_law_pot" "_law_pot" s__law_pot f fd) : FnG P w K mg base CX0 1 f fd ["script", "k"] (spPot K) := by
  refine funG F sc__law_pot (fun vs H Q E h => ?_) fun cdv A outer s H vs Q E _ hg hk hr h => ?_
  · obtain ⟨a, ns, rfl, _⟩ := h
    rfl
  obtain ⟨a, ns, rfl, hS, k⟩ := h
  refine ⟨_, (pss_cons (ps_set (i := 2) sc__law_pot.nd rfl (Or.inl rfl) (pe_op op_add (pe_op op_mul pe_int (pv 1)) pe_int)) (pss_cons (ps_if (pt_cmpR op_lt (pv 1) (pe_callB call_len_seq (by rfl) T.b_len PySem.boot_len (pa_cons (pv 0) pa_nil)) (nomark _)) (pss_one (ps_set (i := 2) sc__law_pot.nd rfl (Or.inl rfl) (pe_callB call_abs (by rfl) T.b_abs PyProof.Rows.boot_abs (pa_cons (pe_ix ix_list (pv 0) (pv 1) (fun _ _ => rfl)) pa_nil)))) pss_nil) (pss_one (ps_ret (pe_lst (pa_cons (pe_callB (call_max2 rfl) (by rfl) T.b_max PyProof.Rows.boot_max (pa_cons pe_int (pa_cons (pe_op op_sub (pv 2) (pe_op op_pow pe_int pe_int)) pa_nil))) (pa_cons (pe_op op_add (pe_op op_mod (pe_op op_mul (pe_callTy call_int1 (by rfl) T.b_int PyProof.Rows.boot_int (pa_cons (pe_op op_add (pe_op op_mod (pe_callTy call_int1 (by rfl) T.b_int PyProof.Rows.boot_int (pa_cons (pv 2) pa_nil)) pe_int) pe_int) pa_nil)) (pe_op op_pow (pe_op op_add (pe_op op_mul pe_int (pv 1)) pe_int) pe_int)) pe_int) pe_int) pa_nil))))))), ?_⟩
  simp only [tSeq, tAsg, tOp, rI0, rI, tC, tVar, gName, tIfS, tTest, tCB, tCons, tNil, tRet, tLst, tNext, rIxL, L2.start, List.map_cons, List.map_nil, List.length_cons, List.length_nil, List.replicate, List.cons_append, List.nil_append, Nat.reduceAdd, Nat.reduceSub, List.getElem?_cons_zero, List.getElem?_cons_succ, List.set_cons_zero, List.set_cons_succ]
  repeat (first | refine ⟨_, _, rfl, rfl, ?_⟩ | refine ⟨_, _, rfl, .inl hS, ?_⟩ | refine ⟨_, rfl, ?_⟩ | refine ⟨(.inl ⟨by decide, by decide⟩ : CMul _ _), ?_⟩ | refine ⟨(⟨by decide, by decide, by decide⟩ : CPow _ _), ?_⟩)
  refine ite2P (fun h0 => ?_) (fun h0 => ?_)
  · have h1 : 0 < (ns.map V.int).length := by have := of_decide_eq_true h0; omega
    obtain ⟨n, hn⟩ : ∃ n : Int, (ns.map V.int)[0]? = some (V.int n) := by
      cases ns with
      | nil => simp at h1
      | cons n ns => exact ⟨n, rfl⟩
    refine ⟨_, rfl, _, rfl, a, _, 0, V.int n, rfl, rfl, hS, atI_nat hn, ?_⟩
    repeat (first | refine ⟨_, _, rfl, rfl, ?_⟩ | refine ⟨_, _, rfl, ?_⟩ | refine .inl ⟨_, rfl, ?_⟩ | refine ⟨_, rfl, ?_⟩ | refine ⟨(.inl ⟨by decide, by decide⟩ : CMul _ _), ?_⟩ | refine ⟨(.inr ⟨by decide, by decide⟩ : CMul _ _), ?_⟩ | refine ⟨(⟨by decide, by decide, by decide⟩ : CPow _ _), ?_⟩ | refine ⟨(by decide : (0 : Int) < _), ?_⟩ | refine ⟨(by show 2 ≤ sizeLine; decide), ?_⟩)
    refine fun p hp => k p _ _ hp (by split <;> omega) ?_ ?_
    · exact pot_lo (by decide)
    · exact pot_hi (by decide) (by decide)
  · repeat (first | refine ⟨_, _, rfl, rfl, ?_⟩ | refine ⟨_, _, rfl, ?_⟩ | refine .inl ⟨_, rfl, ?_⟩ | refine ⟨_, rfl, ?_⟩ | refine ⟨(.inl ⟨by decide, by decide⟩ : CMul _ _), ?_⟩ | refine ⟨(.inr ⟨by decide, by decide⟩ : CMul _ _), ?_⟩ | refine ⟨(⟨by decide, by decide, by decide⟩ : CPow _ _), ?_⟩ | refine ⟨(by decide : (0 : Int) < _), ?_⟩ | refine ⟨(by show 2 ≤ sizeLine; decide), ?_⟩)
    refine fun p hp => k p _ _ hp (by split <;> omega) ?_ ?_
    · exact pot_lo (by decide)
    · exact pot_hi (by decide) (by decide)
theorem raw_law {f : Addr} {fd : FuncData} {f1 : Addr} {fd1 : FuncData} (F : Fun K "law" "law" s_law f fd) (F1 : FnG P w K mg base CX0 1 f1 fd1 ["script", "k"] (spPot K)) (b1 : Binds K fd1 ["script", "k"] []) (m1 : mg "_law_pot" = some (.ref f1)) (k1 : PySem.W.keepIn K (.ref f1) = true)
    (C : Cal P w K mg base tabs "_law_right" 9 1 ["pot"] [] sp__law_right) : FnG P w K mg base CX0 10 f fd ["script"] (spLaw K tabs.tabs) := by
  obtain ⟨f2, fd2, F2, m2, k2, b2, _⟩ := C.ex
  refine funG F sc_law (fun vs H Q E h => ?_) fun cdv A outer s H vs Q E _ hg hk hr h => ?_
  · obtain ⟨a, ns, rfl, _⟩ := h
    rfl
  obtain ⟨a, ns, rfl, hS, hT, k⟩ := h
  refine ⟨_, pss_one (ps_ret (pe_callG F2 hg hr pass0 (by rfl) m2 k2 b2 (pa_cons (pe_callG F1 hg (hr.mono (by decide)) pass0 (by rfl) m1 k1 b1 (pa_cons (pv 0) (pa_cons pe_int pa_nil))) pa_nil))), ?_⟩
  refine ⟨_, rfl, a, ns, rfl, hS, fun p x y hp h0 h1 h2 => ?_⟩
  refine ⟨rfl, p, [], [.pot], fun d => d = .bl true, ⟨⟨⟨x, y, h0, h1, h2, upd_same⟩, fun t ht => ?_⟩, fun b hb => absurd hb List.not_mem_nil⟩, .cons .pot .nil, rfl, fun z v H' _ i e => ?_⟩
  · obtain ⟨ps, e1, e2⟩ := hT t ht
    refine ⟨ps, ?_, e2⟩
    rw [upd_ne fun e => by rw [e, hp] at e1; cases e1]
    exact e1
  · subst e
    cases i
    exact k H'
end

theorem kb_around_point {K : PySem.W.Frag} {f : Addr} (fd : FuncData) (F : Fun K "around_point" "around_point" s_around_point f fd) : ∀ q ∈ ([(["point"], 0, [0])] : List (List Str × Nat × List Nat)), BindK K fd ["point"] q.1 q.2.1 q.2.2 := by
  intro q hq
  have e := List.mem_singleton.mp hq
  subst e
  exact bindK_of F fun kV doc pm an cdv ct us ws h1 h2 => match us, ws, h1, h2 with
      | [], [w0], _, _ => ⟨[w0], rfl, rfl, rfl, fun i j e => by
        match i, e with
        | 0, e => cases e; exact ⟨rfl, by simp⟩
        | (t + 1), e => simp at e⟩
theorem kb_box_hull {K : PySem.W.Frag} {f : Addr} (fd : FuncData) (F : Fun K "box_hull" "box_hull" s_box_hull f fd) : ∀ q ∈ ([(["other", "box"], 0, [1, 0])] : List (List Str × Nat × List Nat)), BindK K fd ["box", "other"] q.1 q.2.1 q.2.2 := by
  intro q hq
  have e := List.mem_singleton.mp hq
  subst e
  exact bindK_of F fun kV doc pm an cdv ct us ws h1 h2 => match us, ws, h1, h2 with
      | [], [w0, w1], _, _ => ⟨[w1, w0], rfl, rfl, rfl, fun i j e => by
        match i, e with
        | 0, e => cases e; exact ⟨rfl, by simp⟩
        | 1, e => cases e; exact ⟨rfl, by simp⟩
        | (t + 2), e => simp at e⟩
theorem kb_box_meet {K : PySem.W.Frag} {f : Addr} (fd : FuncData) (F : Fun K "box_meet" "box_meet" s_box_meet f fd) : ∀ q ∈ ([(["other", "box"], 0, [1, 0])] : List (List Str × Nat × List Nat)), BindK K fd ["box", "other"] q.1 q.2.1 q.2.2 := by
  intro q hq
  have e := List.mem_singleton.mp hq
  subst e
  exact bindK_of F fun kV doc pm an cdv ct us ws h1 h2 => match us, ws, h1, h2 with
      | [], [w0, w1], _, _ => ⟨[w1, w0], rfl, rfl, rfl, fun i j e => by
        match i, e with
        | 0, e => cases e; exact ⟨rfl, by simp⟩
        | 1, e => cases e; exact ⟨rfl, by simp⟩
        | (t + 2), e => simp at e⟩
theorem kb_box_within {K : PySem.W.Frag} {f : Addr} (fd : FuncData) (F : Fun K "box_within" "box_within" s_box_within f fd) : ∀ q ∈ ([(["other", "box"], 0, [1, 0])] : List (List Str × Nat × List Nat)), BindK K fd ["box", "other"] q.1 q.2.1 q.2.2 := by
  intro q hq
  have e := List.mem_singleton.mp hq
  subst e
  exact bindK_of F fun kV doc pm an cdv ct us ws h1 h2 => match us, ws, h1, h2 with
      | [], [w0, w1], _, _ => ⟨[w1, w0], rfl, rfl, rfl, fun i j e => by
        match i, e with
        | 0, e => cases e; exact ⟨rfl, by simp⟩
        | 1, e => cases e; exact ⟨rfl, by simp⟩
        | (t + 2), e => simp at e⟩
theorem kb_holds_point {K : PySem.W.Frag} {f : Addr} (fd : FuncData) (F : Fun K "holds_point" "holds_point" s_holds_point f fd) : ∀ q ∈ ([(["point", "box"], 0, [1, 0])] : List (List Str × Nat × List Nat)), BindK K fd ["box", "point"] q.1 q.2.1 q.2.2 := by
  intro q hq
  have e := List.mem_singleton.mp hq
  subst e
  exact bindK_of F fun kV doc pm an cdv ct us ws h1 h2 => match us, ws, h1, h2 with
      | [], [w0, w1], _, _ => ⟨[w1, w0], rfl, rfl, rfl, fun i j e => by
        match i, e with
        | 0, e => cases e; exact ⟨rfl, by simp⟩
        | 1, e => cases e; exact ⟨rfl, by simp⟩
        | (t + 2), e => simp at e⟩
theorem kb_split_box {K : PySem.W.Frag} {f : Addr} (fd : FuncData) (F : Fun K "split_box" "split_box" s_split_box f fd) : ∀ q ∈ ([(["position", "box"], 0, [1, 0])] : List (List Str × Nat × List Nat)), BindK K fd ["box", "position"] q.1 q.2.1 q.2.2 := by
  intro q hq
  have e := List.mem_singleton.mp hq
  subst e
  exact bindK_of F fun kV doc pm an cdv ct us ws h1 h2 => match us, ws, h1, h2 with
      | [], [w0, w1], _, _ => ⟨[w1, w0], rfl, rfl, rfl, fun i j e => by
        match i, e with
        | 0, e => cases e; exact ⟨rfl, by simp⟩
        | 1, e => cases e; exact ⟨rfl, by simp⟩
        | (t + 2), e => simp at e⟩
theorem kb_widest {K : PySem.W.Frag} {f : Addr} (fd : FuncData) (F : Fun K "widest" "widest" s_widest f fd) : ∀ q ∈ ([(["box"], 0, [0])] : List (List Str × Nat × List Nat)), BindK K fd ["box"] q.1 q.2.1 q.2.2 := by
  intro q hq
  have e := List.mem_singleton.mp hq
  subst e
  exact bindK_of F fun kV doc pm an cdv ct us ws h1 h2 => match us, ws, h1, h2 with
      | [], [w0], _, _ => ⟨[w0], rfl, rfl, rfl, fun i j e => by
        match i, e with
        | 0, e => cases e; exact ⟨rfl, by simp⟩
        | (t + 1), e => simp at e⟩
set_option maxHeartbeats 0 in
theorem all_mk {l : PySem.W.OpenLaw} {w : World} {K : PySem.W.Frag} {h : Heap} {mg : Str → Option Value} {fa : Addr} (X : K.In h) (G : h.Ns mainGlobals mg) (hfa : mg "law" = some (.ref fa))
    {gc14 gp14 gc15 gp15 : Addr} {ge14 ge15 : Value} {gd14 gd15 : Option Addr} {gv14 gv15 : Array Value} {gs14 gs15 : Array (Option Value)}
    {f0 f1 f2 f3 f4 f5 f6 f7 f8 f9 f10 f11 f12 f13 f14 f15 f16 f17 f18 f19 f20 f21 f22 f23 f24 f25 f26 f27 f28 f29 f30 f31 f32 f33 f34 f35 f36 f37 f38 f39 f40 f41 f42 f43 f44 f45 f46 f47 f48 f49 f50 f51 f52 f53 : Addr} {od0 an0 od1 an1 od2 an2 od3 an3 od4 an4 od5 an5 od6 an6 od7 an7 od8 an8 od9 an9 od10 an10 od11 an11 od12 an12 od13 an13 od14 an14 od15 an15 od16 an16 od17 an17 od18 an18 od19 an19 od20 an20 od21 an21 od22 an22 od23 an23 od24 an24 od25 an25 od26 an26 od27 an27 od28 an28 od29 an29 od30 an30 od31 an31 od32 an32 od33 an33 od34 an34 od35 an35 od36 an36 od37 an37 od38 an38 od39 an39 od40 an40 od41 an41 od42 an42 od43 an43 od44 an44 od45 an45 od46 an46 od47 an47 od48 an48 od49 an49 od50 an50 od51 an51 od52 an52 od53 an53 : Option Addr} {sl0 sl1 sl2 sl3 sl4 sl5 sl6 sl7 sl8 sl9 sl10 sl11 sl12 sl13 sl14 sl15 sl16 sl17 sl18 sl19 sl20 sl21 sl22 sl23 sl24 sl25 sl26 sl27 sl28 sl29 sl30 sl31 sl32 sl33 sl34 sl35 sl36 sl37 sl38 sl39 sl40 sl41 sl42 sl43 sl44 sl45 sl46 sl47 sl48 sl49 sl50 sl51 sl52 sl53 : Array (Option Value)} {oc0 kV0 dc0 pm0 cd0 ct0 oc1 kV1 dc1 pm1 cd1 ct1 oc2 kV2 dc2 pm2 cd2 ct2 oc3 kV3 dc3 pm3 cd3 ct3 oc4 kV4 dc4 pm4 cd4 ct4 oc5 kV5 dc5 pm5 cd5 ct5 oc6 kV6 dc6 pm6 cd6 ct6 oc7 kV7 dc7 pm7 cd7 ct7 oc8 kV8 dc8 pm8 cd8 ct8 oc9 kV9 dc9 pm9 cd9 ct9 oc10 kV10 dc10 pm10 cd10 ct10 oc11 kV11 dc11 pm11 cd11 ct11 oc12 kV12 dc12 pm12 cd12 ct12 oc13 kV13 dc13 pm13 cd13 ct13 oc14 kV14 dc14 pm14 ct14 oc15 kV15 dc15 pm15 ct15 oc16 kV16 dc16 pm16 cd16 ct16 oc17 kV17 dc17 pm17 cd17 ct17 oc18 kV18 dc18 pm18 cd18 ct18 oc19 kV19 dc19 pm19 cd19 ct19 oc20 kV20 dc20 pm20 cd20 ct20 oc21 kV21 dc21 pm21 cd21 ct21 oc22 kV22 dc22 pm22 cd22 ct22 oc23 kV23 dc23 pm23 cd23 ct23 oc24 kV24 dc24 pm24 cd24 ct24 oc25 kV25 dc25 pm25 cd25 ct25 oc26 kV26 dc26 pm26 cd26 ct26 oc27 kV27 dc27 pm27 cd27 ct27 oc28 kV28 dc28 pm28 cd28 ct28 oc29 kV29 dc29 pm29 cd29 ct29 oc30 kV30 dc30 pm30 cd30 ct30 oc31 kV31 dc31 pm31 cd31 ct31 oc32 kV32 dc32 pm32 cd32 ct32 oc33 kV33 dc33 pm33 cd33 ct33 oc34 kV34 dc34 pm34 cd34 ct34 oc35 kV35 dc35 pm35 cd35 ct35 oc36 kV36 dc36 pm36 cd36 ct36 oc37 kV37 dc37 pm37 cd37 ct37 oc38 kV38 dc38 pm38 cd38 ct38 oc39 kV39 dc39 pm39 cd39 ct39 oc40 kV40 dc40 pm40 cd40 ct40 oc41 kV41 dc41 pm41 cd41 ct41 oc42 kV42 dc42 pm42 cd42 ct42 oc43 kV43 dc43 pm43 cd43 ct43 oc44 kV44 dc44 pm44 cd44 ct44 oc45 kV45 dc45 pm45 cd45 ct45 oc46 kV46 dc46 pm46 cd46 ct46 oc47 kV47 dc47 pm47 cd47 ct47 oc48 kV48 dc48 pm48 cd48 ct48 oc49 kV49 dc49 pm49 cd49 ct49 oc50 kV50 dc50 pm50 cd50 ct50 oc51 kV51 dc51 pm51 cd51 ct51 oc52 kV52 dc52 pm52 cd52 ct52 oc53 kV53 dc53 pm53 cd53 ct53 : Value}
    {t_MOST_GRAINS t_MOST_LETTERS t_ONE : Tok}
    (a0 : PySem.W.nsIn K mainGlobals "floor_of" = some (some (.ref f0))) (l0 : K.lookup f0 = some ⟨oc0, od0, .func (PySem.W.fnOf "floor_of" "floor_of" (defArgs s_floor_of) (defBody s_floor_of) (defScope s_floor_of) .none kV0 dc0 pm0 an0 cd0 ct0), sl0⟩) (c0 : PySem.W.codeIn K cd0 "floor_of" = true) (k0 : PySem.W.keepIn K (.ref f0) = true)
    (a1 : PySem.W.nsIn K mainGlobals "ceiling_of" = some (some (.ref f1))) (l1 : K.lookup f1 = some ⟨oc1, od1, .func (PySem.W.fnOf "ceiling_of" "ceiling_of" (defArgs s_ceiling_of) (defBody s_ceiling_of) (defScope s_ceiling_of) .none kV1 dc1 pm1 an1 cd1 ct1), sl1⟩) (c1 : PySem.W.codeIn K cd1 "ceiling_of" = true) (k1 : PySem.W.keepIn K (.ref f1) = true)
    (a2 : PySem.W.nsIn K mainGlobals "in_bounds" = some (some (.ref f2))) (l2 : K.lookup f2 = some ⟨oc2, od2, .func (PySem.W.fnOf "in_bounds" "in_bounds" (defArgs s_in_bounds) (defBody s_in_bounds) (defScope s_in_bounds) .none kV2 dc2 pm2 an2 cd2 ct2), sl2⟩) (c2 : PySem.W.codeIn K cd2 "in_bounds" = true) (k2 : PySem.W.keepIn K (.ref f2) = true)
    (a3 : PySem.W.nsIn K mainGlobals "grain_around" = some (some (.ref f3))) (l3 : K.lookup f3 = some ⟨oc3, od3, .func (PySem.W.fnOf "grain_around" "grain_around" (defArgs s_grain_around) (defBody s_grain_around) (defScope s_grain_around) .none kV3 dc3 pm3 an3 cd3 ct3), sl3⟩) (c3 : PySem.W.codeIn K cd3 "grain_around" = true) (k3 : PySem.W.keepIn K (.ref f3) = true)
    (a4 : PySem.W.nsIn K mainGlobals "grain_hull" = some (some (.ref f4))) (l4 : K.lookup f4 = some ⟨oc4, od4, .func (PySem.W.fnOf "grain_hull" "grain_hull" (defArgs s_grain_hull) (defBody s_grain_hull) (defScope s_grain_hull) .none kV4 dc4 pm4 an4 cd4 ct4), sl4⟩) (c4 : PySem.W.codeIn K cd4 "grain_hull" = true) (k4 : PySem.W.keepIn K (.ref f4) = true)
    (a5 : PySem.W.nsIn K mainGlobals "grain_meet" = some (some (.ref f5))) (l5 : K.lookup f5 = some ⟨oc5, od5, .func (PySem.W.fnOf "grain_meet" "grain_meet" (defArgs s_grain_meet) (defBody s_grain_meet) (defScope s_grain_meet) .none kV5 dc5 pm5 an5 cd5 ct5), sl5⟩) (c5 : PySem.W.codeIn K cd5 "grain_meet" = true) (k5 : PySem.W.keepIn K (.ref f5) = true)
    (a6 : PySem.W.nsIn K mainGlobals "lies_within" = some (some (.ref f6))) (l6 : K.lookup f6 = some ⟨oc6, od6, .func (PySem.W.fnOf "lies_within" "lies_within" (defArgs s_lies_within) (defBody s_lies_within) (defScope s_lies_within) .none kV6 dc6 pm6 an6 cd6 ct6), sl6⟩) (c6 : PySem.W.codeIn K cd6 "lies_within" = true) (k6 : PySem.W.keepIn K (.ref f6) = true)
    (a7 : PySem.W.nsIn K mainGlobals "middle_of" = some (some (.ref f7))) (l7 : K.lookup f7 = some ⟨oc7, od7, .func (PySem.W.fnOf "middle_of" "middle_of" (defArgs s_middle_of) (defBody s_middle_of) (defScope s_middle_of) .none kV7 dc7 pm7 an7 cd7 ct7), sl7⟩) (c7 : PySem.W.codeIn K cd7 "middle_of" = true) (k7 : PySem.W.keepIn K (.ref f7) = true)
    (a8 : PySem.W.nsIn K mainGlobals "has_ratio" = some (some (.ref f8))) (l8 : K.lookup f8 = some ⟨oc8, od8, .func (PySem.W.fnOf "has_ratio" "has_ratio" (defArgs s_has_ratio) (defBody s_has_ratio) (defScope s_has_ratio) .none kV8 dc8 pm8 an8 cd8 ct8), sl8⟩) (c8 : PySem.W.codeIn K cd8 "has_ratio" = true) (k8 : PySem.W.keepIn K (.ref f8) = true)
    (a9 : PySem.W.nsIn K mainGlobals "is_integer" = some (some (.ref f9))) (l9 : K.lookup f9 = some ⟨oc9, od9, .func (PySem.W.fnOf "is_integer" "is_integer" (defArgs s_is_integer) (defBody s_is_integer) (defScope s_is_integer) .none kV9 dc9 pm9 an9 cd9 ct9), sl9⟩) (c9 : PySem.W.codeIn K cd9 "is_integer" = true) (k9 : PySem.W.keepIn K (.ref f9) = true)
    (a10 : PySem.W.nsIn K mainGlobals "is_from_to" = some (some (.ref f10))) (l10 : K.lookup f10 = some ⟨oc10, od10, .func (PySem.W.fnOf "is_from_to" "is_from_to" (defArgs s_is_from_to) (defBody s_is_from_to) (defScope s_is_from_to) .none kV10 dc10 pm10 an10 cd10 ct10), sl10⟩) (c10 : PySem.W.codeIn K cd10 "is_from_to" = true) (k10 : PySem.W.keepIn K (.ref f10) = true)
    (a11 : PySem.W.nsIn K mainGlobals "is_some_tuple" = some (some (.ref f11))) (l11 : K.lookup f11 = some ⟨oc11, od11, .func (PySem.W.fnOf "is_some_tuple" "is_some_tuple" (defArgs s_is_some_tuple) (defBody s_is_some_tuple) (defScope s_is_some_tuple) .none kV11 dc11 pm11 an11 cd11 ct11), sl11⟩) (c11 : PySem.W.codeIn K cd11 "is_some_tuple" = true) (k11 : PySem.W.keepIn K (.ref f11) = true)
    (a12 : PySem.W.nsIn K mainGlobals "is_ratio" = some (some (.ref f12))) (l12 : K.lookup f12 = some ⟨oc12, od12, .func (PySem.W.fnOf "is_ratio" "is_ratio" (defArgs s_is_ratio) (defBody s_is_ratio) (defScope s_is_ratio) .none kV12 dc12 pm12 an12 cd12 ct12), sl12⟩) (c12 : PySem.W.codeIn K cd12 "is_ratio" = true) (k12 : PySem.W.keepIn K (.ref f12) = true)
    (a13 : PySem.W.nsIn K mainGlobals "is_interval" = some (some (.ref f13))) (l13 : K.lookup f13 = some ⟨oc13, od13, .func (PySem.W.fnOf "is_interval" "is_interval" (defArgs s_is_interval) (defBody s_is_interval) (defScope s_is_interval) .none kV13 dc13 pm13 an13 cd13 ct13), sl13⟩) (c13 : PySem.W.codeIn K cd13 "is_interval" = true) (k13 : PySem.W.keepIn K (.ref f13) = true)
    (a14 : PySem.W.nsIn K mainGlobals "is_box" = some (some (.ref f14))) (l14 : K.lookup f14 = some ⟨oc14, od14, .func (PySem.W.fnOf "is_box" "is_box" (defArgs s_is_box) (defBody s_is_box) (defScope s_is_box) .none kV14 dc14 pm14 an14 (.ref gc14) ct14), sl14⟩) (c14 : PySem.W.codeIn K (.ref gc14) "is_box" = true) (k14 : PySem.W.keepIn K (.ref f14) = true)
    (gl14 : K.lookup gc14 = some ⟨ge14, gd14, .fields gv14, gs14⟩) (gi14 : gv14[11]? = some (.ref gp14)) (gn14 : K.lookup gp14 = none) (go14 : OwnTab K mg h "is_box")
    (a15 : PySem.W.nsIn K mainGlobals "is_point" = some (some (.ref f15))) (l15 : K.lookup f15 = some ⟨oc15, od15, .func (PySem.W.fnOf "is_point" "is_point" (defArgs s_is_point) (defBody s_is_point) (defScope s_is_point) .none kV15 dc15 pm15 an15 (.ref gc15) ct15), sl15⟩) (c15 : PySem.W.codeIn K (.ref gc15) "is_point" = true) (k15 : PySem.W.keepIn K (.ref f15) = true)
    (gl15 : K.lookup gc15 = some ⟨ge15, gd15, .fields gv15, gs15⟩) (gi15 : gv15[11]? = some (.ref gp15)) (gn15 : K.lookup gp15 = none) (go15 : OwnTab K mg h "is_point")
    (a16 : PySem.W.nsIn K mainGlobals "check_box" = some (some (.ref f16))) (l16 : K.lookup f16 = some ⟨oc16, od16, .func (PySem.W.fnOf "check_box" "check_box" (defArgs s_check_box) (defBody s_check_box) (defScope s_check_box) .none kV16 dc16 pm16 an16 cd16 ct16), sl16⟩) (c16 : PySem.W.codeIn K cd16 "check_box" = true) (k16 : PySem.W.keepIn K (.ref f16) = true)
    (a17 : PySem.W.nsIn K mainGlobals "check_point" = some (some (.ref f17))) (l17 : K.lookup f17 = some ⟨oc17, od17, .func (PySem.W.fnOf "check_point" "check_point" (defArgs s_check_point) (defBody s_check_point) (defScope s_check_point) .none kV17 dc17 pm17 an17 cd17 ct17), sl17⟩) (c17 : PySem.W.codeIn K cd17 "check_point" = true) (k17 : PySem.W.keepIn K (.ref f17) = true)
    (a18 : PySem.W.nsIn K mainGlobals "check_sizes" = some (some (.ref f18))) (l18 : K.lookup f18 = some ⟨oc18, od18, .func (PySem.W.fnOf "check_sizes" "check_sizes" (defArgs s_check_sizes) (defBody s_check_sizes) (defScope s_check_sizes) .none kV18 dc18 pm18 an18 cd18 ct18), sl18⟩) (c18 : PySem.W.codeIn K cd18 "check_sizes" = true) (k18 : PySem.W.keepIn K (.ref f18) = true)
    (a19 : PySem.W.nsIn K mainGlobals "_check_boxes" = some (some (.ref f19))) (l19 : K.lookup f19 = some ⟨oc19, od19, .func (PySem.W.fnOf "_check_boxes" "_check_boxes" (defArgs s__check_boxes) (defBody s__check_boxes) (defScope s__check_boxes) .none kV19 dc19 pm19 an19 cd19 ct19), sl19⟩) (c19 : PySem.W.codeIn K cd19 "_check_boxes" = true) (k19 : PySem.W.keepIn K (.ref f19) = true)
    (a20 : PySem.W.nsIn K mainGlobals "box_within" = some (some (.ref f20))) (l20 : K.lookup f20 = some ⟨oc20, od20, .func (PySem.W.fnOf "box_within" "box_within" (defArgs s_box_within) (defBody s_box_within) (defScope s_box_within) .none kV20 dc20 pm20 an20 cd20 ct20), sl20⟩) (c20 : PySem.W.codeIn K cd20 "box_within" = true) (k20 : PySem.W.keepIn K (.ref f20) = true)
    (a21 : PySem.W.nsIn K mainGlobals "box_hull" = some (some (.ref f21))) (l21 : K.lookup f21 = some ⟨oc21, od21, .func (PySem.W.fnOf "box_hull" "box_hull" (defArgs s_box_hull) (defBody s_box_hull) (defScope s_box_hull) .none kV21 dc21 pm21 an21 cd21 ct21), sl21⟩) (c21 : PySem.W.codeIn K cd21 "box_hull" = true) (k21 : PySem.W.keepIn K (.ref f21) = true)
    (a22 : PySem.W.nsIn K mainGlobals "box_meet" = some (some (.ref f22))) (l22 : K.lookup f22 = some ⟨oc22, od22, .func (PySem.W.fnOf "box_meet" "box_meet" (defArgs s_box_meet) (defBody s_box_meet) (defScope s_box_meet) .none kV22 dc22 pm22 an22 cd22 ct22), sl22⟩) (c22 : PySem.W.codeIn K cd22 "box_meet" = true) (k22 : PySem.W.keepIn K (.ref f22) = true)
    (a23 : PySem.W.nsIn K mainGlobals "_widths" = some (some (.ref f23))) (l23 : K.lookup f23 = some ⟨oc23, od23, .func (PySem.W.fnOf "_widths" "_widths" (defArgs s__widths) (defBody s__widths) (defScope s__widths) .none kV23 dc23 pm23 an23 cd23 ct23), sl23⟩) (c23 : PySem.W.codeIn K cd23 "_widths" = true) (k23 : PySem.W.keepIn K (.ref f23) = true)
    (a24 : PySem.W.nsIn K mainGlobals "box_width" = some (some (.ref f24))) (l24 : K.lookup f24 = some ⟨oc24, od24, .func (PySem.W.fnOf "box_width" "box_width" (defArgs s_box_width) (defBody s_box_width) (defScope s_box_width) .none kV24 dc24 pm24 an24 cd24 ct24), sl24⟩) (c24 : PySem.W.codeIn K cd24 "box_width" = true) (k24 : PySem.W.keepIn K (.ref f24) = true)
    (a25 : PySem.W.nsIn K mainGlobals "widest" = some (some (.ref f25))) (l25 : K.lookup f25 = some ⟨oc25, od25, .func (PySem.W.fnOf "widest" "widest" (defArgs s_widest) (defBody s_widest) (defScope s_widest) .none kV25 dc25 pm25 an25 cd25 ct25), sl25⟩) (c25 : PySem.W.codeIn K cd25 "widest" = true) (k25 : PySem.W.keepIn K (.ref f25) = true)
    (a26 : PySem.W.nsIn K mainGlobals "with_interval" = some (some (.ref f26))) (l26 : K.lookup f26 = some ⟨oc26, od26, .func (PySem.W.fnOf "with_interval" "with_interval" (defArgs s_with_interval) (defBody s_with_interval) (defScope s_with_interval) .none kV26 dc26 pm26 an26 cd26 ct26), sl26⟩) (c26 : PySem.W.codeIn K cd26 "with_interval" = true) (k26 : PySem.W.keepIn K (.ref f26) = true)
    (a27 : PySem.W.nsIn K mainGlobals "box_halves" = some (some (.ref f27))) (l27 : K.lookup f27 = some ⟨oc27, od27, .func (PySem.W.fnOf "box_halves" "box_halves" (defArgs s_box_halves) (defBody s_box_halves) (defScope s_box_halves) .none kV27 dc27 pm27 an27 cd27 ct27), sl27⟩) (c27 : PySem.W.codeIn K cd27 "box_halves" = true) (k27 : PySem.W.keepIn K (.ref f27) = true)
    (a28 : PySem.W.nsIn K mainGlobals "split_box" = some (some (.ref f28))) (l28 : K.lookup f28 = some ⟨oc28, od28, .func (PySem.W.fnOf "split_box" "split_box" (defArgs s_split_box) (defBody s_split_box) (defScope s_split_box) .none kV28 dc28 pm28 an28 cd28 ct28), sl28⟩) (c28 : PySem.W.codeIn K cd28 "split_box" = true) (k28 : PySem.W.keepIn K (.ref f28) = true)
    (a29 : PySem.W.nsIn K mainGlobals "holds_point" = some (some (.ref f29))) (l29 : K.lookup f29 = some ⟨oc29, od29, .func (PySem.W.fnOf "holds_point" "holds_point" (defArgs s_holds_point) (defBody s_holds_point) (defScope s_holds_point) .none kV29 dc29 pm29 an29 cd29 ct29), sl29⟩) (c29 : PySem.W.codeIn K cd29 "holds_point" = true) (k29 : PySem.W.keepIn K (.ref f29) = true)
    (a30 : PySem.W.nsIn K mainGlobals "around_point" = some (some (.ref f30))) (l30 : K.lookup f30 = some ⟨oc30, od30, .func (PySem.W.fnOf "around_point" "around_point" (defArgs s_around_point) (defBody s_around_point) (defScope s_around_point) .none kV30 dc30 pm30 an30 cd30 ct30), sl30⟩) (c30 : PySem.W.codeIn K cd30 "around_point" = true) (k30 : PySem.W.keepIn K (.ref f30) = true)
    (a31 : PySem.W.nsIn K mainGlobals "_law_draw" = some (some (.ref f31))) (l31 : K.lookup f31 = some ⟨oc31, od31, .func (PySem.W.fnOf "_law_draw" "_law_draw" (defArgs s__law_draw) (defBody s__law_draw) (defScope s__law_draw) .none kV31 dc31 pm31 an31 cd31 ct31), sl31⟩) (c31 : PySem.W.codeIn K cd31 "_law_draw" = true) (k31 : PySem.W.keepIn K (.ref f31) = true)
    (a32 : PySem.W.nsIn K mainGlobals "_law_pick" = some (some (.ref f32))) (l32 : K.lookup f32 = some ⟨oc32, od32, .func (PySem.W.fnOf "_law_pick" "_law_pick" (defArgs s__law_pick) (defBody s__law_pick) (defScope s__law_pick) .none kV32 dc32 pm32 an32 cd32 ct32), sl32⟩) (c32 : PySem.W.codeIn K cd32 "_law_pick" = true) (k32 : PySem.W.keepIn K (.ref f32) = true)
    (a33 : PySem.W.nsIn K mainGlobals "_law_one" = some (some (.ref f33))) (l33 : K.lookup f33 = some ⟨oc33, od33, .func (PySem.W.fnOf "_law_one" "_law_one" (defArgs s__law_one) (defBody s__law_one) (defScope s__law_one) .none kV33 dc33 pm33 an33 cd33 ct33), sl33⟩) (c33 : PySem.W.codeIn K cd33 "_law_one" = true) (k33 : PySem.W.keepIn K (.ref f33) = true)
    (a34 : PySem.W.nsIn K mainGlobals "_law_gcd" = some (some (.ref f34))) (l34 : K.lookup f34 = some ⟨oc34, od34, .func (PySem.W.fnOf "_law_gcd" "_law_gcd" (defArgs s__law_gcd) (defBody s__law_gcd) (defScope s__law_gcd) .none kV34 dc34 pm34 an34 cd34 ct34), sl34⟩) (c34 : PySem.W.codeIn K cd34 "_law_gcd" = true) (k34 : PySem.W.keepIn K (.ref f34) = true)
    (a35 : PySem.W.nsIn K mainGlobals "_law_ratio" = some (some (.ref f35))) (l35 : K.lookup f35 = some ⟨oc35, od35, .func (PySem.W.fnOf "_law_ratio" "_law_ratio" (defArgs s__law_ratio) (defBody s__law_ratio) (defScope s__law_ratio) .none kV35 dc35 pm35 an35 cd35 ct35), sl35⟩) (c35 : PySem.W.codeIn K cd35 "_law_ratio" = true) (k35 : PySem.W.keepIn K (.ref f35) = true)
    (a36 : PySem.W.nsIn K mainGlobals "_law_down" = some (some (.ref f36))) (l36 : K.lookup f36 = some ⟨oc36, od36, .func (PySem.W.fnOf "_law_down" "_law_down" (defArgs s__law_down) (defBody s__law_down) (defScope s__law_down) .none kV36 dc36 pm36 an36 cd36 ct36), sl36⟩) (c36 : PySem.W.codeIn K cd36 "_law_down" = true) (k36 : PySem.W.keepIn K (.ref f36) = true)
    (a37 : PySem.W.nsIn K mainGlobals "_law_up" = some (some (.ref f37))) (l37 : K.lookup f37 = some ⟨oc37, od37, .func (PySem.W.fnOf "_law_up" "_law_up" (defArgs s__law_up) (defBody s__law_up) (defScope s__law_up) .none kV37 dc37 pm37 an37 cd37 ct37), sl37⟩) (c37 : PySem.W.codeIn K cd37 "_law_up" = true) (k37 : PySem.W.keepIn K (.ref f37) = true)
    (a38 : PySem.W.nsIn K mainGlobals "_law_size" = some (some (.ref f38))) (l38 : K.lookup f38 = some ⟨oc38, od38, .func (PySem.W.fnOf "_law_size" "_law_size" (defArgs s__law_size) (defBody s__law_size) (defScope s__law_size) .none kV38 dc38 pm38 an38 cd38 ct38), sl38⟩) (c38 : PySem.W.codeIn K cd38 "_law_size" = true) (k38 : PySem.W.keepIn K (.ref f38) = true)
    (a39 : PySem.W.nsIn K mainGlobals "_law_number" = some (some (.ref f39))) (l39 : K.lookup f39 = some ⟨oc39, od39, .func (PySem.W.fnOf "_law_number" "_law_number" (defArgs s__law_number) (defBody s__law_number) (defScope s__law_number) .none kV39 dc39 pm39 an39 cd39 ct39), sl39⟩) (c39 : PySem.W.codeIn K cd39 "_law_number" = true) (k39 : PySem.W.keepIn K (.ref f39) = true)
    (a40 : PySem.W.nsIn K mainGlobals "_law_interval" = some (some (.ref f40))) (l40 : K.lookup f40 = some ⟨oc40, od40, .func (PySem.W.fnOf "_law_interval" "_law_interval" (defArgs s__law_interval) (defBody s__law_interval) (defScope s__law_interval) .none kV40 dc40 pm40 an40 cd40 ct40), sl40⟩) (c40 : PySem.W.codeIn K cd40 "_law_interval" = true) (k40 : PySem.W.keepIn K (.ref f40) = true)
    (a41 : PySem.W.nsIn K mainGlobals "_law_small_ratio" = some (some (.ref f41))) (l41 : K.lookup f41 = some ⟨oc41, od41, .func (PySem.W.fnOf "_law_small_ratio" "_law_small_ratio" (defArgs s__law_small_ratio) (defBody s__law_small_ratio) (defScope s__law_small_ratio) .none kV41 dc41 pm41 an41 cd41 ct41), sl41⟩) (c41 : PySem.W.codeIn K cd41 "_law_small_ratio" = true) (k41 : PySem.W.keepIn K (.ref f41) = true)
    (a42 : PySem.W.nsIn K mainGlobals "_law_within" = some (some (.ref f42))) (l42 : K.lookup f42 = some ⟨oc42, od42, .func (PySem.W.fnOf "_law_within" "_law_within" (defArgs s__law_within) (defBody s__law_within) (defScope s__law_within) .none kV42 dc42 pm42 an42 cd42 ct42), sl42⟩) (c42 : PySem.W.codeIn K cd42 "_law_within" = true) (k42 : PySem.W.keepIn K (.ref f42) = true)
    (a43 : PySem.W.nsIn K mainGlobals "_law_has" = some (some (.ref f43))) (l43 : K.lookup f43 = some ⟨oc43, od43, .func (PySem.W.fnOf "_law_has" "_law_has" (defArgs s__law_has) (defBody s__law_has) (defScope s__law_has) .none kV43 dc43 pm43 an43 cd43 ct43), sl43⟩) (c43 : PySem.W.codeIn K cd43 "_law_has" = true) (k43 : PySem.W.keepIn K (.ref f43) = true)
    (a44 : PySem.W.nsIn K mainGlobals "_law_box" = some (some (.ref f44))) (l44 : K.lookup f44 = some ⟨oc44, od44, .func (PySem.W.fnOf "_law_box" "_law_box" (defArgs s__law_box) (defBody s__law_box) (defScope s__law_box) .none kV44 dc44 pm44 an44 cd44 ct44), sl44⟩) (c44 : PySem.W.codeIn K cd44 "_law_box" = true) (k44 : PySem.W.keepIn K (.ref f44) = true)
    (a45 : PySem.W.nsIn K mainGlobals "_law_other" = some (some (.ref f45))) (l45 : K.lookup f45 = some ⟨oc45, od45, .func (PySem.W.fnOf "_law_other" "_law_other" (defArgs s__law_other) (defBody s__law_other) (defScope s__law_other) .none kV45 dc45 pm45 an45 cd45 ct45), sl45⟩) (c45 : PySem.W.codeIn K cd45 "_law_other" = true) (k45 : PySem.W.keepIn K (.ref f45) = true)
    (a46 : PySem.W.nsIn K mainGlobals "_law_point" = some (some (.ref f46))) (l46 : K.lookup f46 = some ⟨oc46, od46, .func (PySem.W.fnOf "_law_point" "_law_point" (defArgs s__law_point) (defBody s__law_point) (defScope s__law_point) .none kV46 dc46 pm46 an46 cd46 ct46), sl46⟩) (c46 : PySem.W.codeIn K cd46 "_law_point" = true) (k46 : PySem.W.keepIn K (.ref f46) = true)
    (a47 : PySem.W.nsIn K mainGlobals "_law_in" = some (some (.ref f47))) (l47 : K.lookup f47 = some ⟨oc47, od47, .func (PySem.W.fnOf "_law_in" "_law_in" (defArgs s__law_in) (defBody s__law_in) (defScope s__law_in) .none kV47 dc47 pm47 an47 cd47 ct47), sl47⟩) (c47 : PySem.W.codeIn K cd47 "_law_in" = true) (k47 : PySem.W.keepIn K (.ref f47) = true)
    (a48 : PySem.W.nsIn K mainGlobals "_law_meet" = some (some (.ref f48))) (l48 : K.lookup f48 = some ⟨oc48, od48, .func (PySem.W.fnOf "_law_meet" "_law_meet" (defArgs s__law_meet) (defBody s__law_meet) (defScope s__law_meet) .none kV48 dc48 pm48 an48 cd48 ct48), sl48⟩) (c48 : PySem.W.codeIn K cd48 "_law_meet" = true) (k48 : PySem.W.keepIn K (.ref f48) = true)
    (a49 : PySem.W.nsIn K mainGlobals "_law_two_right" = some (some (.ref f49))) (l49 : K.lookup f49 = some ⟨oc49, od49, .func (PySem.W.fnOf "_law_two_right" "_law_two_right" (defArgs s__law_two_right) (defBody s__law_two_right) (defScope s__law_two_right) .none kV49 dc49 pm49 an49 cd49 ct49), sl49⟩) (c49 : PySem.W.codeIn K cd49 "_law_two_right" = true) (k49 : PySem.W.keepIn K (.ref f49) = true)
    (a50 : PySem.W.nsIn K mainGlobals "_law_parts_right" = some (some (.ref f50))) (l50 : K.lookup f50 = some ⟨oc50, od50, .func (PySem.W.fnOf "_law_parts_right" "_law_parts_right" (defArgs s__law_parts_right) (defBody s__law_parts_right) (defScope s__law_parts_right) .none kV50 dc50 pm50 an50 cd50 ct50), sl50⟩) (c50 : PySem.W.codeIn K cd50 "_law_parts_right" = true) (k50 : PySem.W.keepIn K (.ref f50) = true)
    (a51 : PySem.W.nsIn K mainGlobals "_law_right" = some (some (.ref f51))) (l51 : K.lookup f51 = some ⟨oc51, od51, .func (PySem.W.fnOf "_law_right" "_law_right" (defArgs s__law_right) (defBody s__law_right) (defScope s__law_right) .none kV51 dc51 pm51 an51 cd51 ct51), sl51⟩) (c51 : PySem.W.codeIn K cd51 "_law_right" = true) (k51 : PySem.W.keepIn K (.ref f51) = true)
    (a52 : PySem.W.nsIn K mainGlobals "_law_pot" = some (some (.ref f52))) (l52 : K.lookup f52 = some ⟨oc52, od52, .func (PySem.W.fnOf "_law_pot" "_law_pot" (defArgs s__law_pot) (defBody s__law_pot) (defScope s__law_pot) .none kV52 dc52 pm52 an52 cd52 ct52), sl52⟩) (c52 : PySem.W.codeIn K cd52 "_law_pot" = true) (k52 : PySem.W.keepIn K (.ref f52) = true)
    (a53 : PySem.W.nsIn K mainGlobals "law" = some (some (.ref f53))) (l53 : K.lookup f53 = some ⟨oc53, od53, .func (PySem.W.fnOf "law" "law" (defArgs s_law) (defBody s_law) (defScope s_law) .none kV53 dc53 pm53 an53 cd53 ct53), sl53⟩) (c53 : PySem.W.codeIn K cd53 "law" = true) (k53 : PySem.W.keepIn K (.ref f53) = true)
    (z_abs : PySem.W.nsIn K mainGlobals "abs" = some none)
    (z_all : PySem.W.nsIn K mainGlobals "all" = some none)
    (z_bool : PySem.W.nsIn K mainGlobals "bool" = some none)
    (z_divmod : PySem.W.nsIn K mainGlobals "divmod" = some none)
    (z_int : PySem.W.nsIn K mainGlobals "int" = some none)
    (z_isinstance : PySem.W.nsIn K mainGlobals "isinstance" = some none)
    (z_len : PySem.W.nsIn K mainGlobals "len" = some none)
    (z_max : PySem.W.nsIn K mainGlobals "max" = some none)
    (z_min : PySem.W.nsIn K mainGlobals "min" = some none)
    (z_range : PySem.W.nsIn K mainGlobals "range" = some none)
    (z_repr : PySem.W.nsIn K mainGlobals "repr" = some none)
    (z_tuple : PySem.W.nsIn K mainGlobals "tuple" = some none)
    (z_zip : PySem.W.nsIn K mainGlobals "zip" = some none)
    (n_gcd : PySem.W.nsIn K mainGlobals "gcd" = some (some (.builtin "math.gcd")))
    (n_MOST_GRAINS : PySem.W.nsIn K mainGlobals "MOST_GRAINS" = some (some (.int 1180591620717411303424 t_MOST_GRAINS)))
    (n_MOST_LETTERS : PySem.W.nsIn K mainGlobals "MOST_LETTERS" = some (some (.int 8 t_MOST_LETTERS)))
    (n_ONE : PySem.W.nsIn K mainGlobals "ONE" = some (some (.int 1099511627776 t_ONE)))
    : ∃ (fd : FuncData) (cs : List (Addr × Addr)) (sp : Sp), (∀ c ∈ cs, h.get? c.2 = some { cls := .none, data := .fields #[] } ∧ K.lookup c.2 = none ∧ PySem.W.CodeHd h c.1 c.2) ∧ (∀ (s : Shared) (v : Value), BindsTo s fd ⟨[v], []⟩ [("script", v)]) ∧ (∀ base : Heap, K.In base → base.Ns mainGlobals mg → (∀ c ∈ cs, GxR.TabB base mg c.1 c.2) → FnG l.prog w K mg base CX0 10 fa fd ["script"] sp) ∧ ∀ (H : Hp) (a : Addr) (ns : List Int), ns.length ≤ 63 → (∀ c ∈ cs, GxR.TabG H c.2) → SqL K H a (ns.map V.int) → sp [.ref a] H (fun v _ => v = .bl true) fun _ _ _ => False := by
  have e := hfa.symm.trans (PySem.W.mg_of X G a53)
  cases e
  have T : Txt K mg := { b_abs := PySem.W.mg_none_of X G z_abs, b_all := PySem.W.mg_none_of X G z_all, b_bool := PySem.W.mg_none_of X G z_bool, b_divmod := PySem.W.mg_none_of X G z_divmod, b_int := PySem.W.mg_none_of X G z_int, b_isinstance := PySem.W.mg_none_of X G z_isinstance, b_len := PySem.W.mg_none_of X G z_len, b_max := PySem.W.mg_none_of X G z_max, b_min := PySem.W.mg_none_of X G z_min, b_range := PySem.W.mg_none_of X G z_range, b_repr := PySem.W.mg_none_of X G z_repr, b_tuple := PySem.W.mg_none_of X G z_tuple, b_zip := PySem.W.mg_none_of X G z_zip, t_MOST_GRAINS := t_MOST_GRAINS, m_MOST_GRAINS := PySem.W.mg_of X G n_MOST_GRAINS, t_MOST_LETTERS := t_MOST_LETTERS, m_MOST_LETTERS := PySem.W.mg_of X G n_MOST_LETTERS, t_ONE := t_ONE, m_ONE := PySem.W.mg_of X G n_ONE, m_gcd := PySem.W.mg_of X G n_gcd }
  have D_floor_of : Dfn K mg "floor_of" "floor_of" s_floor_of ["ratio", "times"] [] := dfn_of X G a0 l0 c0 k0 (fun _ _ _ _ _ _ us hl => match us, hl with | [_, _], _ => rfl) (fun _ _ q hq => absurd hq List.not_mem_nil)
  have D_ceiling_of : Dfn K mg "ceiling_of" "ceiling_of" s_ceiling_of ["ratio", "times"] [] := dfn_of X G a1 l1 c1 k1 (fun _ _ _ _ _ _ us hl => match us, hl with | [_, _], _ => rfl) (fun _ _ q hq => absurd hq List.not_mem_nil)
  have D_in_bounds : Dfn K mg "in_bounds" "in_bounds" s_in_bounds ["low", "high"] [] := dfn_of X G a2 l2 c2 k2 (fun _ _ _ _ _ _ us hl => match us, hl with | [_, _], _ => rfl) (fun _ _ q hq => absurd hq List.not_mem_nil)
  have D_grain_around : Dfn K mg "grain_around" "grain_around" s_grain_around ["ratio"] [] := dfn_of X G a3 l3 c3 k3 (fun _ _ _ _ _ _ us hl => match us, hl with | [_], _ => rfl) (fun _ _ q hq => absurd hq List.not_mem_nil)
  have D_grain_hull : Dfn K mg "grain_hull" "grain_hull" s_grain_hull ["one", "other"] [] := dfn_of X G a4 l4 c4 k4 (fun _ _ _ _ _ _ us hl => match us, hl with | [_, _], _ => rfl) (fun _ _ q hq => absurd hq List.not_mem_nil)
  have D_grain_meet : Dfn K mg "grain_meet" "grain_meet" s_grain_meet ["one", "other"] [] := dfn_of X G a5 l5 c5 k5 (fun _ _ _ _ _ _ us hl => match us, hl with | [_, _], _ => rfl) (fun _ _ q hq => absurd hq List.not_mem_nil)
  have D_lies_within : Dfn K mg "lies_within" "lies_within" s_lies_within ["one", "other"] [] := dfn_of X G a6 l6 c6 k6 (fun _ _ _ _ _ _ us hl => match us, hl with | [_, _], _ => rfl) (fun _ _ q hq => absurd hq List.not_mem_nil)
  have D_middle_of : Dfn K mg "middle_of" "middle_of" s_middle_of ["interval"] [] := dfn_of X G a7 l7 c7 k7 (fun _ _ _ _ _ _ us hl => match us, hl with | [_], _ => rfl) (fun _ _ q hq => absurd hq List.not_mem_nil)
  have D_has_ratio : Dfn K mg "has_ratio" "has_ratio" s_has_ratio ["interval", "ratio"] [] := dfn_of X G a8 l8 c8 k8 (fun _ _ _ _ _ _ us hl => match us, hl with | [_, _], _ => rfl) (fun _ _ q hq => absurd hq List.not_mem_nil)
  have D_is_integer : Dfn K mg "is_integer" "is_integer" s_is_integer ["value"] [] := dfn_of X G a9 l9 c9 k9 (fun _ _ _ _ _ _ us hl => match us, hl with | [_], _ => rfl) (fun _ _ q hq => absurd hq List.not_mem_nil)
  have D_is_from_to : Dfn K mg "is_from_to" "is_from_to" s_is_from_to ["value", "least", "most"] [] := dfn_of X G a10 l10 c10 k10 (fun _ _ _ _ _ _ us hl => match us, hl with | [_, _, _], _ => rfl) (fun _ _ q hq => absurd hq List.not_mem_nil)
  have D_is_some_tuple : Dfn K mg "is_some_tuple" "is_some_tuple" s_is_some_tuple ["value"] [] := dfn_of X G a11 l11 c11 k11 (fun _ _ _ _ _ _ us hl => match us, hl with | [_], _ => rfl) (fun _ _ q hq => absurd hq List.not_mem_nil)
  have D_is_ratio : Dfn K mg "is_ratio" "is_ratio" s_is_ratio ["value"] [] := dfn_of X G a12 l12 c12 k12 (fun _ _ _ _ _ _ us hl => match us, hl with | [_], _ => rfl) (fun _ _ q hq => absurd hq List.not_mem_nil)
  have D_is_interval : Dfn K mg "is_interval" "is_interval" s_is_interval ["value"] [] := dfn_of X G a13 l13 c13 k13 (fun _ _ _ _ _ _ us hl => match us, hl with | [_], _ => rfl) (fun _ _ q hq => absurd hq List.not_mem_nil)
  have D_is_box : Dfn K mg "is_box" "is_box" s_is_box ["value"] [] := dfn_of X G a14 l14 c14 k14 (fun _ _ _ _ _ _ us hl => match us, hl with | [_], _ => rfl) (fun _ _ q hq => absurd hq List.not_mem_nil)
  have D_is_point : Dfn K mg "is_point" "is_point" s_is_point ["value"] [] := dfn_of X G a15 l15 c15 k15 (fun _ _ _ _ _ _ us hl => match us, hl with | [_], _ => rfl) (fun _ _ q hq => absurd hq List.not_mem_nil)
  have D_check_box : Dfn K mg "check_box" "check_box" s_check_box ["box"] [] := dfn_of X G a16 l16 c16 k16 (fun _ _ _ _ _ _ us hl => match us, hl with | [_], _ => rfl) (fun _ _ q hq => absurd hq List.not_mem_nil)
  have D_check_point : Dfn K mg "check_point" "check_point" s_check_point ["point"] [] := dfn_of X G a17 l17 c17 k17 (fun _ _ _ _ _ _ us hl => match us, hl with | [_], _ => rfl) (fun _ _ q hq => absurd hq List.not_mem_nil)
  have D_check_sizes : Dfn K mg "check_sizes" "check_sizes" s_check_sizes ["one", "other"] [] := dfn_of X G a18 l18 c18 k18 (fun _ _ _ _ _ _ us hl => match us, hl with | [_, _], _ => rfl) (fun _ _ q hq => absurd hq List.not_mem_nil)
  have D__check_boxes : Dfn K mg "_check_boxes" "_check_boxes" s__check_boxes ["box", "other"] [] := dfn_of X G a19 l19 c19 k19 (fun _ _ _ _ _ _ us hl => match us, hl with | [_, _], _ => rfl) (fun _ _ q hq => absurd hq List.not_mem_nil)
  have D_box_within : Dfn K mg "box_within" "box_within" s_box_within ["box", "other"] [(["other", "box"], 0, [1, 0])] := dfn_of X G a20 l20 c20 k20 (fun _ _ _ _ _ _ us hl => match us, hl with | [_, _], _ => rfl) (kb_box_within)
  have D_box_hull : Dfn K mg "box_hull" "box_hull" s_box_hull ["box", "other"] [(["other", "box"], 0, [1, 0])] := dfn_of X G a21 l21 c21 k21 (fun _ _ _ _ _ _ us hl => match us, hl with | [_, _], _ => rfl) (kb_box_hull)
  have D_box_meet : Dfn K mg "box_meet" "box_meet" s_box_meet ["box", "other"] [(["other", "box"], 0, [1, 0])] := dfn_of X G a22 l22 c22 k22 (fun _ _ _ _ _ _ us hl => match us, hl with | [_, _], _ => rfl) (kb_box_meet)
  have D__widths : Dfn K mg "_widths" "_widths" s__widths ["box"] [] := dfn_of X G a23 l23 c23 k23 (fun _ _ _ _ _ _ us hl => match us, hl with | [_], _ => rfl) (fun _ _ q hq => absurd hq List.not_mem_nil)
  have D_box_width : Dfn K mg "box_width" "box_width" s_box_width ["box"] [] := dfn_of X G a24 l24 c24 k24 (fun _ _ _ _ _ _ us hl => match us, hl with | [_], _ => rfl) (fun _ _ q hq => absurd hq List.not_mem_nil)
  have D_widest : Dfn K mg "widest" "widest" s_widest ["box"] [(["box"], 0, [0])] := dfn_of X G a25 l25 c25 k25 (fun _ _ _ _ _ _ us hl => match us, hl with | [_], _ => rfl) (kb_widest)
  have D_with_interval : Dfn K mg "with_interval" "with_interval" s_with_interval ["box", "position", "interval"] [] := dfn_of X G a26 l26 c26 k26 (fun _ _ _ _ _ _ us hl => match us, hl with | [_, _, _], _ => rfl) (fun _ _ q hq => absurd hq List.not_mem_nil)
  have D_box_halves : Dfn K mg "box_halves" "box_halves" s_box_halves ["box", "position"] [] := dfn_of X G a27 l27 c27 k27 (fun _ _ _ _ _ _ us hl => match us, hl with | [_, _], _ => rfl) (fun _ _ q hq => absurd hq List.not_mem_nil)
  have D_split_box : Dfn K mg "split_box" "split_box" s_split_box ["box", "position"] [(["position", "box"], 0, [1, 0])] := dfn_of X G a28 l28 c28 k28 (fun _ _ _ _ _ _ us hl => match us, hl with | [_, _], _ => rfl) (kb_split_box)
  have D_holds_point : Dfn K mg "holds_point" "holds_point" s_holds_point ["box", "point"] [(["point", "box"], 0, [1, 0])] := dfn_of X G a29 l29 c29 k29 (fun _ _ _ _ _ _ us hl => match us, hl with | [_, _], _ => rfl) (kb_holds_point)
  have D_around_point : Dfn K mg "around_point" "around_point" s_around_point ["point"] [(["point"], 0, [0])] := dfn_of X G a30 l30 c30 k30 (fun _ _ _ _ _ _ us hl => match us, hl with | [_], _ => rfl) (kb_around_point)
  have D__law_draw : Dfn K mg "_law_draw" "_law_draw" s__law_draw ["pot", "room"] [] := dfn_of X G a31 l31 c31 k31 (fun _ _ _ _ _ _ us hl => match us, hl with | [_, _], _ => rfl) (fun _ _ q hq => absurd hq List.not_mem_nil)
  have D__law_pick : Dfn K mg "_law_pick" "_law_pick" s__law_pick ["pot", "some"] [] := dfn_of X G a32 l32 c32 k32 (fun _ _ _ _ _ _ us hl => match us, hl with | [_, _], _ => rfl) (fun _ _ q hq => absurd hq List.not_mem_nil)
  have D__law_one : Dfn K mg "_law_one" "_law_one" s__law_one [] [] := dfn_of X G a33 l33 c33 k33 (fun _ _ _ _ _ _ us hl => match us, hl with | [], _ => rfl) (fun _ _ q hq => absurd hq List.not_mem_nil)
  have D__law_gcd : Dfn K mg "_law_gcd" "_law_gcd" s__law_gcd ["one", "other"] [] := dfn_of X G a34 l34 c34 k34 (fun _ _ _ _ _ _ us hl => match us, hl with | [_, _], _ => rfl) (fun _ _ q hq => absurd hq List.not_mem_nil)
  have D__law_ratio : Dfn K mg "_law_ratio" "_law_ratio" s__law_ratio ["number", "under"] [] := dfn_of X G a35 l35 c35 k35 (fun _ _ _ _ _ _ us hl => match us, hl with | [_, _], _ => rfl) (fun _ _ q hq => absurd hq List.not_mem_nil)
  have D__law_down : Dfn K mg "_law_down" "_law_down" s__law_down ["number", "under"] [] := dfn_of X G a36 l36 c36 k36 (fun _ _ _ _ _ _ us hl => match us, hl with | [_, _], _ => rfl) (fun _ _ q hq => absurd hq List.not_mem_nil)
  have D__law_up : Dfn K mg "_law_up" "_law_up" s__law_up ["number", "under"] [] := dfn_of X G a37 l37 c37 k37 (fun _ _ _ _ _ _ us hl => match us, hl with | [_, _], _ => rfl) (fun _ _ q hq => absurd hq List.not_mem_nil)
  have D__law_size : Dfn K mg "_law_size" "_law_size" s__law_size ["pot"] [] := dfn_of X G a38 l38 c38 k38 (fun _ _ _ _ _ _ us hl => match us, hl with | [_], _ => rfl) (fun _ _ q hq => absurd hq List.not_mem_nil)
  have D__law_number : Dfn K mg "_law_number" "_law_number" s__law_number ["pot"] [] := dfn_of X G a39 l39 c39 k39 (fun _ _ _ _ _ _ us hl => match us, hl with | [_], _ => rfl) (fun _ _ q hq => absurd hq List.not_mem_nil)
  have D__law_interval : Dfn K mg "_law_interval" "_law_interval" s__law_interval ["pot"] [] := dfn_of X G a40 l40 c40 k40 (fun _ _ _ _ _ _ us hl => match us, hl with | [_], _ => rfl) (fun _ _ q hq => absurd hq List.not_mem_nil)
  have D__law_small_ratio : Dfn K mg "_law_small_ratio" "_law_small_ratio" s__law_small_ratio ["pot"] [] := dfn_of X G a41 l41 c41 k41 (fun _ _ _ _ _ _ us hl => match us, hl with | [_], _ => rfl) (fun _ _ q hq => absurd hq List.not_mem_nil)
  have D__law_within : Dfn K mg "_law_within" "_law_within" s__law_within ["pot", "interval"] [] := dfn_of X G a42 l42 c42 k42 (fun _ _ _ _ _ _ us hl => match us, hl with | [_, _], _ => rfl) (fun _ _ q hq => absurd hq List.not_mem_nil)
  have D__law_has : Dfn K mg "_law_has" "_law_has" s__law_has ["interval", "ratio"] [] := dfn_of X G a43 l43 c43 k43 (fun _ _ _ _ _ _ us hl => match us, hl with | [_, _], _ => rfl) (fun _ _ q hq => absurd hq List.not_mem_nil)
  have D__law_box : Dfn K mg "_law_box" "_law_box" s__law_box ["pot", "many"] [] := dfn_of X G a44 l44 c44 k44 (fun _ _ _ _ _ _ us hl => match us, hl with | [_, _], _ => rfl) (fun _ _ q hq => absurd hq List.not_mem_nil)
  have D__law_other : Dfn K mg "_law_other" "_law_other" s__law_other ["pot", "box"] [] := dfn_of X G a45 l45 c45 k45 (fun _ _ _ _ _ _ us hl => match us, hl with | [_, _], _ => rfl) (fun _ _ q hq => absurd hq List.not_mem_nil)
  have D__law_point : Dfn K mg "_law_point" "_law_point" s__law_point ["pot", "box"] [] := dfn_of X G a46 l46 c46 k46 (fun _ _ _ _ _ _ us hl => match us, hl with | [_, _], _ => rfl) (fun _ _ q hq => absurd hq List.not_mem_nil)
  have D__law_in : Dfn K mg "_law_in" "_law_in" s__law_in ["box", "point"] [] := dfn_of X G a47 l47 c47 k47 (fun _ _ _ _ _ _ us hl => match us, hl with | [_, _], _ => rfl) (fun _ _ q hq => absurd hq List.not_mem_nil)
  have D__law_meet : Dfn K mg "_law_meet" "_law_meet" s__law_meet ["box", "other"] [] := dfn_of X G a48 l48 c48 k48 (fun _ _ _ _ _ _ us hl => match us, hl with | [_, _], _ => rfl) (fun _ _ q hq => absurd hq List.not_mem_nil)
  have D__law_two_right : Dfn K mg "_law_two_right" "_law_two_right" s__law_two_right ["pot", "box", "other"] [] := dfn_of X G a49 l49 c49 k49 (fun _ _ _ _ _ _ us hl => match us, hl with | [_, _, _], _ => rfl) (fun _ _ q hq => absurd hq List.not_mem_nil)
  have D__law_parts_right : Dfn K mg "_law_parts_right" "_law_parts_right" s__law_parts_right ["pot", "box"] [] := dfn_of X G a50 l50 c50 k50 (fun _ _ _ _ _ _ us hl => match us, hl with | [_, _], _ => rfl) (fun _ _ q hq => absurd hq List.not_mem_nil)
  have D__law_right : Dfn K mg "_law_right" "_law_right" s__law_right ["pot"] [] := dfn_of X G a51 l51 c51 k51 (fun _ _ _ _ _ _ us hl => match us, hl with | [_], _ => rfl) (fun _ _ q hq => absurd hq List.not_mem_nil)
  have F52 := fun_mk (st := s__law_pot) l52 c52 k52
  have b52 := F52.binds (ps := ["script", "k"]) fun _ _ _ _ _ _ us hl => match us, hl with | [_, _], _ => rfl
  refine ⟨PySem.W.fnOf "law" "law" (defArgs s_law) (defBody s_law) (defScope s_law) .none kV53 dc53 pm53 an53 cd53 ct53, [(gc14, gp14), (gc15, gp15)], spLaw K [gp14, gp15], ?_, fun s v => .of_eq rfl, fun base _ _ hTB => ?_, fun H a ns _ hT hS => ⟨a, ns, rfl, hS, ?_, fun _ => rfl⟩⟩
  · intro c hc
    rcases List.mem_cons.mp hc with rfl | hc
    · exact ⟨(go14 f14 gc14 gp14 _ _ _ _ _ _ (PySem.W.mg_of X G a14) l14 rfl rfl gl14 gi14).1, gn14, (go14 f14 gc14 gp14 _ _ _ _ _ _ (PySem.W.mg_of X G a14) l14 rfl rfl gl14 gi14).2⟩
    have e := List.mem_singleton.mp hc
    subst e
    exact ⟨(go15 f15 gc15 gp15 _ _ _ _ _ _ (PySem.W.mg_of X G a15) l15 rfl rfl gl15 gi15).1, gn15, (go15 f15 gc15 gp15 _ _ _ _ _ _ (PySem.W.mg_of X G a15) l15 rfl rfl gl15 gi15).2⟩
  rotate_left
  · intro t ht
    rcases List.mem_cons.mp ht with e | ht
    · rw [e]
      exact hT (gc14, gp14) (by simp)
    have e := List.mem_singleton.mp ht
    rw [e]
    exact hT (gc15, gp15) (by simp)
  have TA_is_box : TabAt K mg base ⟨[gp14, gp15], mg⟩ "is_box" := tabAt_of (PySem.W.mg_of X G a14) l14 rfl (by simp) (hTB (gc14, gp14) (by simp))
  have TA_is_point : TabAt K mg base ⟨[gp14, gp15], mg⟩ "is_point" := tabAt_of (PySem.W.mg_of X G a15) l15 rfl (by simp) (hTB (gc15, gp15) (by simp))
  have C_floor_of := ok_floor_of (P := l.prog) (w := w) (base := base) (tabs := ⟨[gp14, gp15], mg⟩) T D_floor_of
  have C_ceiling_of := ok_ceiling_of (P := l.prog) (w := w) (base := base) (tabs := ⟨[gp14, gp15], mg⟩) T D_ceiling_of
  have C_in_bounds := ok_in_bounds (P := l.prog) (w := w) (base := base) (tabs := ⟨[gp14, gp15], mg⟩) T D_in_bounds
  have C_grain_around := ok_grain_around (P := l.prog) (w := w) (base := base) (tabs := ⟨[gp14, gp15], mg⟩) T D_grain_around C_in_bounds C_ceiling_of C_floor_of
  have C_grain_hull := ok_grain_hull (P := l.prog) (w := w) (base := base) (tabs := ⟨[gp14, gp15], mg⟩) T D_grain_hull
  have C_grain_meet := ok_grain_meet (P := l.prog) (w := w) (base := base) (tabs := ⟨[gp14, gp15], mg⟩) T D_grain_meet
  have C_lies_within := ok_lies_within (P := l.prog) (w := w) (base := base) (tabs := ⟨[gp14, gp15], mg⟩) T D_lies_within
  have C_middle_of := ok_middle_of (P := l.prog) (w := w) (base := base) (tabs := ⟨[gp14, gp15], mg⟩) T D_middle_of
  have C_has_ratio := ok_has_ratio (P := l.prog) (w := w) (base := base) (tabs := ⟨[gp14, gp15], mg⟩) T D_has_ratio
  have C_is_integer := ok_is_integer (P := l.prog) (w := w) (base := base) (tabs := ⟨[gp14, gp15], mg⟩) T D_is_integer
  have C_is_from_to := ok_is_from_to (P := l.prog) (w := w) (base := base) (tabs := ⟨[gp14, gp15], mg⟩) T D_is_from_to C_is_integer
  have C_is_some_tuple := ok_is_some_tuple (P := l.prog) (w := w) (base := base) (tabs := ⟨[gp14, gp15], mg⟩) T D_is_some_tuple
  have C_is_ratio := ok_is_ratio (P := l.prog) (w := w) (base := base) (tabs := ⟨[gp14, gp15], mg⟩) T D_is_ratio C_is_integer
  have C_is_interval := ok_is_interval (P := l.prog) (w := w) (base := base) (tabs := ⟨[gp14, gp15], mg⟩) T D_is_interval C_is_integer
  have C_is_box := ok_is_box (P := l.prog) (w := w) (base := base) (tabs := ⟨[gp14, gp15], mg⟩) T D_is_box TA_is_box C_is_interval C_is_some_tuple
  have C_is_point := ok_is_point (P := l.prog) (w := w) (base := base) (tabs := ⟨[gp14, gp15], mg⟩) T D_is_point TA_is_point C_is_ratio C_is_some_tuple
  have C_check_box := ok_check_box (P := l.prog) (w := w) (base := base) (tabs := ⟨[gp14, gp15], mg⟩) T D_check_box C_is_box
  have C_check_point := ok_check_point (P := l.prog) (w := w) (base := base) (tabs := ⟨[gp14, gp15], mg⟩) T D_check_point C_is_point
  have C_check_sizes := ok_check_sizes (P := l.prog) (w := w) (base := base) (tabs := ⟨[gp14, gp15], mg⟩) T D_check_sizes
  have C__check_boxes := ok__check_boxes (P := l.prog) (w := w) (base := base) (tabs := ⟨[gp14, gp15], mg⟩) T D__check_boxes C_check_box C_check_sizes
  have C_box_within := ok_box_within (P := l.prog) (w := w) (base := base) (tabs := ⟨[gp14, gp15], mg⟩) T D_box_within C__check_boxes C_lies_within
  have C_box_hull := ok_box_hull (P := l.prog) (w := w) (base := base) (tabs := ⟨[gp14, gp15], mg⟩) T D_box_hull C__check_boxes C_grain_hull
  have C_box_meet := ok_box_meet (P := l.prog) (w := w) (base := base) (tabs := ⟨[gp14, gp15], mg⟩) T D_box_meet C__check_boxes C_grain_meet
  have C__widths := ok__widths (P := l.prog) (w := w) (base := base) (tabs := ⟨[gp14, gp15], mg⟩) T D__widths
  have C_box_width := ok_box_width (P := l.prog) (w := w) (base := base) (tabs := ⟨[gp14, gp15], mg⟩) T D_box_width C_check_box C__widths
  have C_widest := ok_widest (P := l.prog) (w := w) (base := base) (tabs := ⟨[gp14, gp15], mg⟩) T D_widest C_check_box C__widths
  have C_with_interval := ok_with_interval (P := l.prog) (w := w) (base := base) (tabs := ⟨[gp14, gp15], mg⟩) T D_with_interval
  have C_box_halves := ok_box_halves (P := l.prog) (w := w) (base := base) (tabs := ⟨[gp14, gp15], mg⟩) T D_box_halves C_middle_of C_with_interval
  have C_split_box := ok_split_box (P := l.prog) (w := w) (base := base) (tabs := ⟨[gp14, gp15], mg⟩) T D_split_box C_check_box C_is_from_to C_box_halves
  have C_holds_point := ok_holds_point (P := l.prog) (w := w) (base := base) (tabs := ⟨[gp14, gp15], mg⟩) T D_holds_point C_check_box C_check_point C_check_sizes C_has_ratio
  have C_around_point := ok_around_point (P := l.prog) (w := w) (base := base) (tabs := ⟨[gp14, gp15], mg⟩) T D_around_point C_check_point C_grain_around
  have C__law_draw := ok__law_draw (P := l.prog) (w := w) (base := base) (tabs := ⟨[gp14, gp15], mg⟩) T D__law_draw
  have C__law_pick := ok__law_pick (P := l.prog) (w := w) (base := base) (tabs := ⟨[gp14, gp15], mg⟩) T D__law_pick C__law_draw
  have C__law_one := ok__law_one (P := l.prog) (w := w) (base := base) (tabs := ⟨[gp14, gp15], mg⟩) T D__law_one
  have C__law_gcd := ok__law_gcd (P := l.prog) (w := w) (base := base) (tabs := ⟨[gp14, gp15], mg⟩) T D__law_gcd
  have C__law_ratio := ok__law_ratio (P := l.prog) (w := w) (base := base) (tabs := ⟨[gp14, gp15], mg⟩) T D__law_ratio C__law_gcd
  have C__law_down := ok__law_down (P := l.prog) (w := w) (base := base) (tabs := ⟨[gp14, gp15], mg⟩) T D__law_down
  have C__law_up := ok__law_up (P := l.prog) (w := w) (base := base) (tabs := ⟨[gp14, gp15], mg⟩) T D__law_up
  have C__law_size := ok__law_size (P := l.prog) (w := w) (base := base) (tabs := ⟨[gp14, gp15], mg⟩) T D__law_size C__law_draw C__law_pick C__law_one
  have C__law_number := ok__law_number (P := l.prog) (w := w) (base := base) (tabs := ⟨[gp14, gp15], mg⟩) T D__law_number C__law_size C__law_draw
  have C__law_interval := ok__law_interval (P := l.prog) (w := w) (base := base) (tabs := ⟨[gp14, gp15], mg⟩) T D__law_interval C__law_number C__law_draw
  have C__law_small_ratio := ok__law_small_ratio (P := l.prog) (w := w) (base := base) (tabs := ⟨[gp14, gp15], mg⟩) T D__law_small_ratio C__law_draw C__law_ratio
  have C__law_within := ok__law_within (P := l.prog) (w := w) (base := base) (tabs := ⟨[gp14, gp15], mg⟩) T D__law_within C__law_draw C__law_ratio C__law_one
  have C__law_has := ok__law_has (P := l.prog) (w := w) (base := base) (tabs := ⟨[gp14, gp15], mg⟩) T D__law_has C__law_one
  have C__law_box := ok__law_box (P := l.prog) (w := w) (base := base) (tabs := ⟨[gp14, gp15], mg⟩) T D__law_box C__law_interval
  have C__law_other := ok__law_other (P := l.prog) (w := w) (base := base) (tabs := ⟨[gp14, gp15], mg⟩) T D__law_other C__law_draw C__law_interval C__law_size
  have C__law_point := ok__law_point (P := l.prog) (w := w) (base := base) (tabs := ⟨[gp14, gp15], mg⟩) T D__law_point C__law_draw C__law_within C__law_small_ratio
  have C__law_in := ok__law_in (P := l.prog) (w := w) (base := base) (tabs := ⟨[gp14, gp15], mg⟩) T D__law_in C__law_has
  have C__law_meet := ok__law_meet (P := l.prog) (w := w) (base := base) (tabs := ⟨[gp14, gp15], mg⟩) T D__law_meet
  have C__law_two_right := ok__law_two_right (P := l.prog) (w := w) (base := base) (tabs := ⟨[gp14, gp15], mg⟩) T D__law_two_right C_box_within C__law_meet C_box_meet C_box_hull C__law_point C__law_in C_holds_point
  have C__law_parts_right := ok__law_parts_right (P := l.prog) (w := w) (base := base) (tabs := ⟨[gp14, gp15], mg⟩) T D__law_parts_right C__law_draw C_widest C_box_width C_split_box C__law_point C__law_in C_holds_point C__law_up C__law_one C__law_down C_around_point
  have C__law_right := ok__law_right (P := l.prog) (w := w) (base := base) (tabs := ⟨[gp14, gp15], mg⟩) T D__law_right C__law_box C__law_draw C__law_parts_right C__law_two_right C__law_other
  exact raw_law (fun_mk (st := s_law) l53 c53 k53) (raw_pot T F52) b52 (PySem.W.mg_of X G a52) k52 C__law_right
end LW
open PySem PySem.W PyProof.Rows in
set_option maxRecDepth 100000 in
set_option maxHeartbeats 0 in
theorem PySem.Challenge.cw_truecourse_k14_whole_boxes_holds : PySem.Challenge.rw_truecourse_k14_whole_boxes.Holds := by
  w_on; o_law; k_head; (case hw => w_witness2)
  k_fill
  refine DL.walkG (l := PySem.Challenge.rw_truecourse_k14_whole_boxes) (n := 63) (x := "script") (k := 10) rfl (by decide) rfl ⟨rfl, by decide, by decide⟩ (fun w h Y => PySem.W.kIn_of Y) ?F
  case F =>
    intro w mg fa h KX G hmg own
    refine' LW.all_mk KX G hmg ?a0 ?l0 ?c0 ?k0 ?a1 ?l1 ?c1 ?k1 ?a2 ?l2 ?c2 ?k2 ?a3 ?l3 ?c3 ?k3 ?a4 ?l4 ?c4 ?k4 ?a5 ?l5 ?c5 ?k5 ?a6 ?l6 ?c6 ?k6 ?a7 ?l7 ?c7 ?k7 ?a8 ?l8 ?c8 ?k8 ?a9 ?l9 ?c9 ?k9 ?a10 ?l10 ?c10 ?k10 ?a11 ?l11 ?c11 ?k11 ?a12 ?l12 ?c12 ?k12 ?a13 ?l13 ?c13 ?k13 ?a14 ?l14 ?c14 ?k14 ?gl14 ?gi14 ?gn14 ?go14 ?a15 ?l15 ?c15 ?k15 ?gl15 ?gi15 ?gn15 ?go15 ?a16 ?l16 ?c16 ?k16 ?a17 ?l17 ?c17 ?k17 ?a18 ?l18 ?c18 ?k18 ?a19 ?l19 ?c19 ?k19 ?a20 ?l20 ?c20 ?k20 ?a21 ?l21 ?c21 ?k21 ?a22 ?l22 ?c22 ?k22 ?a23 ?l23 ?c23 ?k23 ?a24 ?l24 ?c24 ?k24 ?a25 ?l25 ?c25 ?k25 ?a26 ?l26 ?c26 ?k26 ?a27 ?l27 ?c27 ?k27 ?a28 ?l28 ?c28 ?k28 ?a29 ?l29 ?c29 ?k29 ?a30 ?l30 ?c30 ?k30 ?a31 ?l31 ?c31 ?k31 ?a32 ?l32 ?c32 ?k32 ?a33 ?l33 ?c33 ?k33 ?a34 ?l34 ?c34 ?k34 ?a35 ?l35 ?c35 ?k35 ?a36 ?l36 ?c36 ?k36 ?a37 ?l37 ?c37 ?k37 ?a38 ?l38 ?c38 ?k38 ?a39 ?l39 ?c39 ?k39 ?a40 ?l40 ?c40 ?k40 ?a41 ?l41 ?c41 ?k41 ?a42 ?l42 ?c42 ?k42 ?a43 ?l43 ?c43 ?k43 ?a44 ?l44 ?c44 ?k44 ?a45 ?l45 ?c45 ?k45 ?a46 ?l46 ?c46 ?k46 ?a47 ?l47 ?c47 ?k47 ?a48 ?l48 ?c48 ?k48 ?a49 ?l49 ?c49 ?k49 ?a50 ?l50 ?c50 ?k50 ?a51 ?l51 ?c51 ?k51 ?a52 ?l52 ?c52 ?k52 ?a53 ?l53 ?c53 ?k53 ?z_abs ?z_all ?z_bool ?z_divmod ?z_int ?z_isinstance ?z_len ?z_max ?z_min ?z_range ?z_repr ?z_tuple ?z_zip ?n_gcd ?n_MOST_GRAINS ?n_MOST_LETTERS ?n_ONE
    (case a0 => k_is)
    (case l0 => k_is)
    (case c0 => k_is)
    (case k0 => k_is)
    (case a1 => k_is)
    (case l1 => k_is)
    (case c1 => k_is)
    (case k1 => k_is)
    (case a2 => k_is)
    (case l2 => k_is)
    (case c2 => k_is)
    (case k2 => k_is)
    (case a3 => k_is)
    (case l3 => k_is)
    (case c3 => k_is)
    (case k3 => k_is)
    (case a4 => k_is)
    (case l4 => k_is)
    (case c4 => k_is)
    (case k4 => k_is)
    (case a5 => k_is)
    (case l5 => k_is)
    (case c5 => k_is)
    (case k5 => k_is)
    (case a6 => k_is)
    (case l6 => k_is)
    (case c6 => k_is)
    (case k6 => k_is)
    (case a7 => k_is)
    (case l7 => k_is)
    (case c7 => k_is)
    (case k7 => k_is)
    (case a8 => k_is)
    (case l8 => k_is)
    (case c8 => k_is)
    (case k8 => k_is)
    (case a9 => k_is)
    (case l9 => k_is)
    (case c9 => k_is)
    (case k9 => k_is)
    (case a10 => k_is)
    (case l10 => k_is)
    (case c10 => k_is)
    (case k10 => k_is)
    (case a11 => k_is)
    (case l11 => k_is)
    (case c11 => k_is)
    (case k11 => k_is)
    (case a12 => k_is)
    (case l12 => k_is)
    (case c12 => k_is)
    (case k12 => k_is)
    (case a13 => k_is)
    (case l13 => k_is)
    (case c13 => k_is)
    (case k13 => k_is)
    (case a14 => k_is)
    (case l14 => k_is)
    (case c14 => k_is)
    (case k14 => k_is)
    (case gl14 => k_is)
    (case gi14 => rfl)
    (case gn14 => rfl)
    (case go14 => exact own _ (by decide +kernel))
    (case a15 => k_is)
    (case l15 => k_is)
    (case c15 => k_is)
    (case k15 => k_is)
    (case gl15 => k_is)
    (case gi15 => rfl)
    (case gn15 => rfl)
    (case go15 => exact own _ (by decide +kernel))
    (case a16 => k_is)
    (case l16 => k_is)
    (case c16 => k_is)
    (case k16 => k_is)
    (case a17 => k_is)
    (case l17 => k_is)
    (case c17 => k_is)
    (case k17 => k_is)
    (case a18 => k_is)
    (case l18 => k_is)
    (case c18 => k_is)
    (case k18 => k_is)
    (case a19 => k_is)
    (case l19 => k_is)
    (case c19 => k_is)
    (case k19 => k_is)
    (case a20 => k_is)
    (case l20 => k_is)
    (case c20 => k_is)
    (case k20 => k_is)
    (case a21 => k_is)
    (case l21 => k_is)
    (case c21 => k_is)
    (case k21 => k_is)
    (case a22 => k_is)
    (case l22 => k_is)
    (case c22 => k_is)
    (case k22 => k_is)
    (case a23 => k_is)
    (case l23 => k_is)
    (case c23 => k_is)
    (case k23 => k_is)
    (case a24 => k_is)
    (case l24 => k_is)
    (case c24 => k_is)
    (case k24 => k_is)
    (case a25 => k_is)
    (case l25 => k_is)
    (case c25 => k_is)
    (case k25 => k_is)
    (case a26 => k_is)
    (case l26 => k_is)
    (case c26 => k_is)
    (case k26 => k_is)
    (case a27 => k_is)
    (case l27 => k_is)
    (case c27 => k_is)
    (case k27 => k_is)
    (case a28 => k_is)
    (case l28 => k_is)
    (case c28 => k_is)
    (case k28 => k_is)
    (case a29 => k_is)
    (case l29 => k_is)
    (case c29 => k_is)
    (case k29 => k_is)
    (case a30 => k_is)
    (case l30 => k_is)
    (case c30 => k_is)
    (case k30 => k_is)
    (case a31 => k_is)
    (case l31 => k_is)
    (case c31 => k_is)
    (case k31 => k_is)
    (case a32 => k_is)
    (case l32 => k_is)
    (case c32 => k_is)
    (case k32 => k_is)
    (case a33 => k_is)
    (case l33 => k_is)
    (case c33 => k_is)
    (case k33 => k_is)
    (case a34 => k_is)
    (case l34 => k_is)
    (case c34 => k_is)
    (case k34 => k_is)
    (case a35 => k_is)
    (case l35 => k_is)
    (case c35 => k_is)
    (case k35 => k_is)
    (case a36 => k_is)
    (case l36 => k_is)
    (case c36 => k_is)
    (case k36 => k_is)
    (case a37 => k_is)
    (case l37 => k_is)
    (case c37 => k_is)
    (case k37 => k_is)
    (case a38 => k_is)
    (case l38 => k_is)
    (case c38 => k_is)
    (case k38 => k_is)
    (case a39 => k_is)
    (case l39 => k_is)
    (case c39 => k_is)
    (case k39 => k_is)
    (case a40 => k_is)
    (case l40 => k_is)
    (case c40 => k_is)
    (case k40 => k_is)
    (case a41 => k_is)
    (case l41 => k_is)
    (case c41 => k_is)
    (case k41 => k_is)
    (case a42 => k_is)
    (case l42 => k_is)
    (case c42 => k_is)
    (case k42 => k_is)
    (case a43 => k_is)
    (case l43 => k_is)
    (case c43 => k_is)
    (case k43 => k_is)
    (case a44 => k_is)
    (case l44 => k_is)
    (case c44 => k_is)
    (case k44 => k_is)
    (case a45 => k_is)
    (case l45 => k_is)
    (case c45 => k_is)
    (case k45 => k_is)
    (case a46 => k_is)
    (case l46 => k_is)
    (case c46 => k_is)
    (case k46 => k_is)
    (case a47 => k_is)
    (case l47 => k_is)
    (case c47 => k_is)
    (case k47 => k_is)
    (case a48 => k_is)
    (case l48 => k_is)
    (case c48 => k_is)
    (case k48 => k_is)
    (case a49 => k_is)
    (case l49 => k_is)
    (case c49 => k_is)
    (case k49 => k_is)
    (case a50 => k_is)
    (case l50 => k_is)
    (case c50 => k_is)
    (case k50 => k_is)
    (case a51 => k_is)
    (case l51 => k_is)
    (case c51 => k_is)
    (case k51 => k_is)
    (case a52 => k_is)
    (case l52 => k_is)
    (case c52 => k_is)
    (case k52 => k_is)
    (case a53 => k_is)
    (case l53 => k_is)
    (case c53 => k_is)
    (case k53 => k_is)
    (case z_abs => k_is)
    (case z_all => k_is)
    (case z_bool => k_is)
    (case z_divmod => k_is)
    (case z_int => k_is)
    (case z_isinstance => k_is)
    (case z_len => k_is)
    (case z_max => k_is)
    (case z_min => k_is)
    (case z_range => k_is)
    (case z_repr => k_is)
    (case z_tuple => k_is)
    (case z_zip => k_is)
    (case n_gcd => k_is)
    (case n_MOST_GRAINS => k_is)
    (case n_MOST_LETTERS => k_is)
    (case n_ONE => k_is)
