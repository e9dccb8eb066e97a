import PyProof.Rows.All
import Wide.All
import OpenK.AllK
import Wide.FinOn
import HandS.ForMost
import HandS.AnyAll
import HandS.GenList
import HandS.Wide
import HandS.WideBits
import HandS.IsInst
import HandS.Gcd
import HandS.TupAny
import HandS.Zip
import HandS.RaiseMore
import PyProof.ReprRoads
import Flt.RightSqrt
import HandS.Style
import KE.KMathG
import PyProof.ReprText
import HandS.Deep
import HandS.EndBits
import KE.KNestM
import KE.DatumOrd
import HandS.CallLocal
import PySem.Challenge.RW_truecourse_k31_whole_sums_with_rests
set_option Elab.async false
set_option linter.all false
set_option maxRecDepth 100000
set_option autoImplicit false
/-! all and any of a generator expression, whatever its element does. -/
namespace GA
open PySem PySem.Spec PyProof.Rows L2 GxR

/-- a generator expression's scope: its own names (with their places), or captured ones -/
structure GxOk (N : List Str) (sc scope : Scope) (own : List (Str × Nat)) : Prop where
  blk : BlkOk N sc scope own
  co : scope.isCoroutine = false
  cell : ∀ y ∈ scope.names, y.2 ≠ .cell
  dot : scope.names.lookup (".0" : Str) = some NameKind.local
def gxC (N : List Str) (sc scope : Scope) (own : List (Str × Nat)) : Bool :=
  blkC N sc scope own && (!scope.isCoroutine) && (scope.names.all fun y => match y.2 with | .cell => false | _ => true) && (match scope.names.lookup (".0" : Str) with | some .local => true | _ => false)
theorem gxOk_by {N : List Str} {sc scope : Scope} {own : List (Str × Nat)} (h : gxC N sc scope own = true) : GxOk N sc scope own := by
  unfold gxC at h
  simp only [Bool.and_eq_true] at h
  obtain ⟨⟨⟨h1, h2⟩, h3⟩, h4⟩ := h
  refine ⟨blkOk_by h1, by simpa using h2, fun y hy e => ?_, ?_⟩
  · have := List.all_eq_true.mp h3 y hy
    rw [e] at this
    exact nomatch this
  · split at h4
    · assumption
    · exact nomatch h4

/-- the context of the generator's code -/
abbrev gx (X : Cx) (s : Shared) (H : Hp) (ge : Env) (fp : List Addr) : Cx :=
  { X with A := X.A.in1.in1.deeper ge, s_0 := s, H_0 := H, env := ge, outer := X.stack, stack := ge :: X.stack, ex := fp, fn := fun _ => false, calm := true, pn := [], xe := fun _ _ => False }
section
variable {X : Cx} {pins : List (Addr × Obj)} {σ : L2.St} {H : Hp} {s : Shared}
theorem gx_start {scope : Scope} {own : List (Str × Nat)} {fp : List Addr} {code it : Value} {h' : Heap} {g' : Array GenState} {t' : Nat} {go : Obj} (I : Inv X pins σ H s) (hc : X.calm = true) (ok : GxOk X.N X.env.scope scope own) (hN : X.N.Nodup)
    (hfp : ∀ b ∈ fp, FpOk X pins H b ∧ b < s.heap.objs.size) (hn : h'.Ns s.heap.objs.size (fun y => if y = ".0" then some it else none)) (sb : Heap.SameBut s.heap.objs.size (s.heap.push { cls := .type "frame", data := .dict #[] }) h') (hg : AllBare g') (hgo : ∀ v, go.data ≠ .cell v) (hgf : go.isFreed = false) (hh : h'.objs.size = s.heap.objs.size + 1) :
    Inv (gx X s H (genEnv scope (cloFrom X.env.cells scope.names []) s.heap.objs.size code builtinsNs X.env) fp) [(h'.objs.size, go)] (wipe σ (own.map (·.2))) H { s with gens := g', toks := t', heap := h'.push go } := by
  have hfree : ∀ y ∈ scope.names, y.2 = .free → ∃ c, X.env.cells.lookup y.1 = some c := fun y hy e => by
    rcases ok.blk.free y hy e with k | k
    · exact I.ok.has _ (.inl k)
    · exact I.ok.has _ (.inr k)
  have kp1 : ∀ b o, s.heap.get? b = some o → h'.get? b = some o := fun b o e => sb.extBut b o (Nat.ne_of_lt (Heap.lt_size e)) (Heap.get?_push_of_some _ e)
  have kp : ∀ b o, s.heap.get? b = some o → (h'.push go).get? b = some o := fun b o e => Heap.get?_push_of_some _ (kp1 b o e)
  have cm : ∀ {y c}, (y, c) ∈ cloFrom X.env.cells scope.names [] → X.env.cells.lookup y = some c ∧ c < s.heap.objs.size := fun {y c} hm => by
    rcases cloFrom_mem hm with hm | ⟨h1, rfl⟩
    · cases hm
    · obtain ⟨c, hc⟩ := hfree _ h1 rfl
      rw [hc]
      obtain ⟨w, z⟩ := I.cell _ _ hc
      exact ⟨rfl, z.lt⟩
  have mem : ∀ {y c}, (cloFrom X.env.cells scope.names []).lookup y = some c → X.env.cells.lookup y = some c ∧ c < s.heap.objs.size := fun e => cm (PySem.mem_of_lookup e)
  have look : ∀ {y}, scope.names.lookup y = some .free → ∃ c, (cloFrom X.env.cells scope.names []).lookup y = some c ∧ X.env.cells.lookup y = some c := fun {y} hl => by
    obtain ⟨c', e'⟩ := mem_lookup (cloFrom_has (cells := X.env.cells) (acc := []) (PySem.mem_of_lookup hl))
    exact ⟨c', e', (mem e').1⟩
  generalize hcl : cloFrom X.env.cells scope.names [] = cl at mem look
  have okB : (gx X s H (genEnv scope cl s.heap.objs.size code builtinsNs X.env) fp).Ok := by
    refine ⟨I.ok.mod, ok.blk.kind, I.ok.glob, rfl, Nat.le_refl _, fun y z c e1 e2 => I.ok.inj y z c (mem e1).1 (mem e2).1, fun y hy => ?_, fun y c z => (Bool.false_ne_true z).elim, fun _ => I.ok.hd hc, ?_, .inr ⟨rfl, rfl⟩, fun b hb => ⟨?_, fun y c e z => ?_⟩, I.bs, Nat.le_trans I.ok.bsz I.sz, fun b o e hb => ?_, fun b hb z => ?_, I.stack, I.stkFree⟩
    · rcases hy with hy | hy
      · exact absurd rfl (ok.cell _ (PySem.mem_of_lookup hy))
      · obtain ⟨c, h1, _⟩ := look hy
        exact ⟨c, h1⟩
    · show Option.map _ X.A.frames = _
      rw [I.ok.frames]
      rfl
    · exact Nat.ne_of_lt (hfp b hb).2
    · exact (hfp b hb).1.2.2.2.2.1 y c (mem e).1 z
    · rcases (hfp b hb).1.2.2.2.1 with z | z
      · exact I.ok.noex b o e z
      · exact absurd (Nat.lt_of_lt_of_le (Heap.lt_size e) (Nat.le_trans I.ok.bsz z)) (Nat.lt_irrefl _)
    · rcases List.mem_cons.mp (I.stkSub b z) with z | z
      · exact (hfp b hb).1.2.1 z
      · exact (hfp b hb).1.2.2.1 z
  refine ⟨okB, rfl, hg, Un.kept kp, ⟨_, hn.push _, fun i y av e1 e2 e3 => ?_⟩, fun y c e => ?_, I.hok.fresh (Nat.le_refl _), fun y c e => I.freeC y c (mem e).1, fun p hp => ?_, I.hok.kept kp, by rw [wipe_length]; exact I.len⟩
  · obtain ⟨e2, hne⟩ := wipe_some e2
    have own_no : ∀ k, scope.names.lookup y = some k → k = .local ∨ k = .cell → False := fun k e hh => by
      rcases ok.blk.own _ (PySem.mem_of_lookup e) hh with e' | e'
      · obtain ⟨p, hp, hpy⟩ := List.mem_map.mp e'
        have e3 := ok.blk.ix p hp
        have : p.1 = y := hpy
        rw [this] at e3
        exact hne (List.mem_map.mpr ⟨p, hp, nodup_ix hN e3 e1⟩)
      · exact e' (List.mem_of_getElem? e1)
    have hl : scope.names.lookup y = some .free := by
      rcases e3 with e3 | e3 | e3
      · exact (own_no _ e3 (.inl rfl)).elim
      · exact (own_no _ e3 (.inr rfl)).elim
      · exact e3
    obtain ⟨m, hn, hlk⟩ := I.loc
    have hvis : Vis X.env.scope y := (ok.blk.free _ (PySem.mem_of_lookup hl) rfl).elim (fun k => .inr (.inl k)) (fun k => .inr (.inr k))
    obtain ⟨w, r, q⟩ := hlk i y av e1 e2 hvis
    refine ⟨w, r, .inr ⟨.inr hl, ?_⟩⟩
    obtain ⟨c, h1, h2⟩ := look hl
    rcases q with ⟨k, _⟩ | ⟨_, c', e', z⟩
    · have k : X.env.scope.names.lookup y = some .local := k
      rcases ok.blk.free _ (PySem.mem_of_lookup hl) rfl with k' | k' <;> rw [show X.env.scope.names.lookup y = _ from k'] at k <;> cases k
    · rw [h2] at e'
      cases e'
      exact ⟨c, h1, z.keeps kp⟩
  · obtain ⟨w, z⟩ := I.cell y c (mem e).1
    exact ⟨w, z.keeps kp⟩
  · have e : p = (h'.objs.size, go) := by simpa using (show p ∈ ([] : List (Addr × Obj)) ++ [(h'.objs.size, go)] from hp)
    subst e
    refine ⟨Heap.get?_push_size _ hgf, I.hok.fresh (by show s.heap.objs.size ≤ h'.objs.size; omega), by show h'.objs.size ≠ s.heap.objs.size; omega, fun z => ?_, hgo⟩
    have := I.stkSub _ z
    rcases List.mem_cons.mp this with z | z
    · have q : X.env.locals < s.heap.objs.size := I.lt
      have z' : h'.objs.size = X.env.locals := z
      have z2 : s.heap.objs.size + 1 = X.env.locals := hh.symm.trans z'
      have q2 : s.heap.objs.size + 1 < s.heap.objs.size := by rw [z2]; exact q
      exact absurd q2 (by omega)
    · exact I.nofs (show s.heap.objs.size ≤ h'.objs.size by omega) z
end

theorem over_gx {A : Around} {elt : Expr} {gs : List Comprehension} {scope : Scope} {pos : Pos} {it acc : Value} {ge : Env} : A.over (.compLoop (.GeneratorExp elt gs scope pos) 0 it acc ge) [] = A.deeper ge := by
  obtain ⟨hd, d, fr, gd, u⟩ := A
  simp [Around.over, Around.deeper, marksOver, frameCount, unitsOf, envsOf, guardsOf, pushEnvs, pushGuards, Code.envs, Code.env?, Code.isFrame, Code.guards, Code.isGuard, Code.weight, Code.frames, Code.isCreation, Code.isCaller, Code.cUnits]
theorem over_gx0 {A : Around} {elt : Expr} {gs : List Comprehension} {scope : Scope} {pos : Pos} {it acc : Value} {ge : Env} : A.over (.compStart (.GeneratorExp elt gs scope pos) 0 it acc ge) [] = A.deeper ge := by
  obtain ⟨hd, d, fr, gd, u⟩ := A
  simp [Around.over, Around.deeper, marksOver, frameCount, unitsOf, envsOf, guardsOf, pushEnvs, pushGuards, Code.envs, Code.env?, Code.isFrame, Code.guards, Code.isGuard, Code.weight, Code.frames, Code.isCreation, Code.isCaller, Code.cUnits]

section
variable {X : Cx} {pg : List (Addr × Obj)} {σw : L2.St} {s4 : Shared} {H4 : Hp} {ge : Env} {fp : List Addr}
/-- what a turn is to reach; c: the answer with which it goes on -/
def Turns (J : It) (g : TG) (te : TE) (vs : List Nat) (σw : L2.St) (c : Bool) (Qt Qf : Hp → Prop) (W : Nat → Nat → Hp → Prop) : Prop :=
  ∀ i m H, W i m H → (J.stop i H ∧ Qt H) ∨ (J.go i H ∧ ∀ x H', J.yld i H x H' → g x σw H' fun σ2 H2 => wipe σ2 vs = σw ∧ te σ2 H2 fun y H3 => ∃ b, y = .bl b ∧ if b = c then ∃ m', m' < m ∧ W (i + 1) m' H3 else Qf H3)
def gY (Z : Cx) (pg : List (Addr × Obj)) (σw : L2.St) (c : Bool) (Qf : Hp → Prop) : Protocol := fun _ _ v s kap =>
  ∃ b H', v = .bool b ∧ Inv Z pg σw H' s ∧ if b = c then ∀ s'' : Shared, s''.heap = s.heap → s''.os = s.os → AllBare s''.gens → kap (.send .none) s'' else Qf H'
def gR (Z : Cx) (pg : List (Addr × Obj)) (σw : L2.St) (Qt : Hp → Prop) : Shared → Prop := fun s => ∃ H', Inv Z pg σw H' s ∧ Qt H'
theorem inv_gens {Z : Cx} {pins : List (Addr × Obj)} {σ : L2.St} {H : Hp} {s s' : Shared} (I : Inv Z pins σ H s) (h : s'.heap = s.heap) (o : s'.os = s.os) (g : AllBare s'.gens) : Inv Z pins σ H s' := by
  obtain ⟨hh, gg, dd, tt, oo⟩ := s'
  have h' : hh = s.heap := h
  have o' : oo = s.os := o
  subst h'
  subst o'
  exact ⟨I.ok, I.os, g, I.base, I.loc, I.cell, I.free, I.freeC, I.pin, I.hok, I.len⟩
theorem seg_loop {elt tg iter : Expr} {scope : Scope} {gpos : Pos} {J : It} {it : Addr} {tn : Nat → Heap → Prop} {g : TG} {te : TE} {vs : List Nat} {c : Bool} {Qt Qf : Hp → Prop} {W : Nat → Nat → Hp → Prop}
    (T : Turn X.prog X.w X.K tg J fp it tn) (pgo : PG (gx X s4 H4 ge fp) tg g) (pe : PE (gx X s4 H4 ge fp) elt te) (hco : ge.scope.isCoroutine = false) (hpg : ∀ p ∈ pg, p.1 ∉ fp) (turns : Turns J g te vs σw c Qt Qf W) (hwl : ∀ σ2, wipe σ2 vs = σw → σw.length = σ2.length) :
    ∀ (n m i : Nat) (s₀ s : Shared) (H' : Hp), m < n → Inv (gx X s4 H4 ge fp) pg σw H' s → tn i s.heap → (∀ b ∈ fp, H' b = none) → W i m H' →
      Seg (model X.prog X.w) X.A.in1.in1 (fun n s₀ r s₁ => r = .ok .next ∧ gR (gx X s4 H4 ge fp) pg σw Qt s₁) (gY (gx X s4 H4 ge fp) pg σw c Qf) n s₀ (.compLoop (.GeneratorExp elt [⟨tg, iter, [], 0⟩] scope gpos) 0 (.ref it) .none ge)
        ((model X.prog X.w).den (.compLoop (.GeneratorExp elt [⟨tg, iter, [], 0⟩] scope gpos) 0 (.ref it) .none ge)) [] s := by
  have ov : ∀ {elt2 : Expr} {gs : List Comprehension} {sc2 : Scope} {p2 : Pos} {a b : Value}, X.A.in1.in1.over (.compLoop (.GeneratorExp elt2 gs sc2 p2) 0 a b ge) [] = (gx X s4 H4 ge fp).A := over_gx
  have stat : ∀ {σ' : L2.St} {H' : Hp} {s' : Shared}, Inv (gx X s4 H4 ge fp) pg σ' H' s' → (∀ b ∈ fp, H' b = none) → ∀ b ∈ fp, FpOk (gx X s4 H4 ge fp) pg H' b := fun {σ' H' s'} I' hn b hb =>
    ⟨hn b hb, (I'.ok.exf b hb).1, I'.ok.exfs b hb, .inl hb, fun x c e => (I'.ok.exf b hb).2 x c e, fun p hp => fun z => by
      have hp : p ∈ pg := by simpa using (show p ∈ ([] : List (Addr × Obj)) ++ pg from hp)
      exact hpg p hp (by rw [z]; exact hb)⟩
  intro n
  induction n with
  | zero => intro m i s₀ s H' hm; omega
  | succ n ih =>
    intro m i s₀ s H' hm I st nf w
    show Seg _ X.A.in1.in1 _ _ _ s₀ _ ((compTurn (.GeneratorExp elt [⟨tg, iter, [], 0⟩] scope gpos) 0 (.ref it) .none ge).onRaise (leaving ge)) [] s
    rw [compTurn_gen, Sem.onRaise_eq_wrap]
    refine seg_bind_wrap (wpAny_standAt ?_)
    rcases turns i m H' w with ⟨stop, q⟩ | ⟨go, step⟩
    · refine seg_bind_wrap ?_
      rw [ov]
      refine thnF (T.done (gx X s4 H4 ge fp) rfl rfl rfl rfl i pg s σw H' (fun _ _ => False) I (stat I nf) st stop) fun r s6 ⟨hr, I6⟩ => ?_
      subst hr
      exact seg_end (.ok .next) ⟨rfl, H', I6, q⟩
    · refine seg_bind_wrap ?_
      rw [ov]
      refine thnF (T.item (gx X s4 H4 ge fp) rfl rfl rfl rfl i pg s σw H' (fun _ _ => False) I (stat I nf) st go) fun r s6 ⟨u, hr, h6⟩ => ?_
      subst hr
      refine seg_bind_wrap ?_
      rw [ov]
      refine thnF h6 fun _ s7 ⟨x, H7, I7, r7, y7, st7, n7⟩ => ?_
      have I7' := I7.pinned (stat I7 n7) (T.obj _ _ st7)
      refine seg_bind_wrap ?_
      rw [ov]
      refine thnF (pgo.run _ s7 _ H7 x u _ I7' r7 (step x H7 y7)) fun _ s8 ⟨σ8, H8, I8, hw8, q8⟩ => ?_
      refine seg_bind_wrap ?_
      rw [ov]
      refine wpAny_tests_nil ?_
      simp only [if_true]
      have hy : ∀ v, yieldOut ge v = yieldValue v := fun v => by simp only [yieldOut, hco, Bool.false_eq_true, if_false]
      simp only [hy]
      rw [Sem.bind_eq_wrap', Sem.bind_eq_wrap', Sem.wrap_wrap, Sem.wrap_wrap]
      refine seg_wrap ?_
      rw [ov]
      refine thnF (pe.run _ s8 σ8 H8 _ I8 q8) fun z s9 ⟨yv, H9, I9, r9, b, eb, q9⟩ => ?_
      subst eb
      cases r9
      have pin' : ∀ b ∈ fp, ∀ o, s7.heap.get? b = some o → s9.heap.get? b = some o ∧ H9 b = none := fun b hb o e =>
        let z := I9.pin (b, o) (List.mem_append_right _ (List.mem_append_right _ (mem_pinsAt hb e)))
        ⟨z.1, z.2.1⟩
      have J9 : Inv (gx X s4 H4 ge fp) pg σw H9 s9 := (I9.unpinned (pins := pg)).weak (hwl σ8 hw8) fun j v e => by
        rw [← hw8] at e
        exact (wipe_some e).1
      have st9 : tn (i + 1) s9.heap := T.keep _ _ _ st7 fun b hb o e => (pin' b hb o e).1
      have n9 : ∀ b ∈ fp, H9 b = none := fun b hb => by
        obtain ⟨o, e, _⟩ := T.obj _ _ st7 b hb
        exact (pin' b hb o e).2
      refine seg_at (seg_yield rfl rfl rfl ⟨b, H9, rfl, J9, ?_⟩)
      by_cases hbc : b = c
      · rw [if_pos hbc] at q9 ⊢
        obtain ⟨m', hm', w'⟩ := q9
        intro s'' e1 e2 e3
        refine seg_again rfl (ih m' (i + 1) s'' s'' H9 (by omega) (inv_gens J9 e1 e2 e3) (by rw [e1]; exact st9) n9 w')
      · rw [if_neg hbc] at q9 ⊢
        exact q9
theorem seg_start {elt tg iter : Expr} {scope : Scope} {gpos : Pos} {J : It} {it : Addr} {tn : Nat → Heap → Prop} {Y : Protocol} {R : GenEnd} {n : Nat} {s₀ s : Shared}
    (T : Turn X.prog X.w X.K tg J fp it tn) (st : tn 0 s.heap)
    (loop : Seg (model X.prog X.w) X.A.in1.in1 R Y n s₀ (.compLoop (.GeneratorExp elt [⟨tg, iter, [], 0⟩] scope gpos) 0 (.ref it) .none ge)
        ((model X.prog X.w).den (.compLoop (.GeneratorExp elt [⟨tg, iter, [], 0⟩] scope gpos) 0 (.ref it) .none ge)) [] s) :
      Seg (model X.prog X.w) X.A.in1.in1 R Y n s₀ (.compStart (.GeneratorExp elt [⟨tg, iter, [], 0⟩] scope gpos) 0 (.ref it) .none ge)
        ((model X.prog X.w).den (.compStart (.GeneratorExp elt [⟨tg, iter, [], 0⟩] scope gpos) 0 (.ref it) .none ge)) [] s := by
  show Seg _ X.A.in1.in1 _ _ _ s₀ _ ((compStart (.GeneratorExp elt [⟨tg, iter, [], 0⟩] scope gpos) 0 (.ref it) .none ge).onRaise (leaving ge)) [] s
  unfold compStart
  rw [Sem.onRaise_eq_wrap]
  show Seg _ X.A.in1.in1 _ _ _ s₀ _ ((ask >>= _).wrap _ _ _ _) [] s
  refine seg_bind_wrap (wpAny_askSetting ?_)
  split
  · exact seg_again rfl loop
  · first
      | exact seg_bind_wrap (wpAny_rule (seg_bind_wrap (wpAny_standAt (seg_bind_wrap (T.self _ 0 s _ _ st (seg_again rfl loop))))))
      | (refine seg_bind_wrap (wpAny_rule ?_); show Seg _ X.A.in1.in1 _ _ _ s₀ _ ((standAt iter.pos >>= _).wrap _ _ _ _) [] s; exact seg_bind_wrap (wpAny_standAt (seg_bind_wrap (T.self _ 0 s _ _ st (seg_again rfl loop)))))

/-- the consumer between two pulls -/
structure Cons (Z : Cx) (M : Model) (A : Around) (pg : List (Addr × Obj)) (σw : L2.St) (c : Bool) (Qt Qf : Hp → Prop) (a : Addr) (g n : Nat) (s : Shared) : Prop where
  lt : g < s.gens.size
  bare : AllBare s.gens
  lim : s.heap.NoLimit
  gen : s.heap.IsGen a g
  go : ∃ gs, s.gens[g]? = some gs ∧ gs.Goes M A.in1.in1 (fun _ _ r s₁ => r = .ok .next ∧ gR Z pg σw Qt s₁) (gY Z pg σw c Qf) n (.send .none) (s.setGen g .running)
theorem setGen_heap (s : Shared) (g : Nat) (x : GenState) : (s.setGen g x).heap = s.heap := rfl
theorem setGen_os (s : Shared) (g : Nat) (x : GenState) : (s.setGen g x).os = s.os := rfl
/-- one pull -/
theorem pull {Z : Cx} {prog : Program} {w : World} {A : Around} {c : Bool} {Qt Qf : Hp → Prop} {a : Addr} {g n : Nat} {go : Obj} {s : Shared} {Q : Option Value → Shared → Prop} {E : Value → Shared → Prop} (hh : A.handled = none) (hd : A.depth < recursionLimit) (hpg : (a, go) ∈ pg)
    (hgen : ∀ h : Heap, h.get? a = some go → h.IsGen a g) (C : Cons Z (model prog w) A pg σw c Qt Qf a g n s)
    (h1 : ∀ s' m, n = m + 1 → Cons Z (model prog w) A pg σw c Qt Qf a g m s' → Q (some (.bool c)) s')
    (h2 : ∀ s' H', Inv Z pg σw H' s' → Qf H' → Q (some (.bool (!c))) s') (h3 : ∀ s' H', Inv Z pg σw H' s' → Qt H' → Q none s') :
    wpAny (model prog w) A.in1 (pyNext (.ref a)) Q E s := by
  obtain ⟨gs, hgs, hgo⟩ := C.go
  refine GenW.wpAny_gsz (n := g + 1) C.lt (wpAny_pyNext_genexpQ (A := A.in1) (P := fun _ _ s₁ => gR Z pg σw Qt s₁) hh C.lim hd C.gen hgs hgo (fun v s₁ gs' hb hv hsz => ?_) fun s₁ hp h' hk hsz => ?_)
  · obtain ⟨b, H', rfl, I, q⟩ := hv
    have hsz' : g < s₁.gens.size := by
      have h9 : g + 1 ≤ (s₁.setGen g gs').gens.size := hsz
      rw [GenW.setGen_size] at h9
      exact h9
    have bare1 : AllBare (s₁.setGen g gs').gens := allBare_setGen I.bare hb
    by_cases hbc : b = c
    · subst hbc
      rw [if_pos rfl] at q
      cases n with
      | zero =>
        exact absurd (q s₁ rfl rfl I.bare) (fun z => z)
      | succ m =>
        refine h1 _ m rfl ⟨by rw [GenW.setGen_size]; exact hsz', bare1, I.nolimit, hgen _ (I.pin (a, go) (List.mem_append_right _ hpg)).1, gs', setGen_at hsz', ?_⟩
        exact q ((s₁.setGen g gs').setGen g .running) rfl rfl (allBare_setGen bare1 rfl)
    · rw [if_neg hbc] at q
      have e : b = !c := by cases b <;> cases c <;> first | rfl | exact absurd rfl hbc
      subst e
      exact h2 _ H' (inv_gens I rfl rfl bare1) q
  · obtain ⟨H', I, q⟩ := hp
    have bare1 : AllBare (s₁.setGen g .finished).gens := allBare_setGen I.bare rfl
    have I2 : Inv Z pg σw H' (s₁.setGen g .finished) := inv_gens I rfl rfl bare1
    exact h3 _ H' (I2.kept (h' := h') (t' := (s₁.setGen g .finished).toks) hk) q
theorem all_loop {Z : Cx} {prog : Program} {w : World} {A : Around} {Qt Qf : Hp → Prop} {a : Addr} {g : Nat} {go : Obj} {R : Result → Shared → Prop} (hh : A.handled = none) (hd : A.depth < recursionLimit) (hpg : (a, go) ∈ pg) (hgen : ∀ h : Heap, h.get? a = some go → h.IsGen a g)
    (ht : ∀ s' H', Inv Z pg σw H' s' → Qt H' → R (.ok (.ret (.bool true))) s') (hf : ∀ s' H', Inv Z pg σw H' s' → Qf H' → R (.ok (.ret (.bool false))) s') :
    ∀ (n : Nat) (s : Shared), Cons Z (model prog w) A pg σw true Qt Qf a g n s → codeAny (model prog w) A (.builtin "all.loop" ⟨[.ref a], []⟩) R s := by
  intro n
  induction n with
  | zero =>
    intro s C
    refine codeAny_builtin F.entry_all_loop ?_
    rw [Around.under_plainId F.plain_all_loop _]
    show wpAny _ A.in1 (pyNext (.ref a) >>= _) _ _ s
    refine wpAny_bind (pull hh hd hpg hgen C (fun s' m e => by omega) (fun s' H' I q => ?_) fun s' H' I q => ?_)
    · refine wpAny_bind (wpAny_holding (wpAny_truthy_bool ?_))
      refine wpAny_bind (wpAny_letGo ?_)
      simp only [Bool.not_true, Bool.false_eq_true, if_false]
      exact wpAny_bind (wpAny_rule (wpAny_pure (hf s' H' I q)))
    · exact wpAny_bind (wpAny_rule (wpAny_pure (ht s' H' I q)))
  | succ n ih =>
    intro s C
    refine codeAny_builtin F.entry_all_loop ?_
    rw [Around.under_plainId F.plain_all_loop _]
    show wpAny _ A.in1 (pyNext (.ref a) >>= _) _ _ s
    refine wpAny_bind (pull hh hd hpg hgen C (fun s' m e C' => ?_) (fun s' H' I q => ?_) fun s' H' I q => ?_)
    · have e' : n = m := by omega
      subst e'
      refine wpAny_bind (wpAny_holding (wpAny_truthy_bool ?_))
      refine wpAny_bind (wpAny_letGo ?_)
      simp only [if_true]
      exact wpAny_pure ⟨plainId_quiet F.plain_all_loop _, ih s' C'⟩
    · refine wpAny_bind (wpAny_holding (wpAny_truthy_bool ?_))
      refine wpAny_bind (wpAny_letGo ?_)
      simp only [Bool.not_true, Bool.false_eq_true, if_false]
      exact wpAny_bind (wpAny_rule (wpAny_pure (hf s' H' I q)))
    · exact wpAny_bind (wpAny_rule (wpAny_pure (ht s' H' I q)))
theorem any_loop {Z : Cx} {prog : Program} {w : World} {A : Around} {Qt Qf : Hp → Prop} {a : Addr} {g : Nat} {go : Obj} {R : Result → Shared → Prop} (hh : A.handled = none) (hd : A.depth < recursionLimit) (hpg : (a, go) ∈ pg) (hgen : ∀ h : Heap, h.get? a = some go → h.IsGen a g)
    (ht : ∀ s' H', Inv Z pg σw H' s' → Qt H' → R (.ok (.ret (.bool false))) s') (hf : ∀ s' H', Inv Z pg σw H' s' → Qf H' → R (.ok (.ret (.bool true))) s') :
    ∀ (n : Nat) (s : Shared), Cons Z (model prog w) A pg σw false Qt Qf a g n s → codeAny (model prog w) A (.builtin "any.loop" ⟨[.ref a], []⟩) R s := by
  intro n
  induction n with
  | zero =>
    intro s C
    refine codeAny_builtin F.entry_any_loop ?_
    rw [Around.under_plainId F.plain_any_loop _]
    show wpAny _ A.in1 (pyNext (.ref a) >>= _) _ _ s
    refine wpAny_bind (pull hh hd hpg hgen C (fun s' m e => by omega) (fun s' H' I q => ?_) fun s' H' I q => ?_)
    · refine wpAny_bind (wpAny_holding (wpAny_truthy_bool ?_))
      refine wpAny_bind (wpAny_letGo ?_)
      simp only [Bool.not_false, if_true]
      exact wpAny_bind (wpAny_rule (wpAny_pure (hf s' H' I q)))
    · exact wpAny_bind (wpAny_rule (wpAny_pure (ht s' H' I q)))
  | succ n ih =>
    intro s C
    refine codeAny_builtin F.entry_any_loop ?_
    rw [Around.under_plainId F.plain_any_loop _]
    show wpAny _ A.in1 (pyNext (.ref a) >>= _) _ _ s
    refine wpAny_bind (pull hh hd hpg hgen C (fun s' m e C' => ?_) (fun s' H' I q => ?_) fun s' H' I q => ?_)
    · have e' : n = m := by omega
      subst e'
      refine wpAny_bind (wpAny_holding (wpAny_truthy_bool ?_))
      refine wpAny_bind (wpAny_letGo ?_)
      simp only [Bool.false_eq_true, if_false]
      exact wpAny_pure ⟨plainId_quiet F.plain_any_loop _, ih s' C'⟩
    · refine wpAny_bind (wpAny_holding (wpAny_truthy_bool ?_))
      refine wpAny_bind (wpAny_letGo ?_)
      simp only [Bool.not_false, if_true]
      exact wpAny_bind (wpAny_rule (wpAny_pure (hf s' H' I q)))
    · exact wpAny_bind (wpAny_rule (wpAny_pure (ht s' H' I q)))
end
section
variable {X : Cx} {pins : List (Addr × Obj)} {σ : L2.St} {H : Hp} {s : Shared}
/-- the generator is made -/
theorem gen_make {c P : Addr} {elt tg iter : Expr} {gpos : Pos} {scope : Scope} {own : List (Str × Nat)} {wi : TI} {k : Nat} {Q' : Value → Shared → Prop} {R : It → Hp → Prop}
    (hr : Room k X.A) (TB : TabB X.base X.mg c P) (hcode : X.env.code = .ref c) (hc : X.calm = true) (hN : X.N.Nodup) (ok : GxOk X.N X.env.scope scope own) (hi : PI X tg iter wi)
    (hs : ∀ v, genFold iter X.env v = pure v) (I : Inv X pins σ H s) (h : wi σ H fun J H1 => TabG H1 P ∧ R J H1)
    (hQ : ∀ (J : It) (H1 H2 : Hp) (it : Addr) (fp : List Addr) (tn : Nat → Heap → Prop) (s4 s5 : Shared) (cd : Value) (a g : Addr) (go : Obj), R J H1 → Tabbed P H1 H2 → Inv X pins σ H2 s4 → Turn X.prog X.w X.K tg J fp it tn → (∀ b ∈ fp, FpOk X pins H2 b ∧ b < s4.heap.objs.size) →
      Inv (gx X s4 H2 (genEnv scope (cloFrom X.env.cells scope.names []) s4.heap.objs.size cd builtinsNs X.env) fp) [(a, go)] (wipe σ (own.map (·.2))) H2 s5 → tn 0 s5.heap → a ∉ fp → (∀ h : Heap, h.get? a = some go → h.IsGen a g) →
      s5.gens[g]? = some (.fresh (.compStart (.GeneratorExp elt [⟨tg, iter, [], 0⟩] scope gpos) 0 (.ref it) .none (genEnv scope (cloFrom X.env.cells scope.names []) s4.heap.objs.size cd builtinsNs X.env))) → Q' (.ref a) s5) :
    wpAny (model X.prog X.w) X.A (eval (.GeneratorExp elt [⟨tg, iter, [], 0⟩] scope gpos) X.env) Q' X.xe s := by
  have hfree : ∀ y ∈ scope.names, y.2 = .free → ∃ c, X.env.cells.lookup y.1 = some c := fun y hy e => by
    rcases ok.blk.free y hy e with k | k
    · exact I.ok.has _ (.inl k)
    · exact I.ok.has _ (.inr k)
  refine wpAny_GeneratorExp_make ok.co (closure_ok hfree) ok.cell ok.dot ok.blk.kind hr.depth ?_ hs
  refine thn (hi.run pins s σ H _ I h) fun xv s1 hx => thn hx fun itv s2 h2 => ?_
  obtain ⟨it, fp, tn, J, H1, e, I1, T, st1, f1, ⟨ps, hP, ht⟩, hR⟩ := h2
  subst e
  have hPs : s2.heap.get? P = some { cls := .none, data := .fields ps } := I1.hok P _ hP
  have cd : PySem.W.CodeHd s2.heap c P := TB.code.keeps fun b u e => I1.bk b u e
  have fin : ∀ (code : Value) (h3 : Heap) (tk : Nat) (more : Array Value), (∀ b o, b ≠ P → s2.heap.get? b = some o → h3.get? b = some o) → s2.heap.objs.size ≤ h3.objs.size → h3.get? P = some { cls := .none, data := .fields (ps ++ more) } → TriplesOk (ps ++ more).toList →
      wpAny (model X.prog X.w) X.A (builtinsFor X.env.globals X.env.builtins) (fun bi s₄ => ∀ h' : Heap, h'.Ns s₄.heap.objs.size (fun y => if y = ".0" then some (.ref it) else none) → Heap.SameBut s₄.heap.objs.size (s₄.heap.push { cls := .type "frame", data := .dict #[] }) h' →
          Q' (.ref h'.objs.size) { s₄ with
            gens := s₄.gens.push (.fresh (.compStart (.GeneratorExp elt [⟨tg, iter, [], 0⟩] scope gpos) 0 (.ref it) .none (genEnv scope (cloFrom X.env.cells scope.names []) s₄.heap.objs.size code bi X.env))),
            toks := s₄.toks + 1 + 1 + 1,
            heap := h'.push { cls := .type "generator", data := .fields #[.int s₄.gens.size 0, .str "<genexpr>" (s₄.toks + 1), .str (X.env.qual ++ "<genexpr>") (s₄.toks + 1 + 1)] } }) X.xe { s2 with heap := h3, toks := tk } := by
    intro code h3 tk more hk hsz hP3 ht3
    have I3 : Inv X pins σ (upd H1 P (.tbl (ps ++ more))) { s2 with heap := h3, gens := s2.gens, drawn := s2.drawn, toks := tk } := inv_tab I1 hP hk hP3 I1.bare
    obtain ⟨bm, ob, e1, e2, e3, e4, e5, e6, e7, e8⟩ := TB.bm
    refine wpAny_builtinsFor (m := X.mg) (by rw [I3.ok.glob]; exact I3.mod.glob.keeps I3.bk) e1 e2 (I3.bk _ _ e5) e6 e7 e8 ?_
    intro h' hn' sb
    have hs' : h'.objs.size = h3.objs.size + 1 := by rw [sb.1, Heap.size_push]
    have fpl : ∀ b ∈ fp, b < s2.heap.objs.size := fun b hb => by
      obtain ⟨o, e, _⟩ := T.obj _ _ st1 b hb
      exact Heap.lt_size e
    have nfP : ∀ b ∈ fp, b ≠ P := fun b hb z => by
      have := (f1 b hb).1
      rw [z, hP] at this
      cases this
    have st3 : tn 0 h3 := T.keep _ _ _ st1 fun b hb o e => hk b o (nfP b hb) e
    have kp' : ∀ b o, h3.get? b = some o → h'.get? b = some o := fun b o e => sb.extBut b o (Nat.ne_of_lt (Heap.lt_size e)) (Heap.get?_push_of_some _ e)
    have f3 : ∀ b ∈ fp, FpOk X pins (upd H1 P (.tbl (ps ++ more))) b ∧ b < h3.objs.size := fun b hb => ⟨⟨by rw [upd_ne (nfP b hb)]; exact (f1 b hb).1, (f1 b hb).2⟩, Nat.lt_of_lt_of_le (fpl b hb) hsz⟩
    have bare' : AllBare (s2.gens.push (.fresh (.compStart (.GeneratorExp elt [⟨tg, iter, [], 0⟩] scope gpos) 0 (.ref it) .none (genEnv scope (cloFrom X.env.cells scope.names []) h3.objs.size code builtinsNs X.env)))) := AllBare.push I1.bare rfl
    have J5 := gx_start (code := code) (it := .ref it) (t' := tk + 1 + 1 + 1) (go := { cls := .type "generator", data := .fields #[.int s2.gens.size 0, .str "<genexpr>" (tk + 1), .str (X.env.qual ++ "<genexpr>") (tk + 1 + 1)] }) I3 hc ok hN f3 hn' sb bare' (fun v z => nomatch z) rfl hs'
    refine hQ J H1 (upd H1 P (.tbl (ps ++ more))) it fp tn { s2 with heap := h3, toks := tk } _ code h'.objs.size s2.gens.size _ hR ⟨⟨ps ++ more, upd_same, ht3⟩, fun b hb => upd_ne hb⟩ I3 T f3 J5 (T.keep _ _ _ st3 fun b _ o e => Heap.get?_push_of_some _ (kp' b o e)) (fun z => ?_) (fun h e => ⟨_, _, _, e, rfl, rfl, rfl⟩) (Array.getElem?_push_size ..)
    have q1 := Nat.lt_of_lt_of_le (fpl _ z) hsz
    have q2 : h'.objs.size < h3.objs.size := q1
    omega
  refine ⟨I1.nolimit, ?_⟩
  cases hf : codeAmong gpos ps.toList with
  | none =>
    refine wpAny_genexprCodeX hcode (cd.code hPs ht) (cd.tab hPs) hf fun c' h' tk hx hge hlt hco' _ htab' _ => ?_
    obtain ⟨o1, vs, f1, tf, fl, tgg, inF, tx, tt, op, _, _, _, _, _, _, _, _, _, htr, _⟩ := hco'
    exact fin _ h' tk _ (fun b o hb e => hx b o hb e) (Nat.le_trans hge (Nat.le_of_lt hlt)) htab'.2 htr
  | some cv =>
    refine wpAny_genexprCode_hit hcode (cd.code hPs ht) hf ?_
    exact fin cv s2.heap s2.toks #[] (fun b o _ e => e) (Nat.le_refl _) (by simpa using hPs) (by simpa using ht)
/-- all(..) where c is true, any(..) where c is false -/
def tGen (P : Addr) (wi : TI) (g : TG) (te : TE) (vs : List Nat) (c : Bool) : TE := fun σ H Q => wi σ H fun J H1 => TabG H1 P ∧ ∀ H2, Tabbed P H1 H2 → ∃ W : Nat → Nat → Hp → Prop, (∃ m, W 0 m H2) ∧ Turns J g te vs (wipe σ vs) c (Q (.bl c)) (Q (.bl (!c))) W
theorem gen_cons {c0 P : Addr} {elt tg iter : Expr} {gpos : Pos} {scope : Scope} {own : List (Str × Nat)} {wi : TI} {g : TG} {te : TE} {k : Nat} {c : Bool} {Q : VK} {Q' : Value → Shared → Prop}
    (hr : Room k X.A) (TB : TabB X.base X.mg c0 P) (hcode : X.env.code = .ref c0) (hc : X.calm = true) (hN : X.N.Nodup) (ok : GxOk X.N X.env.scope scope own) (hi : PI X tg iter wi)
    (hg : ∀ (s : Shared) (H : Hp) (cl : List (Str × Addr)) (C : Addr) (cd : Value) (fp : List Addr), PG (gx X s H (genEnv scope cl C cd builtinsNs X.env) fp) tg g)
    (he : ∀ (s : Shared) (H : Hp) (cl : List (Str × Addr)) (C : Addr) (cd : Value) (fp : List Addr), PE (gx X s H (genEnv scope cl C cd builtinsNs X.env) fp) elt te)
    (hs : ∀ v, genFold iter X.env v = pure v) (I : Inv X pins σ H s) (h : tGen P wi g te (own.map (·.2)) c σ H Q)
    (hQ : ∀ (Z : Cx) (pg : List (Addr × Obj)) (σw : L2.St) (a gn n : Addr) (go : Obj) (s5 : Shared), (a, go) ∈ pg → (∀ h : Heap, h.get? a = some go → h.IsGen a gn) → Cons Z (model X.prog X.w) X.A pg σw c (Q (.bl c)) (Q (.bl (!c))) a gn n s5 →
      (∀ s' H', Inv Z pg σw H' s' → Inv X pins σ H' s') → Q' (.ref a) s5) :
    wpAny (model X.prog X.w) X.A (eval (.GeneratorExp elt [⟨tg, iter, [], 0⟩] scope gpos) X.env) Q' X.xe s := by
  unfold tGen at h
  refine gen_make hr TB hcode hc hN ok hi hs I h ?_
  intro J H1 H2 it fp tn s4 s5 cd a gn go hR hT I4 T f4 I5 st5 hafp hgen hgs
  obtain ⟨W, ⟨m, w0⟩, turns⟩ := hR H2 hT
  have lt : gn < s5.gens.size := (Array.getElem?_eq_some_iff.mp hgs).1
  have wl : ∀ σ2 : L2.St, wipe σ2 (own.map (·.2)) = wipe σ (own.map (·.2)) → (wipe σ (own.map (·.2))).length = σ2.length := fun σ2 e => by rw [← e, wipe_length]
  refine hQ (gx X s4 H2 (genEnv scope (cloFrom X.env.cells scope.names []) s4.heap.objs.size cd builtinsNs X.env) fp) [(a, go)] (wipe σ (own.map (·.2))) a gn (m + 1) go s5 List.mem_cons_self hgen ⟨lt, I5.bare, I5.nolimit, hgen _ (I5.pin (a, go) (List.mem_append_right _ List.mem_cons_self)).1, _, hgs, rfl, ?_⟩ fun s' H' I' => ?_
  · refine seg_start T st5 (seg_loop T (hg s4 H2 _ _ cd fp) (he s4 H2 _ _ cd fp) ok.co (fun p hp => ?_) turns wl (m + 1) m 0 _ _ H2 (Nat.lt_succ_self m) (inv_gens I5 rfl rfl (allBare_setGen I5.bare rfl)) st5 (fun b hb => (f4 b hb).1.1) w0)
    rw [List.mem_singleton] at hp
    rw [hp]
    exact hafp
  · exact I4.call' (ch := fp) I'.os I'.base I'.hok I'.bare fun b hb => ⟨(f4 b hb).1.2.2.2.1, (f4 b hb).1.2.1, (f4 b hb).1.2.2.2.2.1, (f4 b hb).1.2.2.2.2.2⟩
end
section
variable {X : Cx}
theorem pe_allG {c0 P : Addr} {elt tg iter : Expr} {p pos gpos : Pos} {scope : Scope} {own : List (Str × Nat)} {wi : TI} {g : TG} {te : TE} {k : Nat}
    (hr : Room k X.A) (hgl : Gl X "all") (hm : X.mg "all" = none) (hb : bootBuiltins "all" = some (.builtin "all")) (TB : TabB X.base X.mg c0 P) (hcode : X.env.code = .ref c0) (hc : X.calm = true) (hN : X.N.Nodup) (ok : GxOk X.N X.env.scope scope own) (hi : PI X tg iter wi)
    (hg : ∀ (s : Shared) (H : Hp) (cl : List (Str × Addr)) (C : Addr) (cd : Value) (fp : List Addr), PG (gx X s H (genEnv scope cl C cd builtinsNs X.env) fp) tg g)
    (he' : ∀ (s : Shared) (H : Hp) (cl : List (Str × Addr)) (C : Addr) (cd : Value) (fp : List Addr), PE (gx X s H (genEnv scope cl C cd builtinsNs X.env) fp) elt te)
    (hs : ∀ v, genFold iter X.env v = pure v := by intro _; rfl)
    (he : starEach [.GeneratorExp elt [⟨tg, iter, [], 0⟩] scope gpos] X.env = (false, eval (.GeneratorExp elt [⟨tg, iter, [], 0⟩] scope gpos) X.env) :: starEach [] X.env := by rfl) :
    PE X (.Call (.Name "all" p) [.GeneratorExp elt [⟨tg, iter, [], 0⟩] scope gpos] [] pos) (tGen P wi g te (own.map (·.2)) true) := by
  refine ⟨fun pins s σ H Q I h => ?_⟩
  refine wpAny_Call_Name_kw (ld_blt I hgl hm hb ?_)
  refine PyProof.Rows.callWith_builtin1 ?_ he (by rfl)
  rw [he]
  show wpAny _ _ (spliced ((false, eval (.GeneratorExp elt [⟨tg, iter, [], 0⟩] scope gpos) X.env) :: backTo pos (starEach [] X.env))) _ _ s
  refine Calls.spliced_cons (gen_cons hr TB hcode hc hN ok hi hg he' hs I h fun Z pg σw a gn n go s5 hpg hgen C back => ?_)
  refine Calls.spliced_nil ?_
  refine call_function_tree F.kind_all F.plain_all F.entry_all (F.args_all1 _) ?_
  unfold Builtin.«all»
  refine wpAny_bind (m := oneArg "all" _) (wpAny_pure ?_)
  refine wpAny_bind (wpAny_pyIter_gen C.gen ?_)
  exact wpAny_pure ⟨plainId_quiet F.plain_all_loop _, all_loop (I.ok.hd hc) hr.depth hpg hgen (fun s' H' I' q => ⟨.bl true, H', back s' H' I', rfl, q⟩) (fun s' H' I' q => ⟨.bl false, H', back s' H' I', rfl, q⟩) n s5 C⟩
theorem pe_anyG {c0 P : Addr} {elt tg iter : Expr} {p pos gpos : Pos} {scope : Scope} {own : List (Str × Nat)} {wi : TI} {g : TG} {te : TE} {k : Nat}
    (hr : Room k X.A) (hgl : Gl X "any") (hm : X.mg "any" = none) (TB : TabB X.base X.mg c0 P) (hcode : X.env.code = .ref c0) (hc : X.calm = true) (hN : X.N.Nodup) (ok : GxOk X.N X.env.scope scope own) (hi : PI X tg iter wi)
    (hg : ∀ (s : Shared) (H : Hp) (cl : List (Str × Addr)) (C : Addr) (cd : Value) (fp : List Addr), PG (gx X s H (genEnv scope cl C cd builtinsNs X.env) fp) tg g)
    (he' : ∀ (s : Shared) (H : Hp) (cl : List (Str × Addr)) (C : Addr) (cd : Value) (fp : List Addr), PE (gx X s H (genEnv scope cl C cd builtinsNs X.env) fp) elt te)
    (hs : ∀ v, genFold iter X.env v = pure v := by intro _; rfl)
    (he : starEach [.GeneratorExp elt [⟨tg, iter, [], 0⟩] scope gpos] X.env = (false, eval (.GeneratorExp elt [⟨tg, iter, [], 0⟩] scope gpos) X.env) :: starEach [] X.env := by rfl) :
    PE X (.Call (.Name "any" p) [.GeneratorExp elt [⟨tg, iter, [], 0⟩] scope gpos] [] pos) (tGen P wi g te (own.map (·.2)) false) := by
  refine ⟨fun pins s σ H Q I h => ?_⟩
  refine wpAny_Call_Name_kw (ld_blt I hgl hm boot_any ?_)
  refine PyProof.Rows.callWith_builtin1 ?_ he (by rfl)
  rw [he]
  show wpAny _ _ (spliced ((false, eval (.GeneratorExp elt [⟨tg, iter, [], 0⟩] scope gpos) X.env) :: backTo pos (starEach [] X.env))) _ _ s
  refine Calls.spliced_cons (gen_cons hr TB hcode hc hN ok hi hg he' hs I h fun Z pg σw a gn n go s5 hpg hgen C back => ?_)
  refine Calls.spliced_nil ?_
  refine call_function_tree F.kind_any F.plain_any F.entry_any (F.args_any1 _) ?_
  unfold Builtin.«any»
  refine wpAny_bind (m := oneArg "any" _) (wpAny_pure ?_)
  refine wpAny_bind (wpAny_pyIter_gen C.gen ?_)
  exact wpAny_pure ⟨plainId_quiet F.plain_any_loop _, any_loop (I.ok.hd hc) hr.depth hpg hgen (fun s' H' I' q => ⟨.bl false, H', back s' H' I', rfl, q⟩) (fun s' H' I' q => ⟨.bl true, H', back s' H' I', rfl, q⟩) n s5 C⟩
end
end GA
/-! A layer over HandS: values as plain data D, slots as lists of data, readings without a heap. -/
namespace DL
open PySem PySem.Spec L2

inductive D where
  | non | bl (b : Bool) | int (i : Int) | str (x : Str) | ty (n : String) | fn (x : Str) | tup (l : List D) | lst (l : List D) | pot
  /-- a list that this def has made and may change -/
  | own (l : List D)


/-- the tables, and the top's functions by their names -/
structure Tf where
  tabs : List Addr
  fns : Str → Option Value
structure Qt where
  pot : Addr
  tf : Tf
abbrev Qt.tabs (p : Qt) : List Addr := p.tf.tabs
/-- what a def's frame stands on: the addresses that are not its to hand out, those of others that it may change, the heap at its entry -/
structure Gd where
  F0 : List Addr
  B : List Addr
  H0 : Hp
def NoT (o : HO) : Prop := ∀ ps, o ≠ .tbl ps

mutual
inductive Is (K : PySem.W.Frag) (p : Qt) (F : List Addr) (H : Hp) : V → D → Prop
  | non : Is K p F H .non .non
  | bl (b : Bool) : Is K p F H (.bl b) (.bl b)
  | int (i : Int) : Is K p F H (.int i) (.int i)
  | str (x : Str) : Is K p F H (.str x) (.str x)
  | ty (n : String) : Is K p F H (.ty n) (.ty n)
  | fn {x : Str} {f : Addr} : p.tf.fns x = some (.ref f) → Is K p F H (.ref f) (.fn x)
  | tup {a : Addr} {vs : List V} {l : List D} : SqT K H a vs → a ≠ p.pot → IsL K p F H vs l → Is K p F H (.ref a) (.tup l)
  | lst {a : Addr} {vs : List V} {l : List D} : Rd H a (.lst vs) → a ≠ p.pot ∧ a ∉ F → IsL K p F H vs l → Is K p F H (.ref a) (.lst l)
  | pot : Is K p F H (.ref p.pot) .pot
inductive IsL (K : PySem.W.Frag) (p : Qt) (F : List Addr) (H : Hp) : List V → List D → Prop
  | nil : IsL K p F H [] []
  | cons {v : V} {d : D} {vs : List V} {l : List D} : Is K p F H v d → IsL K p F H vs l → IsL K p F H (v :: vs) (d :: l)
end

/-- the pot stands: two counts, the second one small; so do the tables -/
structure Pk (p : Qt) (H : Hp) : Prop where
  at_ : ∃ a b : Int, 0 ≤ a ∧ 0 ≤ b ∧ b < 4294967296 ∧ H p.pot = some (.lst [.int a, .int b])
  tb : ∀ t ∈ p.tabs, GxR.TabG H t
/-- all but the pot is as it was; tables may grow -/
structure Ex (p : Qt) (H H' : Hp) : Prop where
  kp : ∀ b o, b ≠ p.pot → NoT o → H b = some o → H' b = some o
  pk : Pk p H'

section
variable {K : PySem.W.Frag} {p : Qt} {F G : List Addr} {H H1 H2 : Hp}
theorem SqT.keep {a : Addr} {vs : List V} (h : SqT K H a vs) (n : a ≠ p.pot) (e : ∀ b o, b ≠ p.pot → NoT o → H b = some o → H1 b = some o) : SqT K H1 a vs := by
  rcases h with (h | ⟨o, h⟩) | h
  · exact .inl (.inl (e _ _ n (fun _ z => nomatch z) h))
  · exact .inl (.inr ⟨o, e _ _ n (fun _ z => nomatch z) h⟩)
  · exact .inr h
theorem Rdl.keep {a : Addr} {vs : List V} (h : Rd H a (.lst vs)) (n : a ≠ p.pot) (e : ∀ b o, b ≠ p.pot → NoT o → H b = some o → H1 b = some o) : Rd H1 a (.lst vs) := by
  rcases h with h | ⟨o, h⟩
  · exact .inl (e _ _ n (fun _ z => nomatch z) h)
  · exact .inr ⟨o, e _ _ n (fun _ z => nomatch z) h⟩
theorem Rdl.sq {a : Addr} {vs : List V} (h : Rd H a (.lst vs)) : SqL K H a vs := .inl h
theorem Rdl.noT {a : Addr} {vs : List V} (h : Rd H a (.lst vs)) : ∃ o, NoT o ∧ H a = some o := by
  rcases h with h | ⟨o, h⟩
  · exact ⟨.lst vs, fun ps z => HO.noConfusion z, h⟩
  · exact ⟨.frz o (.lst vs), fun ps z => HO.noConfusion z, h⟩
theorem Is.mono {v : V} {d : D} (h : Is K p F H v d) (e : ∀ b o, b ≠ p.pot → NoT o → H b = some o → H1 b = some o) : Is K p F H1 v d :=
  Is.rec (motive_1 := fun v d _ => Is K p F H1 v d) (motive_2 := fun vs l _ => IsL K p F H1 vs l) .non .bl .int .str .ty .fn
    (fun h n _ ih => .tup (SqT.keep h n e) n ih) (fun h n _ ih => .lst (Rdl.keep h n.1 e) n ih) .pot .nil (fun _ _ i1 i2 => .cons i1 i2) h
theorem IsL.mono {vs : List V} {l : List D} (h : IsL K p F H vs l) (e : ∀ b o, b ≠ p.pot → NoT o → H b = some o → H1 b = some o) : IsL K p F H1 vs l :=
  IsL.rec (motive_1 := fun v d _ => Is K p F H1 v d) (motive_2 := fun vs l _ => IsL K p F H1 vs l) .non .bl .int .str .ty .fn
    (fun h n _ ih => .tup (SqT.keep h n e) n ih) (fun h n _ ih => .lst (Rdl.keep h n.1 e) n ih) .pot .nil (fun _ _ i1 i2 => .cons i1 i2) h
/-- fewer addresses shut out -/
theorem Is.less {v : V} {d : D} (h : Is K p F H v d) (e : ∀ b ∈ G, b ∈ F) : Is K p G H v d :=
  Is.rec (motive_1 := fun v d _ => Is K p G H v d) (motive_2 := fun vs l _ => IsL K p G H vs l) .non .bl .int .str .ty .fn
    (fun h n _ ih => .tup h n ih) (fun h n _ ih => .lst h ⟨n.1, fun z => n.2 (e _ z)⟩ ih) .pot .nil (fun _ _ i1 i2 => .cons i1 i2) h
theorem IsL.less {vs : List V} {l : List D} (h : IsL K p F H vs l) (e : ∀ b ∈ G, b ∈ F) : IsL K p G H vs l :=
  IsL.rec (motive_1 := fun v d _ => Is K p G H v d) (motive_2 := fun vs l _ => IsL K p G H vs l) .non .bl .int .str .ty .fn
    (fun h n _ ih => .tup h n ih) (fun h n _ ih => .lst h ⟨n.1, fun z => n.2 (e _ z)⟩ ih) .pot .nil (fun _ _ i1 i2 => .cons i1 i2) h
/-- further addresses shut out, at which nothing stood -/
theorem Is.more {v : V} {d : D} (h : Is K p F H v d) (n : ∀ b ∈ G, b ∈ F ∨ ∀ o, NoT o → H b ≠ some o) : Is K p G H v d :=
  Is.rec (motive_1 := fun v d _ => Is K p G H v d) (motive_2 := fun vs l _ => IsL K p G H vs l) .non .bl .int .str .ty .fn
    (fun h n _ ih => .tup h n ih) (fun h m _ ih => .lst h ⟨m.1, fun z => by
      rcases n _ z with q | q
      · exact m.2 q
      · obtain ⟨o, h1, h2⟩ := Rdl.noT h
        exact q o h1 h2⟩ ih) .pot .nil (fun _ _ i1 i2 => .cons i1 i2) h
theorem IsL.more {vs : List V} {l : List D} (h : IsL K p F H vs l) (n : ∀ b ∈ G, b ∈ F ∨ ∀ o, NoT o → H b ≠ some o) : IsL K p G H vs l :=
  IsL.rec (motive_1 := fun v d _ => Is K p G H v d) (motive_2 := fun vs l _ => IsL K p G H vs l) .non .bl .int .str .ty .fn
    (fun h n _ ih => .tup h n ih) (fun h m _ ih => .lst h ⟨m.1, fun z => by
      rcases n _ z with q | q
      · exact m.2 q
      · obtain ⟨o, h1, h2⟩ := Rdl.noT h
        exact q o h1 h2⟩ ih) .pot .nil (fun _ _ i1 i2 => .cons i1 i2) h
theorem IsL.len : ∀ {vs : List V} {l : List D}, IsL K p F H vs l → vs.length = l.length
  | [], _, h => by cases h; rfl
  | v :: vs, _, h => by
    cases h with
    | cons h1 h2 => simp [IsL.len h2]
theorem IsL.get : ∀ {vs : List V} {l : List D} {i : Nat} {v : V}, IsL K p F H vs l → vs[i]? = some v → ∃ d, l[i]? = some d ∧ Is K p F H v d
  | [], _, _, _, h, e => by simp at e
  | w :: vs, _, 0, v, h, e => by
    cases h with
    | cons h1 h2 =>
      have q : w = v := by simpa using e
      subst q
      exact ⟨_, rfl, h1⟩
  | w :: vs, _, i + 1, v, h, e => by
    cases h with
    | cons h1 h2 =>
      obtain ⟨d, e1, e2⟩ := IsL.get (i := i) (v := v) h2 (by simpa using e)
      exact ⟨d, by simpa using e1, e2⟩
theorem IsL.getD : ∀ {vs : List V} {l : List D} {i : Nat} {d : D}, IsL K p F H vs l → l[i]? = some d → ∃ v, vs[i]? = some v ∧ Is K p F H v d
  | _, [], _, _, h, e => by simp at e
  | _, w :: l, 0, d, h, e => by
    cases h with
    | cons h1 h2 =>
      have q : w = d := by simpa using e
      subst q
      exact ⟨_, rfl, h1⟩
  | _, w :: l, i + 1, d, h, e => by
    cases h with
    | cons h1 h2 =>
      obtain ⟨v, e1, e2⟩ := IsL.getD (i := i) (d := d) h2 (by simpa using e)
      exact ⟨v, by simpa using e1, e2⟩
theorem IsL.app : ∀ {vs ws : List V} {l m : List D}, IsL K p F H vs l → IsL K p F H ws m → IsL K p F H (vs ++ ws) (l ++ m)
  | [], _, _, _, h, h' => by cases h; exact h'
  | v :: vs, _, _, _, h, h' => by
    cases h with
    | cons h1 h2 => exact .cons h1 (IsL.app h2 h')
theorem IsL.drop : ∀ {vs : List V} {l : List D} (n : Nat), IsL K p F H vs l → IsL K p F H (vs.drop n) (l.drop n)
  | _, _, 0, h => h
  | [], _, n + 1, h => by cases h; exact .nil
  | v :: vs, _, n + 1, h => by
    cases h with
    | cons h1 h2 => exact IsL.drop n h2
theorem IsL.take : ∀ {vs : List V} {l : List D} (n : Nat), IsL K p F H vs l → IsL K p F H (vs.take n) (l.take n)
  | _, _, 0, h => .nil
  | [], _, n + 1, h => by cases h; exact .nil
  | v :: vs, _, n + 1, h => by
    cases h with
    | cons h1 h2 => exact .cons h1 (IsL.take n h2)
theorem IsL.ints : ∀ {vs : List V} {ns : List Int}, IsL K p F H vs (ns.map D.int) → vs = ns.map V.int
  | vs, [], h => by cases h; rfl
  | vs, n :: ns, h => by
    cases h with
    | cons h1 h2 =>
      cases h1
      rw [IsL.ints h2]
      rfl
theorem IsL.bools : ∀ {vs : List V} {ns : List Bool}, IsL K p F H vs (ns.map D.bl) → vs = ns.map V.bl
  | vs, [], h => by cases h; rfl
  | vs, n :: ns, h => by
    cases h with
    | cons h1 h2 =>
      cases h1
      rw [IsL.bools h2]
      rfl
theorem Ex.refl (h : Pk p H) : Ex p H H := ⟨fun _ _ _ _ e => e, h⟩
theorem Ex.trans (a : Ex p H H1) (b : Ex p H1 H2) : Ex p H H2 := ⟨fun c o n t e => b.kp c o n t (a.kp c o n t e), b.pk⟩
theorem Pk.ne {a : Addr} (h : Pk p H) (n : H a = none) : a ≠ p.pot := by
  rintro rfl
  obtain ⟨_, _, _, _, _, e⟩ := h.at_
  rw [n] at e
  cases e
theorem TabG.upd {a t : Addr} {o : HO} (h : GxR.TabG H t) (n : a ≠ t) : GxR.TabG (upd H a o) t := by
  obtain ⟨ps, e, r⟩ := h
  exact ⟨ps, by rw [upd_ne (Ne.symm n)]; exact e, r⟩
theorem TabG.ne {a t : Addr} (h : GxR.TabG H t) (n : H a = none) : a ≠ t := by
  rintro rfl
  obtain ⟨_, e, _⟩ := h
  rw [n] at e
  cases e
theorem Ex.new {a : Addr} {o : HO} (h : Pk p H) (n : H a = none) : Ex p H (upd H a o) := by
  refine ⟨fun b u _ _ e => ?_, ?_, fun t ht => TabG.upd (h.tb t ht) (TabG.ne (h.tb t ht) n)⟩
  · rw [upd_ne (ne_of_none e n)]
    exact e
  · obtain ⟨x, y, h1, h2, h3, e⟩ := h.at_
    exact ⟨x, y, h1, h2, h3, by rw [upd_ne (ne_of_none e n)]; exact e⟩
theorem Ex.tabbed {t : Addr} (h : Pk p H) (ht : t ∈ p.tabs) (e : GxR.Tabbed t H H1) : Ex p H H1 := by
  obtain ⟨ps, h1, _⟩ := h.tb t ht
  refine ⟨fun b u nb nt q => ?_, ?_, fun u hu => ?_⟩
  · by_cases hb : b = t
    · subst hb
      rw [h1] at q
      cases q
      exact absurd rfl (nt ps)
    · rw [e.2 b hb]
      exact q
  · obtain ⟨x, y, g1, g2, g3, g4⟩ := h.at_
    refine ⟨x, y, g1, g2, g3, ?_⟩
    rw [e.2 _ (fun z => by rw [z, h1] at g4; cases g4)]
    exact g4
  · by_cases hb : u = t
    · subst hb
      exact e.1
    · obtain ⟨qs, q1, q2⟩ := h.tb u hu
      exact ⟨qs, by rw [e.2 u hb]; exact q1, q2⟩
end

/-- what may be changed -/
def isMut : HO → Prop
  | .lst _ => True
  | .dK _ => True
  | .dT _ => True
  | _ => False
theorem isMut.noT {o : HO} (h : isMut o) : NoT o := fun ps e => by subst e; exact h
structure PkF (p : Qt) (F : List Addr) (H : Hp) : Prop where
  pk : Pk p H
  al : ∀ b ∈ F, b ≠ p.pot ∧ ∃ o, H b = some o ∧ isMut o
theorem PkF.ne {p : Qt} {F : List Addr} {H : Hp} (h : PkF p F H) {a : Addr} (n : H a = none) : a ≠ p.pot := h.pk.ne n
theorem PkF.nF {p : Qt} {F : List Addr} {H : Hp} (h : PkF p F H) {a : Addr} (n : H a = none) : a ≠ p.pot ∧ a ∉ F := ⟨h.pk.ne n, fun z => by
  obtain ⟨_, o, h, _⟩ := h.al a z
  rw [n] at h
  cases h⟩

/-! ### slots -/
abbrev Sl := List (Option D)
-- no list in it, and not the pot
mutual
def noL : D → Bool
  | .lst _ => false
  | .own _ => false
  | .pot => false
  | .tup l => noLs l
  | _ => true
def noLs : List D → Bool
  | [] => true
  | d :: l => noL d && noLs l
end
theorem Is.noL {K : PySem.W.Frag} {p : Qt} {F G : List Addr} {H : Hp} {v : V} {d : D} (h : Is K p F H v d) : noL d = true → Is K p G H v d :=
  Is.rec (motive_1 := fun v d _ => DL.noL d = true → Is K p G H v d) (motive_2 := fun vs l _ => noLs l = true → IsL K p G H vs l)
    (fun _ => .non) (fun b _ => .bl b) (fun i _ => .int i) (fun x _ => .str x) (fun n _ => .ty n) (fun h _ => .fn h)
    (fun h n _ ih z => .tup h n (ih z)) (fun _ _ _ _ z => nomatch z) (fun z => nomatch z) (fun _ => .nil)
    (fun _ _ i1 i2 z => by
      have z' := Bool.and_eq_true_iff.mp z
      exact .cons (i1 z'.1) (i2 z'.2)) h
def isOwn : D → Bool
  | .own _ => true
  | _ => false
structure Rel (K : PySem.W.Frag) (p : Qt) (g : Gd) (F : List Addr) (σ : St) (H : Hp) (τ : Sl) : Prop where
  pk : Pk p H
  kp : ∀ b o, b ≠ p.pot → b ∉ g.B → NoT o → g.H0 b = some o → H b = some o
  sub : ∀ b ∈ g.F0, b ∈ F
  al : ∀ b ∈ F, b ≠ p.pot ∧ ∃ o, H b = some o ∧ isMut o
  fo : ∀ b ∈ F, b ∈ g.F0 ∨ b ∈ g.B ∨ ∀ o, NoT o → g.H0 b ≠ some o
  sl : ∀ (i : Nat) (d : D), τ[i]? = some (some d) → isOwn d = false → ∃ v, σ[i]? = some (some v) ∧ Is K p F H v d
  ow : ∀ (i : Nat) (l : List D), τ[i]? = some (some (.own l)) → ∃ a vs, σ[i]? = some (some (.ref a)) ∧ H a = some (.lst vs) ∧ a ∈ F ∧ a ∉ g.F0 ∧ IsL K p F H vs l
  un : ∀ (i j : Nat) (l l' : List D) (a : Addr), τ[i]? = some (some (.own l)) → τ[j]? = some (some (.own l')) → σ[i]? = some (some (.ref a)) → σ[j]? = some (some (.ref a)) → i = j
  len : τ.length = σ.length
section
variable {K : PySem.W.Frag} {p : Qt} {g : Gd} {F : List Addr} {H H1 : Hp} {σ : St} {τ : Sl}
theorem Rel.st (r : Rel K p g F σ H τ) (e : Ex p H H1) : Rel K p g F σ H1 τ where
  pk := e.pk
  kp := fun b o n nb t q => e.kp b o n t (r.kp b o n nb t q)
  sub := r.sub
  al := fun b hb => let ⟨n, o, h1, h2⟩ := r.al b hb; ⟨n, o, e.kp b o n h2.noT h1, h2⟩
  fo := r.fo
  sl := fun i d h n => let ⟨v, h1, h2⟩ := r.sl i d h n; ⟨v, h1, h2.mono e.kp⟩
  ow := fun i l h => by
    obtain ⟨a, vs, h1, h2, h3, h4, h6⟩ := r.ow i l h
    exact ⟨a, vs, h1, e.kp _ _ (r.al a h3).1 (fun _ z => nomatch z) h2, h3, h4, h6.mono e.kp⟩
  un := r.un
  len := r.len
theorem Rel.pkf (r : Rel K p g F σ H τ) : PkF p F H := ⟨r.pk, r.al⟩
theorem Rel.notF (r : Rel K p g F σ H τ) {a : Addr} (n : H a = none) : a ≠ p.pot ∧ a ∉ F := r.pkf.nF n
theorem set_get {α : Type} {τ : List (Option α)} {i j : Nat} {x : Option α} {e : α} (q : (τ.set i x)[j]? = some (some e)) : (i = j ∧ x = some e ∧ i < τ.length) ∨ (i ≠ j ∧ τ[j]? = some (some e)) := by
  by_cases hj : i = j
  · subst hj
    by_cases hl : i < τ.length
    · rw [List.getElem?_set_self hl] at q
      cases q
      exact .inl ⟨rfl, rfl, hl⟩
    · rw [List.getElem?_eq_none (by simpa using hl)] at q
      cases q
  · rw [List.getElem?_set_ne hj] at q
    exact .inr ⟨hj, q⟩
theorem Is.noOwn {v : V} {d : D} (h : Is K p F H v d) : isOwn d = false := by cases h <;> rfl
theorem Rel.set (r : Rel K p g F σ H τ) {i : Nat} {v : V} {d : D} (h : Is K p F H v d) : Rel K p g F (σ.set i (some v)) H (τ.set i (some d)) := by
  have no : ∀ l, d ≠ .own l := fun l e => by subst e; cases h
  have ownj : ∀ (j : Nat) (l : List D), (τ.set i (some d))[j]? = some (some (.own l)) → i ≠ j ∧ τ[j]? = some (some (.own l)) := fun j l q => by
    rcases set_get q with ⟨rfl, e2, hl⟩ | q
    · cases e2
      exact absurd rfl (no l)
    · exact q
  refine ⟨r.pk, r.kp, r.sub, r.al, r.fo, fun j e q n => ?_, fun j l q => ?_, fun a b l l' c q1 q2 s1 s2 => ?_, by simp [r.len]⟩
  · rcases set_get q with ⟨rfl, e2, hl⟩ | ⟨hj, q⟩
    · cases e2
      exact ⟨v, by rw [List.getElem?_set_self (by rw [← r.len]; exact hl)], h⟩
    · obtain ⟨u, h1, h2⟩ := r.sl j e q n
      exact ⟨u, by rw [List.getElem?_set_ne hj]; exact h1, h2⟩
  · obtain ⟨hj, q⟩ := ownj j l q
    obtain ⟨a, vs, h1, h2⟩ := r.ow j l q
    exact ⟨a, vs, by rw [List.getElem?_set_ne hj]; exact h1, h2⟩
  · obtain ⟨n1, q1⟩ := ownj a l q1
    obtain ⟨n2, q2⟩ := ownj b l' q2
    rw [List.getElem?_set_ne n1] at s1
    rw [List.getElem?_set_ne n2] at s2
    exact r.un a b l l' c q1 q2 s1 s2
/-- a slot forgotten -/
theorem Rel.out (r : Rel K p g F σ H τ) {i : Nat} : Rel K p g F (σ.set i none) H (τ.set i none) := by
  have oth : ∀ (j : Nat) (d : D), (τ.set i none)[j]? = some (some d) → i ≠ j ∧ τ[j]? = some (some d) := fun j l q => by
    rcases set_get q with ⟨rfl, e2, hl⟩ | q
    · cases e2
    · exact q
  refine ⟨r.pk, r.kp, r.sub, r.al, r.fo, fun j e q n => ?_, fun j l q => ?_, fun a b l l' c q1 q2 s1 s2 => ?_, by simp [r.len]⟩
  · obtain ⟨hj, q⟩ := oth j e q
    obtain ⟨u, h1, h2⟩ := r.sl j e q n
    exact ⟨u, by rw [List.getElem?_set_ne hj]; exact h1, h2⟩
  · obtain ⟨hj, q⟩ := oth j _ q
    obtain ⟨a, vs, h1, h2⟩ := r.ow j l q
    exact ⟨a, vs, by rw [List.getElem?_set_ne hj]; exact h1, h2⟩
  · obtain ⟨n1, q1⟩ := oth a _ q1
    obtain ⟨n2, q2⟩ := oth b _ q2
    rw [List.getElem?_set_ne n1] at s1
    rw [List.getElem?_set_ne n2] at s2
    exact r.un a b l l' c q1 q2 s1 s2
def wipeD (τ : Sl) : List Nat → Sl
  | [] => τ
  | v :: vs => (wipeD τ vs).set v none
theorem Rel.wipe (r : Rel K p g F σ H τ) : ∀ vs : List Nat, Rel K p g F (wipe σ vs) H (wipeD τ vs)
  | [] => r
  | v :: vs => (Rel.wipe r vs).out
end

/-! ### expressions -/
abbrev DE := Sl → (D → Prop) → Prop
abbrev DT := Sl → (Bool → Prop) → Prop
abbrev DA := Sl → (List D → Prop) → Prop
structure PD (X : Cx) (p : Qt) (e : Expr) (d : DE) : Prop where
  run : ∃ t, PE X e t ∧ ∀ (g0 : Gd) (F : List Addr) (σ : St) (H : Hp) (τ : Sl) (Q : VK) (R : D → Prop), Rel X.K p g0 F σ H τ → d τ R → (∀ x v H', Ex p H H' → Is X.K p F H' v x → R x → Q v H') → t σ H Q
structure PDT (X : Cx) (p : Qt) (e : Expr) (d : DT) : Prop where
  run : ∃ t, PT X e t ∧ ∀ (g0 : Gd) (F : List Addr) (σ : St) (H : Hp) (τ : Sl) (Q : Bool → Hp → Prop) (R : Bool → Prop), Rel X.K p g0 F σ H τ → d τ R → (∀ b H', Ex p H H' → R b → Q b H') → t σ H Q
structure PDW (X : Cx) (p : Qt) (e : Expr) (d : DT) : Prop where
  run : ∃ t, PW X e t ∧ ∀ (g0 : Gd) (F : List Addr) (σ : St) (H : Hp) (τ : Sl) (Q : Bool → Hp → Prop) (R : Bool → Prop), Rel X.K p g0 F σ H τ → d τ R → (∀ b H', Ex p H H' → R b → Q b H') → t σ H Q
structure PDA (X : Cx) (p : Qt) (es : List Expr) (d : DA) : Prop where
  run : ∃ t, PA X es t ∧ ∀ (g0 : Gd) (F : List Addr) (σ : St) (H : Hp) (τ : Sl) (Q : List V → Hp → Prop) (R : List D → Prop), Rel X.K p g0 F σ H τ → d τ R → (∀ xs vs H', Ex p H H' → IsL X.K p F H' vs xs → vs.length = es.length → R xs → Q vs H') → t σ H Q

def OpD (X : Cx) (p : Qt) (f : Value → Value → Sem Value) (g : D → D → (D → Prop) → Prop) : Prop :=
  ∃ r, OpR X f r ∧ ∀ (F : List Addr) (H : Hp) (x y : D) (v u : V) (Q : VK) (R : D → Prop), PkF p F H → Is X.K p F H v x → Is X.K p F H u y → g x y R → (∀ z v' H', Ex p H H' → Is X.K p F H' v' z → R z → Q v' H') → r v u H Q
def UnD (X : Cx) (p : Qt) (f : Value → Sem Value) (g : D → (D → Prop) → Prop) : Prop :=
  ∃ r, UnR X f r ∧ ∀ (F : List Addr) (H : Hp) (x : D) (v : V) (Q : VK) (R : D → Prop), PkF p F H → Is X.K p F H v x → g x R → (∀ z v' H', Ex p H H' → Is X.K p F H' v' z → R z → Q v' H') → r v H Q
def CallD (X : Cx) (p : Qt) (f : Value) (g : List D → (D → Prop) → Prop) : Prop :=
  ∃ r, CallR X f r ∧ ∀ (F : List Addr) (H : Hp) (xs : List D) (vs : List V) (Q : VK) (R : D → Prop), PkF p F H → IsL X.K p F H vs xs → g xs R → (∀ z v' H', Ex p H H' → Is X.K p F H' v' z → R z → Q v' H') → r vs H Q
theorem OpR.or {X : Cx} {f : Value → Value → Sem Value} {r r' : R2} (h : OpR X f r) (h' : OpR X f r') : OpR X f (fun x y H Q => r x y H Q ∨ r' x y H Q) :=
  fun pins s σ H x y v u Q I rx ry q => q.elim (h pins s σ H x y v u Q I rx ry) (h' pins s σ H x y v u Q I rx ry)
theorem CallR.or {X : Cx} {f : Value} {r r' : List V → Hp → VK → Prop} (h : CallR X f r) (h' : CallR X f r') : CallR X f (fun x H Q => r x H Q ∨ r' x H Q) :=
  fun pins s σ H xs us Q I rx q => q.elim (h pins s σ H xs us Q I rx) (h' pins s σ H xs us Q I rx)

def dVar (i : Nat) : DE := fun τ R => match τ[i]? with
  | some (some (.own _)) => False
  | some (some d) => R d
  | _ => False
def dC (d : D) : DE := fun _ R => R d
def dOp (g : D → D → (D → Prop) → Prop) (da db : DE) : DE := fun τ R => da τ fun x => db τ fun y => g x y R
def dUn (g : D → (D → Prop) → Prop) (da : DE) : DE := fun τ R => da τ fun x => g x R
def dTst (d : DE) : DT := fun τ R => d τ fun x => match x with
  | .bl b => R b
  | _ => False
def dChain (g g' : D → D → (D → Prop) → Prop) (da db dc : DE) : DE := fun τ R => da τ fun x => db τ fun y => g x y fun z => match z with
  | .bl k => if k = true then dc τ fun w => g' y w R else R (.bl false)
  | _ => False
def dAnd (t u : DT) : DT := fun τ R => t τ fun c => if c = true then u τ R else R false
def dOr (t u : DT) : DT := fun τ R => t τ fun c => if c = true then R true else u τ R
def dNot (t : DT) : DT := fun τ R => t τ fun c => R (!c)
def dAndV (da db : DE) : DE := fun τ R => da τ fun x => match x with
  | .bl c => if c = true then db τ R else R (.bl false)
  | _ => False
def dOrV (da db : DE) : DE := fun τ R => da τ fun x => match x with
  | .bl c => if c = true then R (.bl true) else db τ R
  | _ => False
def dNotV (da : DE) : DE := fun τ R => da τ fun x => match x with
  | .bl c => R (.bl (!c))
  | _ => False
def dIf (t : DT) (da db : DE) : DE := fun τ R => t τ fun c => if c = true then da τ R else db τ R
def dNil : DA := fun _ R => R []
def dCons (da : DE) (dr : DA) : DA := fun τ R => da τ fun x => dr τ fun xs => R (x :: xs)
def dTup (t : DA) : DE := fun τ R => t τ fun xs => R (.tup xs)
def dLst (t : DA) : DE := fun τ R => t τ fun xs => R (.lst xs)
def dB (g : List D → (D → Prop) → Prop) (t : DA) : DE := fun τ R => t τ fun xs => g xs R

section
variable {X : Cx} {p : Qt} {a b c : Expr} {da db dc : DE} {pos : Pos}
theorem pd_var (i : Nat) {x : Str} {pos : Pos} (hN : X.N[i]? = some x := by rfl) (hv : Vis X.env.scope x := by first | exact Or.inl rfl | exact Or.inr (Or.inl rfl) | exact Or.inr (Or.inr rfl)) (hd : (x == ("__debug__" : Str)) = false := by decide)
    (hcd : (x == ("__classdict__" : Str)) = false := by decide) : PD X p (.Name x pos) (dVar i) := by
  refine ⟨tVar i, pe_var hN hv hd hcd, fun g0 F σ H τ Q R rel h q => ?_⟩
  unfold dVar at h
  split at h
  · exact h.elim
  · rename_i d n e
    obtain ⟨v, h1, h2⟩ := rel.sl i d e (by cases d <;> first | rfl | exact (n _ rfl).elim)
    exact ⟨v, h1, q d v H (.refl rel.pk) h2 h⟩
  · exact h.elim
theorem pd_int {i j pos} : PD X p (.Constant (.int i) j pos) (dC (.int i)) := ⟨_, pe_int, fun g0 F σ H τ Q R rel h q => q _ _ H (.refl rel.pk) (.int i) h⟩
theorem pd_bl {b j pos} : PD X p (.Constant (.bool b) j pos) (dC (.bl b)) := ⟨_, pe_bl, fun g0 F σ H τ Q R rel h q => q _ _ H (.refl rel.pk) (.bl b) h⟩
theorem pd_non {j pos} : PD X p (.Constant .none j pos) (dC .non) := ⟨_, pe_non, fun g0 F σ H τ Q R rel h q => q _ _ H (.refl rel.pk) .non h⟩
theorem pd_str {x j pos} : PD X p (.Constant (.str x) j pos) (dC (.str x)) := ⟨_, pe_str, fun g0 F σ H τ Q R rel h q => q _ _ H (.refl rel.pk) (.str x) h⟩
/-- a constant of the module's top: an int -/
theorem pd_gint {x : Str} {i : Int} {t : Tok} {pos : Pos} (hg : Gl X x) (hm : X.mg x = some (.int i t)) (hd : (x == ("__debug__" : Str)) = false := by decide) : PD X p (.Name x pos) (dC (.int i)) :=
  ⟨_, pe_glob (v := .int i) hg hm ⟨t, rfl⟩ hd, fun g0 F σ H τ Q R rel h q => q _ _ H (.refl rel.pk) (.int i) h⟩
/-- a tuple of the module's top, by its data -/
def KTup (K : PySem.W.Frag) (a : Addr) (d : D) : Prop := ∀ (p : Qt) (F : List Addr) (H : Hp), a ≠ p.pot → Is K p F H (.ref a) d
theorem pd_gtup {x : Str} {a : Addr} {d : D} {pos : Pos} (hg : Gl X x) (hm : X.mg x = some (.ref a)) (hk : KTup X.K a d) (ne : a ≠ p.pot) (hd : (x == ("__debug__" : Str)) = false := by decide) : PD X p (.Name x pos) (dC d) :=
  ⟨_, pe_glob (v := .ref a) hg hm rfl hd, fun g0 F σ H τ Q R rel h q => q _ _ H (.refl rel.pk) (hk p F H ne) h⟩
/-- a built-in type as a value -/
theorem pd_ty {x : Str} {n : String} {pos : Pos} (hg : Gl X x) (hm : X.mg x = none) (hv : bootBuiltins x = some (.type n)) (hn : x ≠ "__name__" := by decide) (hd : (x == ("__debug__" : Str)) = false := by decide) : PD X p (.Name x pos) (dC (.ty n)) :=
  ⟨_, pe_bltn (v := .ty n) hg hm hv rfl hn hd, fun g0 F σ H τ Q R rel h q => q _ _ H (.refl rel.pk) (.ty n) h⟩

/-- the run of two expressions and an operation -/
theorem op_run {r : R2} {ta tb : TE} {g : D → D → (D → Prop) → Prop}
    (hr : ∀ (F : List Addr) (H : Hp) (x y : D) (v u : V) (Q : VK) (R : D → Prop), PkF p F H → Is X.K p F H v x → Is X.K p F H u y → g x y R → (∀ z v' H', Ex p H H' → Is X.K p F H' v' z → R z → Q v' H') → r v u H Q)
    (ka : ∀ (g0 : Gd) (F : List Addr) (σ : St) (H : Hp) (τ : Sl) (Q : VK) (R : D → Prop), Rel X.K p g0 F σ H τ → da τ R → (∀ x v H', Ex p H H' → Is X.K p F H' v x → R x → Q v H') → ta σ H Q)
    (kb : ∀ (g0 : Gd) (F : List Addr) (σ : St) (H : Hp) (τ : Sl) (Q : VK) (R : D → Prop), Rel X.K p g0 F σ H τ → db τ R → (∀ x v H', Ex p H H' → Is X.K p F H' v x → R x → Q v H') → tb σ H Q)
    (g0 : Gd) (F : List Addr) (σ : St) (H : Hp) (τ : Sl) (Q : VK) (R : D → Prop) (rel : Rel X.K p g0 F σ H τ) (h : dOp g da db τ R) (q : ∀ x v H', Ex p H H' → Is X.K p F H' v x → R x → Q v H') : tOp r ta tb σ H Q := by
  refine ka g0 F σ H τ _ _ rel h fun x v H1 e1 i1 h1 => ?_
  refine kb g0 F σ H1 τ _ _ (rel.st e1) h1 fun y u H2 e2 i2 h2 => ?_
  exact hr F H2 x y v u Q R (rel.st (e1.trans e2)).pkf (i1.mono e2.kp) i2 h2 fun z v' H' e3 i3 r3 => q z v' H' ((e1.trans e2).trans e3) i3 r3
theorem pd_bin {op : Operator} {g} (ho : OpD X p (binaryOp op) g) (ha : PD X p a da) (hb : PD X p b db) : PD X p (.BinOp a op b pos) (dOp g da db) := by
  obtain ⟨r, h1, h2⟩ := ho
  obtain ⟨ta, a1, a2⟩ := ha.run
  obtain ⟨tb, b1, b2⟩ := hb.run
  exact ⟨_, pe_op h1 a1 b1, op_run h2 a2 b2⟩
theorem pd_cmp {op : CmpOp} {g} (ho : OpD X p (compareOp op) g) (ha : PD X p a da) (hb : PD X p b db) (hm : behindInMarks op b = false := by first | exact nomark _ | rfl) : PD X p (.Compare a [op] [b] pos) (dOp g da db) := by
  obtain ⟨r, h1, h2⟩ := ho
  obtain ⟨ta, a1, a2⟩ := ha.run
  obtain ⟨tb, b1, b2⟩ := hb.run
  exact ⟨_, pe_cmpR h1 a1 b1 hm, op_run h2 a2 b2⟩
theorem tst_run {ta : TE} (ka : ∀ (g0 : Gd) (F : List Addr) (σ : St) (H : Hp) (τ : Sl) (Q : VK) (R : D → Prop), Rel X.K p g0 F σ H τ → da τ R → (∀ x v H', Ex p H H' → Is X.K p F H' v x → R x → Q v H') → ta σ H Q)
    (g0 : Gd) (F : List Addr) (σ : St) (H : Hp) (τ : Sl) (Q : Bool → Hp → Prop) (R : Bool → Prop) (rel : Rel X.K p g0 F σ H τ) (h : dTst da τ R) (q : ∀ b H', Ex p H H' → R b → Q b H') : ta σ H fun x H' => ∃ k, x = .bl k ∧ Q k H' := by
  refine ka g0 F σ H τ _ _ rel h fun x v H1 e1 i1 h1 => ?_
  cases i1 with
  | bl b => exact ⟨b, rfl, q b H1 e1 h1⟩
  | _ => exact h1.elim
theorem pdt_cmp {op : CmpOp} {g} (ho : OpD X p (compareOp op) g) (ha : PD X p a da) (hb : PD X p b db) (hm : behindInMarks op b = false := by first | exact nomark _ | rfl) : PDT X p (.Compare a [op] [b] pos) (dTst (dOp g da db)) := by
  obtain ⟨r, h1, h2⟩ := ho
  obtain ⟨ta, a1, a2⟩ := ha.run
  obtain ⟨tb, b1, b2⟩ := hb.run
  exact ⟨_, pt_cmpR h1 a1 b1 hm, tst_run (op_run h2 a2 b2)⟩
theorem chain_run {r r' : R2} {ta tb tc : TE} {g g' : D → D → (D → Prop) → Prop}
    (hr : ∀ (F : List Addr) (H : Hp) (x y : D) (v u : V) (Q : VK) (R : D → Prop), PkF p F H → Is X.K p F H v x → Is X.K p F H u y → g x y R → (∀ z v' H', Ex p H H' → Is X.K p F H' v' z → R z → Q v' H') → r v u H Q)
    (hr' : ∀ (F : List Addr) (H : Hp) (x y : D) (v u : V) (Q : VK) (R : D → Prop), PkF p F H → Is X.K p F H v x → Is X.K p F H u y → g' x y R → (∀ z v' H', Ex p H H' → Is X.K p F H' v' z → R z → Q v' H') → r' v u H Q)
    (ka : ∀ (g0 : Gd) (F : List Addr) (σ : St) (H : Hp) (τ : Sl) (Q : VK) (R : D → Prop), Rel X.K p g0 F σ H τ → da τ R → (∀ x v H', Ex p H H' → Is X.K p F H' v x → R x → Q v H') → ta σ H Q)
    (kb : ∀ (g0 : Gd) (F : List Addr) (σ : St) (H : Hp) (τ : Sl) (Q : VK) (R : D → Prop), Rel X.K p g0 F σ H τ → db τ R → (∀ x v H', Ex p H H' → Is X.K p F H' v x → R x → Q v H') → tb σ H Q)
    (kc : ∀ (g0 : Gd) (F : List Addr) (σ : St) (H : Hp) (τ : Sl) (Q : VK) (R : D → Prop), Rel X.K p g0 F σ H τ → dc τ R → (∀ x v H', Ex p H H' → Is X.K p F H' v x → R x → Q v H') → tc σ H Q)
    (g0 : Gd) (F : List Addr) (σ : St) (H : Hp) (τ : Sl) (Q : VK) (R : D → Prop) (rel : Rel X.K p g0 F σ H τ) (h : dChain g g' da db dc τ R) (q : ∀ x v H', Ex p H H' → Is X.K p F H' v x → R x → Q v H') : tChain r r' ta tb tc σ H Q := by
  refine ka g0 F σ H τ _ _ rel h fun x v H1 e1 i1 h1 => ?_
  refine kb g0 F σ H1 τ _ _ (rel.st e1) h1 fun y u H2 e2 i2 h2 => ?_
  refine hr F H2 x y v u _ _ (rel.st (e1.trans e2)).pkf (i1.mono e2.kp) i2 h2 fun z v' H3 e3 i3 h3 => ?_
  cases i3 with
  | bl k =>
    refine ⟨k, rfl, ?_⟩
    cases k with
    | true =>
      rw [if_pos rfl]
      refine kc g0 F σ H3 τ _ _ (rel.st ((e1.trans e2).trans e3)) h3 fun w u' H4 e4 i4 h4 => ?_
      exact hr' F H4 y w u u' Q R (rel.st (((e1.trans e2).trans e3).trans e4)).pkf (i2.mono (e3.trans e4).kp) i4 h4 fun z v' H' e5 i5 r5 => q z v' H' ((((e1.trans e2).trans e3).trans e4).trans e5) i5 r5
    | false =>
      rw [if_neg Bool.false_ne_true]
      exact q _ _ H3 ((e1.trans e2).trans e3) (.bl false) h3
  | _ => exact h3.elim
theorem pd_chain {op op' : CmpOp} {g g'} (ho : OpD X p (compareOp op) g) (ho' : OpD X p (compareOp op') g') (ha : PD X p a da) (hb : PD X p b db) (hc : PD X p c dc) (hm : lastMarks [op, op'] [b, c] = false := by with_unfolding_all rfl) : PD X p (.Compare a [op, op'] [b, c] pos) (dChain g g' da db dc) := by
  obtain ⟨r, h1, h2⟩ := ho
  obtain ⟨r', h1', h2'⟩ := ho'
  obtain ⟨ta, a1, a2⟩ := ha.run
  obtain ⟨tb, b1, b2⟩ := hb.run
  obtain ⟨tc, c1, c2⟩ := hc.run
  exact ⟨_, pe_chain h1 h1' a1 b1 c1 hm, chain_run h2 h2' a2 b2 c2⟩
theorem pdt_chain {op op' : CmpOp} {g g'} (ho : OpD X p (compareOp op) g) (ho' : OpD X p (compareOp op') g') (ha : PD X p a da) (hb : PD X p b db) (hc : PD X p c dc) (hm : lastMarks [op, op'] [b, c] = false := by with_unfolding_all rfl) : PDT X p (.Compare a [op, op'] [b, c] pos) (dTst (dChain g g' da db dc)) := by
  obtain ⟨r, h1, h2⟩ := ho
  obtain ⟨r', h1', h2'⟩ := ho'
  obtain ⟨ta, a1, a2⟩ := ha.run
  obtain ⟨tb, b1, b2⟩ := hb.run
  obtain ⟨tc, c1, c2⟩ := hc.run
  exact ⟨_, pt_chain h1 h1' a1 b1 c1 hm, tst_run (chain_run h2 h2' a2 b2 c2)⟩
/-- a value that is a bool, as a test -/
theorem pdt_val (ha : PD X p a da) (he : ∀ whole, isTrue a X.env whole = (do let v ← whole; standAt a.pos; holding [v] (truthy v)) := by intro _; rfl) : PDT X p a (dTst da) := by
  obtain ⟨ta, a1, a2⟩ := ha.run
  exact ⟨_, pt_val a1 he, tst_run a2⟩
variable {ta tb : DT} {rest : List Expr}
theorem pdw_t (h : PDW X p a ta) : PDT X p a ta := by
  obtain ⟨t, h1, h2⟩ := h.run
  exact ⟨t, h1.pt, h2⟩
theorem pdw_and1 (ha : PDT X p a ta) : PDW X p (.BoolOp .And [a] pos) ta := by
  obtain ⟨t, h1, h2⟩ := ha.run
  exact ⟨t, pw_and1 h1, h2⟩
theorem pdw_or1 (ha : PDT X p a ta) : PDW X p (.BoolOp .Or [a] pos) ta := by
  obtain ⟨t, h1, h2⟩ := ha.run
  exact ⟨t, pw_or1 h1, h2⟩
theorem pdw_and (ha : PDT X p a ta) (hb : PDW X p (.BoolOp .And (b :: rest) pos) tb) : PDW X p (.BoolOp .And (a :: b :: rest) pos) (dAnd ta tb) := by
  obtain ⟨t, h1, h2⟩ := ha.run
  obtain ⟨u, k1, k2⟩ := hb.run
  refine ⟨_, pw_and h1 k1, fun g0 F σ H τ Q R rel h q => ?_⟩
  refine h2 g0 F σ H τ _ _ rel h fun b H1 e1 h1 => ?_
  cases b with
  | true => exact k2 g0 F σ H1 τ Q R (rel.st e1) h1 fun b H' e r => q b H' (e1.trans e) r
  | false => exact q false H1 e1 h1
theorem pdw_or (ha : PDT X p a ta) (hb : PDW X p (.BoolOp .Or (b :: rest) pos) tb) : PDW X p (.BoolOp .Or (a :: b :: rest) pos) (dOr ta tb) := by
  obtain ⟨t, h1, h2⟩ := ha.run
  obtain ⟨u, k1, k2⟩ := hb.run
  refine ⟨_, pw_or h1 k1, fun g0 F σ H τ Q R rel h q => ?_⟩
  refine h2 g0 F σ H τ _ _ rel h fun b H1 e1 h1 => ?_
  cases b with
  | false => exact k2 g0 F σ H1 τ Q R (rel.st e1) h1 fun b H' e r => q b H' (e1.trans e) r
  | true => exact q true H1 e1 h1
theorem pdt_not (ha : PDT X p a ta) : PDT X p (.UnaryOp .Not a pos) (dNot ta) := by
  obtain ⟨t, h1, h2⟩ := ha.run
  exact ⟨_, pt_not h1, fun g0 F σ H τ Q R rel h q => h2 g0 F σ H τ _ _ rel h fun b H1 e1 h1 => q _ H1 e1 h1⟩
theorem pd_one {op} (h : PD X p a da) : PD X p (.BoolOp op [a] pos) da := by
  obtain ⟨t, h1, h2⟩ := h.run
  exact ⟨t, pe_one h1, h2⟩
theorem pd_and (ha : PD X p a da) (hb : PD X p (.BoolOp .And (b :: rest) pos) db) : PD X p (.BoolOp .And (a :: b :: rest) pos) (dAndV da db) := by
  obtain ⟨t, h1, h2⟩ := ha.run
  obtain ⟨u, k1, k2⟩ := hb.run
  refine ⟨_, pe_and h1 k1, fun g0 F σ H τ Q R rel h q => ?_⟩
  refine h2 g0 F σ H τ _ _ rel h fun x v H1 e1 i1 h1 => ?_
  cases i1 with
  | bl c =>
    refine ⟨c, rfl, ?_⟩
    cases c with
    | true => exact k2 g0 F σ H1 τ Q R (rel.st e1) h1 fun x v H' e i r => q x v H' (e1.trans e) i r
    | false => exact q _ _ H1 e1 (.bl false) h1
  | _ => exact h1.elim
theorem pd_or (ha : PD X p a da) (hb : PD X p (.BoolOp .Or (b :: rest) pos) db) : PD X p (.BoolOp .Or (a :: b :: rest) pos) (dOrV da db) := by
  obtain ⟨t, h1, h2⟩ := ha.run
  obtain ⟨u, k1, k2⟩ := hb.run
  refine ⟨_, pe_or h1 k1, fun g0 F σ H τ Q R rel h q => ?_⟩
  refine h2 g0 F σ H τ _ _ rel h fun x v H1 e1 i1 h1 => ?_
  cases i1 with
  | bl c =>
    refine ⟨c, rfl, ?_⟩
    cases c with
    | false => exact k2 g0 F σ H1 τ Q R (rel.st e1) h1 fun x v H' e i r => q x v H' (e1.trans e) i r
    | true => exact q _ _ H1 e1 (.bl true) h1
  | _ => exact h1.elim
theorem pd_not (ha : PD X p a da) : PD X p (.UnaryOp .Not a pos) (dNotV da) := by
  obtain ⟨t, h1, h2⟩ := ha.run
  refine ⟨_, pe_not h1, fun g0 F σ H τ Q R rel h q => ?_⟩
  refine h2 g0 F σ H τ _ _ rel h fun x v H1 e1 i1 h1 => ?_
  cases i1 with
  | bl c => exact ⟨c, rfl, q _ _ H1 e1 (.bl _) h1⟩
  | _ => exact h1.elim
theorem pd_ifx (hc : PDT X p c ta) (ha : PD X p a da) (hb : PD X p b db) : PD X p (.IfExp c a b pos) (dIf ta da db) := by
  obtain ⟨t, h1, h2⟩ := hc.run
  obtain ⟨u, k1, k2⟩ := ha.run
  obtain ⟨w, l1, l2⟩ := hb.run
  refine ⟨_, pe_ifExp h1 k1 l1, fun g0 F σ H τ Q R rel h q => ?_⟩
  refine h2 g0 F σ H τ _ _ rel h fun b H1 e1 h1 => ?_
  cases b with
  | true => exact k2 g0 F σ H1 τ Q R (rel.st e1) h1 fun x v H' e i r => q x v H' (e1.trans e) i r
  | false => exact l2 g0 F σ H1 τ Q R (rel.st e1) h1 fun x v H' e i r => q x v H' (e1.trans e) i r
theorem pd_un {op : UnaryOp} {g} (ho : UnD X p (unaryOp op) g) (ha : PD X p a da) : PD X p (.UnaryOp op a pos) (dUn g da) := by
  obtain ⟨r, h1, h2⟩ := ho
  obtain ⟨t, a1, a2⟩ := ha.run
  refine ⟨_, pe_un h1 a1, fun g0 F σ H τ Q R rel h q => ?_⟩
  refine a2 g0 F σ H τ _ _ rel h fun x v H1 e1 i1 h1 => ?_
  exact h2 F H1 x v Q R (rel.st e1).pkf i1 h1 fun z v' H' e i r => q z v' H' (e1.trans e) i r
variable {es : List Expr} {ds : DA}
theorem pda_nil : PDA X p [] dNil := ⟨_, pa_nil, fun g0 F σ H τ Q R rel h q => q [] [] H (.refl rel.pk) .nil rfl h⟩
theorem pda_cons (ha : PD X p a da) (hr : PDA X p es ds) (hs : starEach (a :: es) X.env = (false, eval a X.env) :: starEach es X.env := by rfl) : PDA X p (a :: es) (dCons da ds) := by
  obtain ⟨t, h1, h2⟩ := ha.run
  obtain ⟨u, k1, k2⟩ := hr.run
  refine ⟨_, pa_cons h1 k1 hs, fun g0 F σ H τ Q R rel h q => ?_⟩
  refine h2 g0 F σ H τ _ _ rel h fun x v H1 e1 i1 h1 => ?_
  refine k2 g0 F σ H1 τ _ _ (rel.st e1) h1 fun xs vs H2 e2 i2 l2 h2 => ?_
  exact q _ _ H2 (e1.trans e2) (.cons (i1.mono e2.kp) i2) (by simp [l2]) h2
theorem pd_tup {k : Nat} (h : PDA X p es ds) (hl : es.length ≤ 1000 := by decide) : PD X p (.Tuple es k pos) (dTup ds) := by
  obtain ⟨t, h1, h2⟩ := h.run
  refine ⟨_, pe_tup h1, fun g0 F σ H τ Q R rel h q => ?_⟩
  refine h2 g0 F σ H τ _ _ rel h fun xs vs H1 e1 i1 l1 h1 => ⟨by rw [l1]; exact Nat.le_of_lt (small1000 hl), fun a ha => ?_⟩
  have e2 : Ex p H1 (upd H1 a (.tup vs)) := .new e1.pk ha
  exact q _ _ _ (e1.trans e2) (.tup (SqT.of upd_same) (e1.pk.ne ha) (i1.mono e2.kp)) h1
theorem pd_lst (h : PDA X p es ds) (hl : es.length ≤ 1000 := by decide) : PD X p (.List es pos) (dLst ds) := by
  obtain ⟨t, h1, h2⟩ := h.run
  refine ⟨_, pe_lst h1, fun g0 F σ H τ Q R rel h q => ?_⟩
  refine h2 g0 F σ H τ _ _ rel h fun xs vs H1 e1 i1 l1 h1 => ⟨by rw [l1]; exact Nat.le_of_lt (small1000 hl), fun a ha => ?_⟩
  have e2 : Ex p H1 (upd H1 a (.lst vs)) := .new e1.pk ha
  exact q _ _ _ (e1.trans e2) (.lst (Rd.of upd_same) ((rel.st e1).notF ha) (i1.mono e2.kp)) h1
/-- a built-in by its name -/
theorem pd_callB {x : Str} {p' : Pos} {e : Expr} {id : String} {g} (hc : CallD X p (.builtin id) g) (hg : Gl X x) (hm : X.mg x = none) (hv : bootBuiltins x = some (.builtin id)) (ha : PDA X p (e :: es) ds) (hn : x ≠ "__name__" := by decide) (hdb : (x == ("__debug__" : Str)) = false := by decide)
    (he : starEach (e :: es) X.env = (false, eval e X.env) :: starEach es X.env := by rfl) (hpl : (backTo pos (starEach es X.env)).any (·.1) = false := by rfl) : PD X p (.Call (.Name x p') (e :: es) [] pos) (dB g ds) := by
  obtain ⟨r, c1, c2⟩ := hc
  obtain ⟨t, h1, h2⟩ := ha.run
  refine ⟨_, pe_callB c1 hg hm hv h1 hn hdb he hpl, fun g0 F σ H τ Q R rel h q => ?_⟩
  refine h2 g0 F σ H τ _ _ rel h fun xs vs H1 e1 i1 l1 h1 => ?_
  exact c2 F H1 xs vs Q R (rel.st e1).pkf i1 h1 fun z v' H' e i r => q z v' H' (e1.trans e) i r
theorem pd_callTy {x : Str} {p' : Pos} {e : Expr} {T : String} {g} (hc : CallD X p (.type T) g) (hg : Gl X x) (hm : X.mg x = none) (hv : bootBuiltins x = some (.type T)) (ha : PDA X p (e :: es) ds) (hn : x ≠ "__name__" := by decide) (hdb : (x == ("__debug__" : Str)) = false := by decide)
    (he : starEach (e :: es) X.env = (false, eval e X.env) :: starEach es X.env := by rfl) (hpl : (backTo pos (starEach es X.env)).any (·.1) = false := by rfl) : PD X p (.Call (.Name x p') (e :: es) [] pos) (dB g ds) := by
  obtain ⟨r, c1, c2⟩ := hc
  obtain ⟨t, h1, h2⟩ := ha.run
  refine ⟨_, pe_callTy c1 hg hm hv h1 hn hdb he hpl, fun g0 F σ H τ Q R rel h q => ?_⟩
  refine h2 g0 F σ H τ _ _ rel h fun xs vs H1 e1 i1 l1 h1 => ?_
  exact c2 F H1 xs vs Q R (rel.st e1).pkf i1 h1 fun z v' H' e i r => q z v' H' (e1.trans e) i r
/-- a built-in of a module, imported by its name -/
theorem pd_callFun {x : Str} {p' : Pos} {e : Expr} {id : String} {g} (hc : CallD X p (.builtin id) g) (hg : Gl X x) (hm : X.mg x = some (.builtin id)) (ha : PDA X p (e :: es) ds) (hdb : (x == ("__debug__" : Str)) = false := by decide)
    (he : starEach (e :: es) X.env = (false, eval e X.env) :: starEach es X.env := by rfl) (hpl : (backTo pos (starEach es X.env)).any (·.1) = false := by rfl) : PD X p (.Call (.Name x p') (e :: es) [] pos) (dB g ds) := by
  obtain ⟨r, c1, c2⟩ := hc
  obtain ⟨t, h1, h2⟩ := ha.run
  refine ⟨_, pe_callBfun c1 hg hm h1 hdb he hpl, fun g0 F σ H τ Q R rel h q => ?_⟩
  refine h2 g0 F σ H τ _ _ rel h fun xs vs H1 e1 i1 l1 h1 => ?_
  exact c2 F H1 xs vs Q R (rel.st e1).pkf i1 h1 fun z v' H' e i r => q z v' H' (e1.trans e) i r
end


end DL
/-! Statements, loops, defs over the data layer. -/
namespace DL
open PySem PySem.Spec L2

/-! ### what a def promises -/
abbrev SpD := List D → (D → Prop) → Prop
def toSp (K : PySem.W.Frag) (tabs : Tf) (n : Nat) (sp : SpD) : Sp := fun vs H Q _ => vs.length = n ∧ ∃ (pot : Addr) (F : List Addr) (ds : List D) (R : D → Prop), PkF ⟨pot, tabs⟩ F H ∧ IsL K ⟨pot, tabs⟩ F H vs ds ∧ sp ds R ∧ ∀ x v H', Ex ⟨pot, tabs⟩ H H' → Is K ⟨pot, tabs⟩ F H' v x → R x → Q v H'

/-! ### statements -/
structure DEn where
  nx : Sl → Prop
  rt : D → Prop
  bk : Sl → Prop := fun _ => False
  ct : Sl → Prop := fun _ => False
abbrev DS := DEn → Sl → Prop
structure Agree (K : PySem.W.Frag) (p : Qt) (g : Gd) (E' : DEn) (E : Ends) : Prop where
  nx : ∀ F σ H τ, Rel K p g F σ H τ → E'.nx τ → E.nx σ H
  rt : ∀ F σ H τ v x, Rel K p g F σ H τ → Is K p F H v x → E'.rt x → E.rt v H
  bk : ∀ F σ H τ, Rel K p g F σ H τ → E'.bk τ → E.bk σ H
  ct : ∀ F σ H τ, Rel K p g F σ H τ → E'.ct τ → E.ct σ H
structure PDS (X : Cx) (p : Qt) (st : Stmt) (d : DS) : Prop where
  run : ∃ t, PS X st t ∧ ∀ (g : Gd) (F : List Addr) (σ : St) (H : Hp) (τ : Sl) (E : Ends) (E' : DEn), Rel X.K p g F σ H τ → d E' τ → Agree X.K p g E' E → t E σ H
structure PDSs (X : Cx) (p : Qt) (st : List Stmt) (d : DS) : Prop where
  run : ∃ t, PSs X st t ∧ ∀ (g : Gd) (F : List Addr) (σ : St) (H : Hp) (τ : Sl) (E : Ends) (E' : DEn), Rel X.K p g F σ H τ → d E' τ → Agree X.K p g E' E → t E σ H
def dNext : DS := fun E τ => E.nx τ
def dSeq (t u : DS) : DS := fun E τ => t { E with nx := u E } τ
def dRet (d : DE) : DS := fun E τ => d τ E.rt
def dRetN : DS := fun E _ => E.rt .non
def dIfS (c : DT) (t u : DS) : DS := fun E τ => c τ fun b => if b = true then t E τ else u E τ
def dDrop (d : DE) : DS := fun E τ => d τ fun _ => E.nx τ
def dNever : DS := fun _ _ => False
def dBrk : DS := fun E τ => E.bk τ
def dCnt : DS := fun E τ => E.ct τ
abbrev DG := D → Sl → (Sl → Prop) → Prop
def dAsg (d : DE) (g : DG) : DS := fun E τ => d τ fun x => g x τ E.nx
structure PDG (X : Cx) (p : Qt) (tg : Expr) (d : DG) : Prop where
  run : ∃ t : TG, PG X tg t ∧ ∀ (v : V) (x : D) (g : Gd) (F : List Addr) (σ : St) (H : Hp) (τ : Sl) (Q : St → Hp → Prop) (R : Sl → Prop), Rel X.K p g F σ H τ → Is X.K p F H v x → d x τ R → (∀ σ' H' τ', Rel X.K p g F σ' H' τ' → (∀ w y, Is X.K p F H w y → Is X.K p F H' w y) → R τ' → Q σ' H') → t v σ H Q
abbrev DGs := List D → Sl → (Sl → Prop) → Prop
structure PDGs (X : Cx) (p : Qt) (tgs : List Expr) (d : DGs) : Prop where
  run : ∃ t : TGs, PGs X tgs t ∧ ∀ (vs : List V) (xs : List D) (g : Gd) (F : List Addr) (σ : St) (H : Hp) (τ : Sl) (Q : St → Hp → Prop) (R : Sl → Prop), Rel X.K p g F σ H τ → IsL X.K p F H vs xs → d xs τ R → (∀ σ' H' τ', Rel X.K p g F σ' H' τ' → (∀ w y, Is X.K p F H w y → Is X.K p F H' w y) → R τ' → Q σ' H') → t vs σ H Q
def gN (i : Nat) : DG := fun x τ R => R (τ.set i (some x))
def gNl : DGs := fun xs τ R => match xs with
  | [] => R τ
  | _ => False
def gCn (g : DG) (gs : DGs) : DGs := fun xs τ R => match xs with
  | x :: r => g x τ fun τ' => gs r τ' R
  | _ => False
def gTu (n : Nat) (gs : DGs) : DG := fun x τ R => match x with
  | .tup xs => xs.length = n ∧ gs xs τ R
  | _ => False
/-- pot[0] = .., pot[1] = .. -/
def gP0 (i : Nat) : DG := fun x τ R => match τ[i]?, x with
  | some (some .pot), .int a => 0 ≤ a ∧ R τ
  | _, _ => False
def gP1 (i : Nat) : DG := fun x τ R => match τ[i]?, x with
  | some (some .pot), .int a => (0 ≤ a ∧ a < 4294967296) ∧ R τ
  | _, _ => False
section
variable {K : PySem.W.Frag} {p : Qt}
theorem IsL.all {F : List Addr} {H H' : Hp} (f : ∀ w y, Is K p F H w y → Is K p F H' w y) : ∀ {vs : List V} {xs : List D}, IsL K p F H vs xs → IsL K p F H' vs xs
  | [], _, h => by cases h; exact .nil
  | v :: vs, _, h => by
    cases h with
    | cons h1 h2 => exact .cons (f _ _ h1) (IsL.all f h2)
end
section
variable {X : Cx} {p : Qt} {pos : Pos} {st : Stmt} {rest : List Stmt} {t u : DS} {e : Expr} {d : DE}
theorem Agree.seq {K : PySem.W.Frag} {g : Gd} {E' : DEn} {E : Ends} (a : Agree K p g E' E) {n' : Sl → Prop} {n : St → Hp → Prop} (h : ∀ F σ H τ, Rel K p g F σ H τ → n' τ → n σ H) : Agree K p g { E' with nx := n' } { E with nx := n } := ⟨h, a.rt, a.bk, a.ct⟩
theorem pdss_nil : PDSs X p [] dNext := ⟨_, pss_nil, fun g F σ H τ E E' rel h a => a.nx F σ H τ rel h⟩
theorem pdss_cons (h1 : PDS X p st t) (h2 : PDSs X p rest u) : PDSs X p (st :: rest) (dSeq t u) := by
  obtain ⟨a, a1, a2⟩ := h1.run
  obtain ⟨b, b1, b2⟩ := h2.run
  refine ⟨_, pss_cons a1 b1, fun g F σ H τ E E' rel h ag => ?_⟩
  exact a2 g F σ H τ _ _ rel h (ag.seq fun F' σ' H' τ' rel' h' => b2 g F' σ' H' τ' E E' rel' h' ag)
theorem pdss_one (h1 : PDS X p st t) : PDSs X p [st] t := by
  obtain ⟨a, a1, a2⟩ := h1.run
  exact ⟨_, pss_one a1, a2⟩
theorem pds_never : PDS X p st dNever := ⟨_, ps_never, fun _ _ _ _ _ _ _ _ h _ => h.elim⟩
theorem pdss_never {sts : List Stmt} : PDSs X p sts dNever := ⟨_, pss_never, fun _ _ _ _ _ _ _ _ h _ => h.elim⟩
theorem pds_ret (he : PD X p e d) : PDS X p (.Return (some e) pos) (dRet d) := by
  obtain ⟨a, a1, a2⟩ := he.run
  exact ⟨_, ps_ret a1, fun g F σ H τ E E' rel h ag => a2 g F σ H τ _ _ rel h fun x v H' e1 i1 r1 => ag.rt F σ H' τ v x (rel.st e1) i1 r1⟩
theorem pds_retN : PDS X p (.Return none pos) dRetN := ⟨_, ps_retN, fun g F σ H τ E E' rel h ag => ag.rt F σ H τ .non .non rel .non h⟩
theorem pds_expr (he : PD X p e d) (hs : swapsWith e none pos.line X.env = pure false := by rfl) : PDS X p (.Expr e pos) (dDrop d) := by
  obtain ⟨a, a1, a2⟩ := he.run
  exact ⟨_, ps_expr a1 hs, fun g F σ H τ E E' rel h ag => a2 g F σ H τ _ _ rel h fun x v H' e1 i1 r1 => ag.nx F σ H' τ (rel.st e1) r1⟩
theorem pds_doc {x j pos pos'} : PDS X p (.Expr (.Constant (.str x) j pos) pos') dNext := ⟨_, ps_doc, fun g F σ H τ E E' rel h ag => ag.nx F σ H τ rel h⟩
theorem pds_pass : PDS X p (.Pass pos) dNext := ⟨_, ps_pass, fun g F σ H τ E E' rel h ag => ag.nx F σ H τ rel h⟩
theorem pds_brk : PDS X p (.Break pos) dBrk := ⟨_, ps_break, fun g F σ H τ E E' rel h ag => ag.bk F σ H τ rel h⟩
theorem pds_cnt : PDS X p (.Continue pos) dCnt := ⟨_, ps_continue, fun g F σ H τ E E' rel h ag => ag.ct F σ H τ rel h⟩
theorem pds_if {c : Expr} {a b : List Stmt} {tc : DT} (hc : PDT X p c tc) (ha : PDSs X p a t) (hb : PDSs X p b u) : PDS X p (.If c a b pos) (dIfS tc t u) := by
  obtain ⟨c0, c1, c2⟩ := hc.run
  obtain ⟨a0, a1, a2⟩ := ha.run
  obtain ⟨b0, b1, b2⟩ := hb.run
  refine ⟨_, ps_if c1 a1 b1, fun g F σ H τ E E' rel h ag => ?_⟩
  refine c2 g F σ H τ _ _ rel h fun b H1 e1 h1 => ?_
  cases b with
  | true => exact a2 g F σ H1 τ E E' (rel.st e1) h1 ag
  | false => exact b2 g F σ H1 τ E E' (rel.st e1) h1 ag
theorem pds_set {i : Nat} {x : Str} {pos' : Pos} (hN : X.N.Nodup) (hi : X.N[i]? = some x) (hx : Loc X.env.scope x) (he : PD X p e d) (hs : swapsWith e (some (.Name x pos')) pos.line X.env = pure false := by rfl) (hf : X.fn x = true ∨ X.env.scope.names.lookup x = some .local := by first | exact .inl rfl | exact .inr rfl | assumption) :
    PDS X p (.Assign [.Name x pos'] e pos) (dAsg d (gN i)) := by
  obtain ⟨a, a1, a2⟩ := he.run
  refine ⟨_, ps_set hN hi hx a1 hs hf, fun g F σ H τ E E' rel h ag => ?_⟩
  exact a2 g F σ H τ _ _ rel h fun x v H' e1 i1 r1 => ag.nx F _ H' _ ((rel.st e1).set i1) r1
theorem pdg_name {i : Nat} {x : Str} (hN : X.N.Nodup) (hi : X.N[i]? = some x) (hx : Loc X.env.scope x) (hf : X.fn x = true ∨ X.env.scope.names.lookup x = some .local := by first | exact .inl rfl | exact .inr rfl | assumption) : PDG X p (.Name x pos) (gN i) :=
  ⟨_, pg_name hN hi hx hf, fun v x g F σ H τ Q R rel i1 h q => q _ H _ (rel.set i1) (fun _ _ z => z) h⟩
theorem pdgs_nil : PDGs X p [] gNl := by
  refine ⟨_, pgs_nil, fun vs xs g F σ H τ Q R rel i1 h q => ?_⟩
  cases i1 with
  | nil => exact ⟨rfl, q σ H τ rel (fun _ _ z => z) h⟩
  | cons _ _ => exact h.elim
theorem pdgs_cons {es : List Expr} {g : DG} {gs : DGs} (h1 : PDG X p e g) (h2 : PDGs X p es gs) (hs : (assignEach (e :: es) X.env).map (·.2) = assign e X.env :: (assignEach es X.env).map (·.2) := by rfl) : PDGs X p (e :: es) (gCn g gs) := by
  obtain ⟨a, a1, a2⟩ := h1.run
  obtain ⟨b, b1, b2⟩ := h2.run
  refine ⟨_, pgs_cons a1 b1 hs, fun vs xs g0 F σ H τ Q R rel i1 h q => ?_⟩
  cases i1 with
  | nil => exact h.elim
  | cons i1 i2 =>
    refine ⟨_, _, rfl, a2 _ _ g0 F σ H τ _ _ rel i1 h fun σ' H' τ' rel1 k1 h1 => ?_⟩
    exact b2 _ _ g0 F σ' H' τ' _ _ rel1 (i2.all k1) h1 fun σ2 H2 τ2 rel2 k2 r2 => q σ2 H2 τ2 rel2 (fun w y z => k2 w y (k1 w y z)) r2
theorem pdg_tup {es : List Expr} {k n : Nat} {gs : DGs} (hc : X.calm = true) (h : PDGs X p es gs) (hn : (assignEach es X.env).length = n := by rfl) (hst : (assignEach es X.env).findIdx? (·.1) = none := by rfl) : PDG X p (.Tuple es k pos) (gTu n gs) := by
  obtain ⟨a, a1, a2⟩ := h.run
  refine ⟨_, pg_tup hc a1 hn hst, fun v x g F σ H τ Q R rel i1 h q => ?_⟩
  cases i1 with
  | tup s ne il =>
    obtain ⟨hl, h⟩ := h
    exact ⟨_, _, rfl, s, by rw [il.len]; exact hl, a2 _ _ g F σ H τ _ _ rel il h q⟩
  | _ => exact h.elim
theorem Ex.pot {H : Hp} {a b : Int} (k : Pk p H) (h0 : 0 ≤ a) (h1 : 0 ≤ b) (h2 : b < 4294967296) : Ex p H (upd H p.pot (.lst [.int a, .int b])) := by
  refine ⟨fun c o n _ e => by rw [upd_ne n]; exact e, ⟨a, b, h0, h1, h2, upd_same⟩, fun t ht => TabG.upd (k.tb t ht) fun z => ?_⟩
  obtain ⟨_, _, _, _, _, e⟩ := k.at_
  obtain ⟨_, e', _⟩ := k.tb t ht
  rw [← z, e] at e'
  cases e'
theorem pdg_p0 {i : Nat} {o ix : Expr} (hi : X.N[i]? = X.N[i]?) (ho : PD X p o (dVar i)) (hx : PD X p ix (dC (.int 0)))
    (ha : ∀ v, assign (.Subscript o ix pos) X.env v = (do
      let ov ← holding [v] (eval o X.env)
      let iv ← holding [v, ov] (eval ix X.env)
      standAt pos
      holding [v, ov, iv] (setItem ov iv v)
      release [v, ov, iv] []) := by intro _; rfl) : PDG X p (.Subscript o ix pos) (gP0 i) := by
  obtain ⟨a, a1, a2⟩ := ho.run
  obtain ⟨b, b1, b2⟩ := hx.run
  refine ⟨_, pg_sub a1 b1 set_list ha, fun v x g F σ H τ Q R rel i1 h q => ?_⟩
  unfold gP0 at h
  split at h
  · rename_i z hz
    obtain ⟨h0, hR⟩ := h
    refine a2 g F σ H τ _ (fun d => d = .pot) rel (by unfold dVar; rw [hz]) fun d ov H1 e1 j1 hd => ?_
    subst hd
    refine b2 g F σ H1 τ _ (fun d => d = .int 0) (rel.st e1) rfl fun d iv H2 e2 j2 hd => ?_
    subst hd
    cases j1
    cases j2
    cases i1
    obtain ⟨x, y, p0, p1, p2, hp⟩ := e2.pk.at_
    refine ⟨p.pot, _, 0, 0, rfl, rfl, hp, rfl, ?_⟩
    have e3 : Ex p H2 (upd H2 p.pot (.lst ([V.int x, V.int y].set 0 (V.int z)))) := .pot e2.pk h0 p1 p2
    exact q σ _ τ (rel.st ((e1.trans e2).trans e3)) (fun w y z => z.mono ((e1.trans e2).trans e3).kp) hR
  · exact h.elim
theorem pdg_p1 {i : Nat} {o ix : Expr} (hi : X.N[i]? = X.N[i]?) (ho : PD X p o (dVar i)) (hx : PD X p ix (dC (.int 1)))
    (ha : ∀ v, assign (.Subscript o ix pos) X.env v = (do
      let ov ← holding [v] (eval o X.env)
      let iv ← holding [v, ov] (eval ix X.env)
      standAt pos
      holding [v, ov, iv] (setItem ov iv v)
      release [v, ov, iv] []) := by intro _; rfl) : PDG X p (.Subscript o ix pos) (gP1 i) := by
  obtain ⟨a, a1, a2⟩ := ho.run
  obtain ⟨b, b1, b2⟩ := hx.run
  refine ⟨_, pg_sub a1 b1 set_list ha, fun v x g F σ H τ Q R rel i1 h q => ?_⟩
  unfold gP1 at h
  split at h
  · rename_i z hz
    obtain ⟨⟨h0, h1⟩, hR⟩ := h
    refine a2 g F σ H τ _ (fun d => d = .pot) rel (by unfold dVar; rw [hz]) fun d ov H1 e1 j1 hd => ?_
    subst hd
    refine b2 g F σ H1 τ _ (fun d => d = .int 1) (rel.st e1) rfl fun d iv H2 e2 j2 hd => ?_
    subst hd
    cases j1
    cases j2
    cases i1
    obtain ⟨x, y, p0, p1, p2, hp⟩ := e2.pk.at_
    refine ⟨p.pot, _, 1, 1, rfl, rfl, hp, rfl, ?_⟩
    have e3 : Ex p H2 (upd H2 p.pot (.lst ([V.int x, V.int y].set 1 (V.int z)))) := .pot e2.pk p0 h0 h1
    exact q σ _ τ (rel.st ((e1.trans e2).trans e3)) (fun w y z => z.mono ((e1.trans e2).trans e3).kp) hR
  · exact h.elim
theorem pds_asg {tg : Expr} {g : DG} (he : PD X p e d) (hg : PDG X p tg g) (hs : swapsWithSole [tg] e pos.line X.env = pure false := by rfl) (hw : swappedStores [tg] e X.env = pure none := by rfl)
    (h1 : (assignEach [tg] X.env).map (·.2) = [assign tg X.env] := by rfl) : PDS X p (.Assign [tg] e pos) (dAsg d g) := by
  obtain ⟨a, a1, a2⟩ := he.run
  obtain ⟨b, b1, b2⟩ := hg.run
  refine ⟨_, ps_asg a1 b1 hs hw h1, fun g F σ H τ E E' rel h ag => ?_⟩
  refine a2 g F σ H τ _ _ rel h fun x v H1 e1 i1 r1 => ?_
  exact b2 v x g F σ H1 τ _ _ (rel.st e1) i1 r1 fun σ' H' τ' rel2 _ r2 => ag.nx F σ' H' τ' rel2 r2
def dPar (i j : Nat) (t : DA) : DS := fun E τ => t τ fun xs => match xs with
  | [x, y] => E.nx ((τ.set i (some x)).set j (some y))
  | _ => False
theorem pds_par {i j : Nat} {x y : Str} {a b : Expr} {ta : DA} {px py pt : Pos} {kt k2 pt2} (hc : X.calm = true) (hN : X.N.Nodup) (hi : X.N[i]? = some x) (hj : X.N[j]? = some y) (hij : i ≠ j)
    (hx : X.env.scope.names.lookup x = some .local) (hy : X.env.scope.names.lookup y = some .local) (ha : PDA X p [a, b] ta)
    (hw : swappedStores [.Tuple [.Name x px, .Name y py] kt pt] (.Tuple [a, b] k2 pt2) X.env = pure (some [x, y]))
    (hs : swapsWithSole [.Tuple [.Name x px, .Name y py] kt pt] (.Tuple [a, b] k2 pt2) pos.line X.env = pure false := by rfl) :
    PDS X p (.Assign [.Tuple [.Name x px, .Name y py] kt pt] (.Tuple [a, b] k2 pt2) pos) (dPar i j ta) := by
  obtain ⟨a, a1, a2⟩ := ha.run
  refine ⟨_, ps_par hc hN hi hj hij hx hy a1 hw hs, fun g F σ H τ E E' rel h ag => ?_⟩
  refine a2 g F σ H τ _ _ rel h fun xs vs H1 e1 i1 l1 r1 => ?_
  cases i1 with
  | nil => exact r1.elim
  | cons i1 i2 =>
    cases i2 with
    | nil => exact r1.elim
    | cons i2 i3 =>
      cases i3 with
      | nil => exact ⟨_, _, rfl, ag.nx F _ H1 _ (((rel.st e1).set i1).set i2) r1⟩
      | cons _ _ => exact r1.elim
def dPar3 (i j l : Nat) (t : DA) : DS := fun E τ => t τ fun xs => match xs with
  | [x, y, z] => E.nx (((τ.set i (some x)).set j (some y)).set l (some z))
  | _ => False
theorem pds_par3 {i j l : Nat} {x y z : Str} {a b c : Expr} {ta : DA} {px py pz pt : Pos} {kt : Nat} {k2 : Nat} {pt2 : Pos} (hc : X.calm = true) (hN : X.N.Nodup) (hi : X.N[i]? = some x) (hj : X.N[j]? = some y) (hl : X.N[l]? = some z) (hij : i ≠ j) (hil : i ≠ l) (hjl : j ≠ l)
    (hx : X.env.scope.names.lookup x = some .local) (hy : X.env.scope.names.lookup y = some .local) (hz : X.env.scope.names.lookup z = some .local) (ha : PDA X p [a, b, c] ta)
    (hw : swappedStores [.Tuple [.Name x px, .Name y py, .Name z pz] kt pt] (.Tuple [a, b, c] k2 pt2) X.env = pure (some [x, y, z]))
    (hs : swapsWithSole [.Tuple [.Name x px, .Name y py, .Name z pz] kt pt] (.Tuple [a, b, c] k2 pt2) pos.line X.env = pure false := by rfl) :
    PDS X p (.Assign [.Tuple [.Name x px, .Name y py, .Name z pz] kt pt] (.Tuple [a, b, c] k2 pt2) pos) (dPar3 i j l ta) := by
  obtain ⟨a, a1, a2⟩ := ha.run
  refine ⟨_, ps_par3 hc hN hi hj hl hij hil hjl hx hy hz a1 hw hs, fun g F σ H τ E E' rel h ag => ?_⟩
  refine a2 g F σ H τ _ _ rel h fun xs vs H1 e1 i1 l1 r1 => ?_
  match xs, r1 with
  | [u, v, w], r1 =>
    cases i1 with
    | cons i1 i2 =>
      cases i2 with
      | cons i2 i3 =>
        cases i3 with
        | cons i3 i4 =>
          cases i4
          exact ⟨_, _, _, rfl, ag.nx F _ H1 _ ((((rel.st e1).set i1).set i2).set i3) r1⟩
end

/-! ### a stretch of a def's run, from a state on -/
def Gd.cut (g : Gd) (F : List Addr) (H : Hp) : Gd := ⟨g.F0, F.filter (fun b => decide (b ∉ g.F0)), H⟩
section
variable {K : PySem.W.Frag} {p : Qt} {g : Gd} {F F' : List Addr} {σ σ' : St} {H H' : Hp} {τ τ' : Sl}
theorem Rel.cut (r : Rel K p g F σ H τ) : Rel K p (g.cut F H) F σ H τ where
  pk := r.pk
  kp := fun _ _ _ _ _ e => e
  sub := r.sub
  al := r.al
  fo := fun b hb => by
    by_cases h : b ∈ g.F0
    · exact .inl h
    · exact .inr (.inl (List.mem_filter.mpr ⟨hb, by simpa using h⟩))
  sl := r.sl
  ow := r.ow
  un := r.un
  len := r.len
theorem Rel.back (r : Rel K p g F σ H τ) (r' : Rel K p (g.cut F H) F' σ' H' τ') : Rel K p g F' σ' H' τ' where
  pk := r'.pk
  kp := fun b o n nb t e => by
    refine r'.kp b o n (fun z => ?_) t (r.kp b o n nb t e)
    obtain ⟨z1, z2⟩ := List.mem_filter.mp z
    rcases r.fo b z1 with q | q | q
    · exact (by simpa using z2 : b ∉ g.F0) q
    · exact nb q
    · exact q o t e
  sub := r'.sub
  al := r'.al
  fo := fun b hb => by
    rcases r'.fo b hb with q | q | q
    · exact .inl q
    · exact r.fo b (List.mem_filter.mp q).1
    · by_cases hB : b ∈ g.B
      · exact .inr (.inl hB)
      · exact .inr (.inr fun o t e => q o t (r.kp b o (r'.al b hb).1 hB t e))
  sl := r'.sl
  ow := r'.ow
  un := r'.un
  len := r'.len
/-- what stands since the cut, but for the lists of the def's own -/
theorem Rel.since (r' : Rel K p (g.cut F H) F' σ' H' τ') {b : Addr} {o : HO} (n : b ≠ p.pot) (nf : b ∉ F) (t : NoT o) (e : H b = some o) : H' b = some o :=
  r'.kp b o n (fun z => nf (List.mem_filter.mp z).1) t e
theorem Rel.isl {vs : List V} {l : List D} (r' : Rel K p (g.cut F H) F' σ' H' τ') (i : IsL K p F H vs l) (k : ∀ b o, b ≠ p.pot → b ∉ F → NoT o → H b = some o → H' b = some o) (al : ∀ b ∈ F, ∃ o, H b = some o ∧ isMut o) (s0 : ∀ b ∈ g.F0, b ∈ F) : IsL K p F' H' vs l :=
  IsL.rec (motive_1 := fun v d _ => Is K p F' H' v d) (motive_2 := fun vs l _ => IsL K p F' H' vs l) .non .bl .int .str .ty .fn
    (fun {a vs l} h n _ ih => .tup (by
      rcases h with (h | ⟨o, h⟩) | h
      · refine .inl (.inl (k _ _ n (fun z => ?_) (fun _ z => nomatch z) h))
        obtain ⟨o, q, m⟩ := al a z
        rw [h] at q
        cases q
        exact m
      · refine .inl (.inr ⟨o, k _ _ n (fun z => ?_) (fun _ z => nomatch z) h⟩)
        obtain ⟨o, q, m⟩ := al a z
        rw [h] at q
        cases q
        exact m
      · exact .inr h) n ih)
    (fun {a vs l} h m _ ih => .lst (by
      rcases h with h | ⟨o, h⟩
      · exact .inl (k _ _ m.1 m.2 (fun _ z => nomatch z) h)
      · exact .inr ⟨o, k _ _ m.1 m.2 (fun _ z => nomatch z) h⟩) ⟨m.1, fun z => by
        rcases r'.fo _ z with q | q | q
        · exact m.2 (s0 _ q)
        · exact m.2 (List.mem_filter.mp q).1
        · obtain ⟨o, h1, h2⟩ := Rdl.noT h
          exact q o h1 h2⟩ ih) .pot .nil (fun _ _ i1 i2 => .cons i1 i2) i
end

/-! ### what is walked -/
/-- all but the pot, the lists at F and the tables is as it was -/
structure ExF (p : Qt) (F : List Addr) (H H' : Hp) : Prop where
  kp : ∀ b o, b ≠ p.pot → b ∉ F → NoT o → H b = some o → H' b = some o
  pk : Pk p H'
structure WD (K : PySem.W.Frag) (p : Qt) (F : List Addr) (J : It) (H0 : Hp) (l : List D) : Prop where
  step : ∀ (i : Nat) (H : Hp) (F' : List Addr), ExF p F H0 H → (∀ {vs : List V} {l : List D}, IsL K p F H0 vs l → IsL K p F' H vs l) → PkF p F' H → i < l.length → J.go i H ∧ ∀ x H', J.yld i H x H' → Ex p H H' ∧ ∃ d, l[i]? = some d ∧ Is K p F' H' x d
  stop : ∀ H, ExF p F H0 H → J.stop l.length H
abbrev DI := Sl → (List D → Prop) → Prop
structure PDI (X : Cx) (p : Qt) (tg iter : Expr) (d : DI) : Prop where
  run : ∃ wi, PI X tg iter wi ∧ ∀ (g : Gd) (F : List Addr) (σ : L2.St) (H : Hp) (τ : Sl) (Rw : It → Hp → Prop) (R : List D → Prop), Rel X.K p g F σ H τ → d τ R → (∀ J H1 l, Ex p H H1 → WD X.K p F J H1 l → R l → Rw J H1) → wi σ H Rw
theorem Ex.toF {p : Qt} {F : List Addr} {H H' : Hp} (e : Ex p H H') : ExF p F H H' := ⟨fun b o n _ t q => e.kp b o n t q, e.pk⟩

/-! ### for, while -/
def dForGo (g : DG) (body : DS) (E : DEn) : List D → Sl → Prop
  | [], τ => E.nx τ
  | x :: r, τ => g x τ fun τ2 => body { nx := dForGo g body E r, rt := E.rt, bk := E.nx, ct := dForGo g body E r } τ2
def dFor (it : DI) (g : DG) (body : DS) : DS := fun E τ => it τ fun l => dForGo g body E l τ
def dWhile (c : DT) (body : DS) : DS := fun E τ => ∃ W : Nat → Sl → Prop, (∃ m, W m τ) ∧ ∀ m τ, W m τ → c τ fun b => if b = true then body { nx := fun τ' => ∃ m', m' < m ∧ W m' τ', rt := E.rt, bk := E.nx, ct := fun τ' => ∃ m', m' < m ∧ W m' τ' } τ else E.nx τ
section
variable {X : Cx} {p : Qt} {pos : Pos}
theorem drop_at {l : List D} {i : Nat} {d : D} (h : l[i]? = some d) : l.drop i = d :: l.drop (i + 1) := by
  obtain ⟨hi, e⟩ := List.getElem?_eq_some_iff.mp h
  rw [List.drop_eq_getElem_cons hi, e]
theorem pds_for {tg iter : Expr} {body : List Stmt} {it : DI} {gt : DG} {b : DS} (hc : X.calm = true) (hp : PassesOwn (model X.prog X.w) X.A X.env X.xe) (hi : PDI X p tg iter it) (hg : PDG X p tg gt) (hb : PDSs X p body b)
    (hs : ∀ x, foldedSetIterable iter X.env x = pure x := by intro _; rfl) : PDS X p (.For tg iter body [] pos) (dFor it gt b) := by
  obtain ⟨wi, i1, i2⟩ := hi.run
  obtain ⟨tg', g1, g2⟩ := hg.run
  obtain ⟨tb, b1, b2⟩ := hb.run
  refine ⟨_, ps_for hp hc i1 g1 b1 hs, fun g F σ H τ E E' rel h ag => ?_⟩
  refine i2 g F σ H τ _ _ rel h fun J H1 l e1 wd h1 => ?_
  have rel1 := rel.st e1
  have isl : ∀ {F' : List Addr} {σ' : L2.St} {H' : Hp} {τ' : Sl}, Rel X.K p (g.cut F H1) F' σ' H' τ' → ∀ {vs : List V} {l : List D}, IsL X.K p F H1 vs l → IsL X.K p F' H' vs l := by
    intro F' σ' H' τ' r' vs l i
    exact r'.isl i (fun b o n nf t e => r'.since n nf t e) (fun b hb => (rel1.al b hb).2) rel1.sub
  refine ⟨fun i m σ' H' => i ≤ l.length ∧ m = l.length - i ∧ ∃ F' τ', Rel X.K p (g.cut F H1) F' σ' H' τ' ∧ dForGo gt b E' (l.drop i) τ', ⟨_, Nat.zero_le _, rfl, F, τ, rel1.cut, h1⟩, ?_⟩
  rintro i m σ' H' ⟨hi, rfl, F', τ', rel', h'⟩
  have exf : ExF p F H1 H' := ⟨fun b o n nf t e => rel'.since n nf t e, rel'.pk⟩
  by_cases hlt : i < l.length
  · obtain ⟨go, y⟩ := wd.step i H' F' exf (isl rel') rel'.pkf hlt
    refine .inr ⟨go, fun σ2 H2 => i + 1 ≤ l.length ∧ ∃ F2 τ2, Rel X.K p (g.cut F H1) F2 σ2 H2 τ2 ∧ dForGo gt b E' (l.drop (i + 1)) τ2, fun σ2 H2 ⟨q1, q2⟩ => ⟨_, by omega, q1, rfl, q2⟩, fun x H2 yl => ?_⟩
    obtain ⟨e2, d, hd, hx⟩ := y x H2 yl
    rw [drop_at hd] at h'
    refine g2 x d (g.cut F H1) F' σ' H2 τ' _ _ (rel'.st e2) hx h' fun σ3 H3 τ3 rel3 _ h3 => ?_
    refine b2 (g.cut F H1) F' σ3 H3 τ3 _ _ rel3 h3 ⟨fun F4 σ4 H4 τ4 rel4 h4 => ⟨hlt, F4, τ4, rel4, h4⟩, fun F4 σ4 H4 τ4 v x rel4 i4 h4 => ag.rt F4 σ4 H4 τ4 v x (rel1.back rel4) i4 h4, fun F4 σ4 H4 τ4 rel4 h4 => ag.nx F4 σ4 H4 τ4 (rel1.back rel4) h4, fun F4 σ4 H4 τ4 rel4 h4 => ⟨hlt, F4, τ4, rel4, h4⟩⟩
  · have e : i = l.length := by omega
    subst e
    rw [List.drop_length] at h'
    exact .inl ⟨wd.stop H' exf, ag.nx F' σ' H' τ' (rel1.back rel') h'⟩
theorem pds_while {c : Expr} {body : List Stmt} {dc : DT} {b : DS} (hp : PassesOwn (model X.prog X.w) X.A X.env X.xe) (hc : PDT X p c dc) (hb : PDSs X p body b) : PDS X p (.While c body [] pos) (dWhile dc b) := by
  obtain ⟨tc, c1, c2⟩ := hc.run
  obtain ⟨tb, b1, b2⟩ := hb.run
  refine ⟨_, ps_while hp c1 b1, fun g F σ H τ E E' rel h ag => ?_⟩
  obtain ⟨W, ⟨m0, w0⟩, turn⟩ := h
  refine ⟨fun m σ' H' => ∃ F' τ', Rel X.K p g F' σ' H' τ' ∧ W m τ', ⟨m0, F, τ, rel, w0⟩, ?_⟩
  rintro m σ' H' ⟨F', τ', rel', w'⟩
  refine c2 g F' σ' H' τ' _ _ rel' (turn m τ' w') fun t H1 e1 h1 => ?_
  cases t with
  | false =>
    rw [if_neg Bool.false_ne_true] at h1 ⊢
    exact ag.nx _ _ _ _ (rel'.st e1) h1
  | true =>
    rw [if_pos rfl] at h1 ⊢
    refine ⟨fun σ2 H2 => ∃ F2 τ2, Rel X.K p g F2 σ2 H2 τ2 ∧ ∃ m', m' < m ∧ W m' τ2, fun σ2 H2 ⟨F2, τ2, q2, m', q3, q4⟩ => ⟨m', q3, F2, τ2, q2, q4⟩, ?_⟩
    exact b2 g F' σ' H1 τ' _ _ (rel'.st e1) h1 ⟨fun F4 σ4 H4 τ4 rel4 h4 => ⟨F4, τ4, rel4, h4⟩, fun F4 σ4 H4 τ4 v x rel4 i4 h4 => ag.rt F4 σ4 H4 τ4 v x rel4 i4 h4, fun F4 σ4 H4 τ4 rel4 h4 => ag.nx F4 σ4 H4 τ4 rel4 h4, fun F4 σ4 H4 τ4 rel4 h4 => ⟨F4, τ4, rel4, h4⟩⟩
end
end DL
/-! Operators, built-ins, walks over the data layer. -/
namespace DL
open PySem PySem.Spec L2

/-! ### operators -/
def gII (g : Int → Int → D) : D → D → (D → Prop) → Prop := fun x y R => match x, y with
  | .int i, .int j => R (g i j)
  | _, _ => False
def gIIc (C : Int → Int → Prop) (g : Int → Int → D) : D → D → (D → Prop) → Prop := fun x y R => match x, y with
  | .int i, .int j => C i j ∧ R (g i j)
  | _, _ => False
section
variable {X : Cx} {p : Qt}
/-- a rule of HandS on two ints -/
theorem opd_I0 {f : Value → Value → Sem Value} {gv : Int → Int → V} {g : Int → Int → D} (h : OpR X f (rI0 gv)) (hg : ∀ i j F H, Is X.K p F H (gv i j) (g i j)) : OpD X p f (gII g) := by
  refine ⟨_, h, fun F H x y v u Q R pk ix iy hh q => ?_⟩
  cases ix with
  | int i =>
    cases iy with
    | int j => exact ⟨i, j, rfl, rfl, q _ _ H (.refl pk.pk) (hg i j F H) hh⟩
    | _ => exact hh.elim
  | _ => exact hh.elim
theorem opd_I {f : Value → Value → Sem Value} {C C' : Int → Int → Prop} {gv : Int → Int → V} {g : Int → Int → D} (h : OpR X f (rI C gv)) (hc : ∀ i j, C' i j → C i j) (hg : ∀ i j F H, C' i j → Is X.K p F H (gv i j) (g i j)) : OpD X p f (gIIc C' g) := by
  refine ⟨_, h, fun F H x y v u Q R pk ix iy hh q => ?_⟩
  cases ix with
  | int i =>
    cases iy with
    | int j => exact ⟨i, j, rfl, rfl, hc i j hh.1, q _ _ H (.refl pk.pk) (hg i j F H hh.1) hh.2⟩
    | _ => exact hh.elim
  | _ => exact hh.elim
/-- a + b: ints, tuples -/
def gAdd : D → D → (D → Prop) → Prop := fun x y R => match x, y with
  | .int i, .int j => R (.int (i + j))
  | .tup l, .tup m => l.length + m.length ≤ 1000000 ∧ R (.tup (l ++ m))
  | _, _ => False
theorem opd_add : OpD X p (binaryOp .Add) gAdd := by
  refine ⟨_, op_add.or op_catA, fun F H x y v u Q R pk ix iy hh q => ?_⟩
  cases ix with
  | int i =>
    cases iy with
    | int j => exact .inl ⟨i, j, rfl, rfl, q _ _ H (.refl pk.pk) (.int _) hh⟩
    | _ => exact hh.elim
  | @tup a vs l hs hn hl =>
    cases iy with
    | @tup b ws m hs' hn' hl' =>
      have h1 := hl.len
      have h2 := hl'.len
      refine .inr ⟨a, b, vs, ws, rfl, rfl, hs, hs', ?_, fun e => ?_, fun _ e => ?_, fun _ _ c hc => ?_⟩
      · have : sizeLine = 16777216 := sizeLine_eq
        have := hh.1
        omega
      · subst e
        cases hl
        exact q _ _ H (.refl pk.pk) (.tup hs' hn' hl') hh.2
      · subst e
        cases hl'
        exact q _ _ H (.refl pk.pk) (.tup hs hn hl) (by simpa using hh.2)
      · have e := Ex.new (o := .tup (vs ++ ws)) pk.pk hc
        exact q _ _ _ e (.tup (SqT.of upd_same) (pk.ne hc) ((hl.mono e.kp).app (hl'.mono e.kp))) hh.2
    | _ => exact hh.elim
  | _ => exact hh.elim
abbrev gSub := gII fun i j => .int (i - j)
theorem opd_sub : OpD X p (binaryOp .Sub) gSub := opd_I0 op_sub fun _ _ _ _ => .int _
/-- a product: one side within 2 ^ 64, or both within 2 ^ 8192 -/
structure MulC (i j : Int) : Prop where
  ok : IntMulOk i j
theorem MulC.left {i j : Int} (h0 : -18446744073709551616 < i) (h1 : i < 18446744073709551616) : MulC i j := ⟨CMul.ok (.inl ⟨h0, h1⟩)⟩
theorem MulC.right {i j : Int} (h0 : -18446744073709551616 < j) (h1 : j < 18446744073709551616) : MulC i j := ⟨CMul.ok (.inr ⟨h0, h1⟩)⟩
theorem MulC.wide {i j : Int} (h0 : -1606938044258990275541962092341162602522202993782792835301376 < i) (h1 : i < 1606938044258990275541962092341162602522202993782792835301376) (h2 : -1606938044258990275541962092341162602522202993782792835301376 < j) (h3 : j < 1606938044258990275541962092341162602522202993782792835301376) : MulC i j := by
  have e : (2 : Nat) ^ 200 = 1606938044258990275541962092341162602522202993782792835301376 := by decide +kernel
  exact ⟨CMulW.ok (wide_mul (a := 200) (b := 200) (by rw [e]; omega) (by rw [e]; omega) (by decide) (by decide) (by decide))⟩
abbrev gMul := gIIc MulC fun i j => .int (i * j)
theorem opd_mul : OpD X p (binaryOp .Mult) gMul :=
  opd_I (C := MulC) (X := X) (gv := fun i j => .int (i * j)) (opI fun _ _ _ _ _ _ _ hc q => PyProof.Rows.mul_int q hc.ok) (fun _ _ h => h) fun _ _ _ _ _ => .int _
/-- a divisor within bounds -/
structure BD (j : Int) : Prop where
  pos : 0 < j
  few : j.natAbs.log2 < 8990
theorem BD.of {j : Int} (h0 : 0 < j) (h1 : j < 1606938044258990275541962092341162602522202993782792835301376) : BD j := by
  have e : (1606938044258990275541962092341162602522202993782792835301376 : Nat) ≤ 2 ^ 512 := by decide +kernel
  have l : j.natAbs.log2 < 512 := PySem.Flt.log2_lt_of (by decide) (Nat.lt_of_lt_of_le (by omega) e)
  exact ⟨h0, by omega⟩
abbrev gDiv := gIIc (fun _ j => BD j) fun i j => .int (i / j)
theorem opd_div : OpD X p (binaryOp .FloorDiv) gDiv :=
  opd_I op_fdivW (fun i j h => ⟨h.1, by have h2 := h.2; omega⟩) fun _ _ _ _ _ => .int _
abbrev gMod := gIIc (fun _ j => 0 < j) fun i j => .int (i % j)
theorem opd_mod : OpD X p (binaryOp .Mod) gMod := opd_I op_mod (fun _ _ h => h) fun _ _ _ _ _ => .int _
abbrev gPow := gIIc (fun i j => 0 ≤ j ∧ j ≤ 1000000 ∧ -(2 ^ 64) < i ∧ i < 2 ^ 64) fun i j => .int (i ^ j.toNat)
theorem opd_pow : OpD X p (binaryOp .Pow) gPow := opd_I op_pow (fun i j h => ⟨h.1, h.2.1, by have h1 := h.2.2.1; have h2 := h.2.2.2; omega⟩) fun _ _ _ _ _ => .int _
theorem opd_lt : OpD X p (compareOp .Lt) (gII fun i j => .bl (decide (i < j))) := opd_I0 op_lt fun _ _ _ _ => .bl _
theorem opd_le : OpD X p (compareOp .LtE) (gII fun i j => .bl (decide (i ≤ j))) := opd_I0 op_le fun _ _ _ _ => .bl _
theorem opd_gt : OpD X p (compareOp .Gt) (gII fun i j => .bl (decide (j < i))) := opd_I0 op_gt fun _ _ _ _ => .bl _
theorem opd_ge : OpD X p (compareOp .GtE) (gII fun i j => .bl (decide (j ≤ i))) := opd_I0 op_ge fun _ _ _ _ => .bl _

/-! ### data as PyData -/
mutual
def toP : D → PyData
  | .non => .none
  | .bl b => .bool b
  | .int i => .int i
  | .str x => .str x
  | .ty _ => .none
  | .fn _ => .none
  | .pot => .none
  | .own _ => .none
  | .tup l => .tuple (toPs l)
  | .lst l => .list (toPs l)
def toPs : List D → List PyData
  | [] => []
  | d :: l => toP d :: toPs l
end
mutual
def pure? : D → Bool
  | .ty _ => false
  | .fn _ => false
  | .pot => false
  | .own _ => false
  | .tup l => pures? l
  | .lst l => pures? l
  | _ => true
def pures? : List D → Bool
  | [] => true
  | d :: l => pure? d && pures? l
end
theorem Is.dp {K : PySem.W.Frag} {p : Qt} {F : List Addr} {H : Hp} {v : V} {d : D} (h : Is K p F H v d) : pure? d = true → Dp K H v (toP d) :=
  Is.rec (motive_1 := fun v d _ => pure? d = true → Dp K H v (toP d)) (motive_2 := fun vs l _ => pures? l = true → DpAll K H vs (toPs l))
    (fun _ => .non) (fun b _ => .bl b) (fun i _ => .int i) (fun x _ => .str x) (fun _ z => nomatch z) (fun _ z => nomatch z)
    (fun h _ _ ih z => .tup h (ih z)) (fun h _ _ ih z => .lst (Rdl.sq h) (ih z)) (fun z => nomatch z) (fun _ => .nil)
    (fun _ _ i1 i2 z => by
      have z' := Bool.and_eq_true_iff.mp z
      exact .cons (i1 z'.1) (i2 z'.2)) h
-- no text, type or pot in it; at most so deep
mutual
def shp : Nat → D → Bool
  | _, .non => true
  | _, .bl _ => true
  | _, .int _ => true
  | n + 1, .tup l => shps n l
  | n + 1, .lst l => shps n l
  | _, _ => false
def shps : Nat → List D → Bool
  | _, [] => true
  | n, d :: l => shp n d && shps n l
end
theorem shp_all : ∀ (n : Nat), (∀ d : D, shp n d = true → pure? d = true ∧ (toP d).canLay0 = true ∧ (toP d).depth ≤ n ∧ (toP d).hasDict = false) ∧
    ∀ l : List D, shps n l = true → pures? l = true ∧ PyData.canLayAll0 (toPs l) = true ∧ PyData.depthAll (toPs l) ≤ n ∧ PyData.hasDictAll (toPs l) = false := by
  have lists : ∀ n, (∀ d : D, shp n d = true → pure? d = true ∧ (toP d).canLay0 = true ∧ (toP d).depth ≤ n ∧ (toP d).hasDict = false) →
      ∀ l : List D, shps n l = true → pures? l = true ∧ PyData.canLayAll0 (toPs l) = true ∧ PyData.depthAll (toPs l) ≤ n ∧ PyData.hasDictAll (toPs l) = false := by
    intro n h l
    induction l with
    | nil => intro _; exact ⟨by simp [pures?], by simp [toPs, PyData.canLayAll0], by simp [toPs, PyData.depthAll], by simp [toPs, PyData.hasDictAll]⟩
    | cons d l ih =>
      intro hl
      rw [shps, Bool.and_eq_true] at hl
      obtain ⟨a1, a2, a3, a4⟩ := h d hl.1
      obtain ⟨b1, b2, b3, b4⟩ := ih hl.2
      refine ⟨by simp [pures?, a1, b1], by simp [toPs, PyData.canLayAll0, a2, b2], ?_, by simp [toPs, PyData.hasDictAll, a4, b4]⟩
      simp only [toPs, PyData.depthAll]
      omega
  intro n
  induction n with
  | zero =>
    have one : ∀ d : D, shp 0 d = true → pure? d = true ∧ (toP d).canLay0 = true ∧ (toP d).depth ≤ 0 ∧ (toP d).hasDict = false := by
      intro d hd
      cases d <;> simp [shp] at hd <;> simp [pure?, toP, PyData.canLay0, PyData.depth, PyData.hasDict]
    exact ⟨one, lists 0 one⟩
  | succ n ih =>
    have one : ∀ d : D, shp (n + 1) d = true → pure? d = true ∧ (toP d).canLay0 = true ∧ (toP d).depth ≤ n + 1 ∧ (toP d).hasDict = false := by
      intro d hd
      cases d with
      | tup l =>
        obtain ⟨b1, b2, b3, b4⟩ := ih.2 l (by simpa [shp] using hd)
        exact ⟨by simp [pure?, b1], by simp [toP, PyData.canLay0, b2], by simp only [toP, PyData.depth]; omega, by simp [toP, PyData.hasDict, b4]⟩
      | lst l =>
        obtain ⟨b1, b2, b3, b4⟩ := ih.2 l (by simpa [shp] using hd)
        exact ⟨by simp [pure?, b1], by simp [toP, PyData.canLay0, b2], by simp only [toP, PyData.depth]; omega, by simp [toP, PyData.hasDict, b4]⟩
      | _ => simp [shp] at hd <;> simp [pure?, toP, PyData.canLay0, PyData.depth, PyData.hasDict]
    exact ⟨one, lists (n + 1) one⟩
theorem shp_shaped {d : D} (h : shp 60 d = true) : pure? d = true ∧ SeqAt.shaped (toP d) = true := by
  obtain ⟨h1, h2, h3, _⟩ := (shp_all 60).1 d h
  exact ⟨h1, by unfold SeqAt.shaped; rw [h2, decide_eq_true (Nat.le_trans h3 (by decide))]; rfl⟩
/-- x == y: scalars exactly; data by eqv -/
def gEq : D → D → (D → Prop) → Prop := fun x y R => match x, y with
  | .int i, .int j => R (.bl (decide (i = j)))
  | .str i, .str j => R (.bl (decide (i = j)))
  | .bl i, .bl j => R (.bl (decide (i = j)))
  | x, y => (shp 60 x = true ∧ shp 60 y = true) ∧ R (.bl (PyData.eqv (toP x) (toP y)))
def gNe : D → D → (D → Prop) → Prop := fun x y R => match x, y with
  | .int i, .int j => R (.bl (!decide (i = j)))
  | .str i, .str j => R (.bl (!decide (i = j)))
  | .bl i, .bl j => R (.bl (!decide (i = j)))
  | x, y => (shp 60 x = true ∧ shp 60 y = true) ∧ R (.bl (!PyData.eqv (toP x) (toP y)))
theorem opd_eq (hu : X.A.units + 64 < cLine) : OpD X p (compareOp .Eq) gEq := by
  refine ⟨_, op_eq.or (op_eqD hu), fun F H x y v u Q R pk ix iy hh q => ?_⟩
  unfold gEq at hh
  split at hh
  · cases ix
    cases iy
    exact .inl ⟨rfl, by simpa using q _ _ H (.refl pk.pk) (.bl _) hh⟩
  · cases ix
    cases iy
    exact .inl ⟨rfl, by simpa using q _ _ H (.refl pk.pk) (.bl _) hh⟩
  · cases ix
    cases iy
    exact .inl ⟨rfl, by simpa using q _ _ H (.refl pk.pk) (.bl _) hh⟩
  · obtain ⟨⟨h1, h2⟩, h5⟩ := hh
    exact .inr ⟨_, _, ix.dp (shp_shaped h1).1, iy.dp (shp_shaped h2).1, (shp_shaped h1).2, (shp_shaped h2).2, q _ _ H (.refl pk.pk) (.bl _) h5⟩
theorem opd_ne (hu : X.A.units + 64 < cLine) : OpD X p (compareOp .NotEq) gNe := by
  refine ⟨_, op_ne.or (op_neD hu), fun F H x y v u Q R pk ix iy hh q => ?_⟩
  unfold gNe at hh
  split at hh
  · cases ix
    cases iy
    exact .inl ⟨rfl, by simpa using q _ _ H (.refl pk.pk) (.bl _) hh⟩
  · cases ix
    cases iy
    exact .inl ⟨rfl, by simpa using q _ _ H (.refl pk.pk) (.bl _) hh⟩
  · cases ix
    cases iy
    exact .inl ⟨rfl, by simpa using q _ _ H (.refl pk.pk) (.bl _) hh⟩
  · obtain ⟨⟨h1, h2⟩, h5⟩ := hh
    exact .inr ⟨_, _, ix.dp (shp_shaped h1).1, iy.dp (shp_shaped h2).1, (shp_shaped h1).2, (shp_shaped h2).2, q _ _ H (.refl pk.pk) (.bl _) h5⟩
def isNon : D → Bool
  | .non => true
  | _ => false
theorem opd_isN : OpD X p (compareOp .Is) (fun x y R => match y with | .non => R (.bl (isNon x)) | _ => False) := by
  refine ⟨_, op_isN, fun F H x y v u Q R pk ix iy hh q => ?_⟩
  cases iy with
  | non =>
    refine ⟨rfl, ?_⟩
    have e : decide (v = V.non) = isNon x := by cases ix <;> rfl
    rw [e]
    exact q _ _ H (.refl pk.pk) (.bl _) hh
  | _ => exact hh.elim
theorem opd_notN : OpD X p (compareOp .IsNot) (fun x y R => match y with | .non => R (.bl (!isNon x)) | _ => False) := by
  refine ⟨_, op_notN, fun F H x y v u Q R pk ix iy hh q => ?_⟩
  cases iy with
  | non =>
    refine ⟨rfl, ?_⟩
    have e : decide (v = V.non) = isNon x := by cases ix <;> rfl
    rw [e]
    exact q _ _ H (.refl pk.pk) (.bl _) hh
  | _ => exact hh.elim
def gNeg : D → (D → Prop) → Prop := fun x R => match x with
  | .int i => R (.int (-i))
  | _ => False
theorem und_neg : UnD X p (unaryOp .USub) gNeg := by
  refine ⟨_, un_neg, fun F H x v Q R pk ix hh q => ?_⟩
  cases ix with
  | int i => exact ⟨i, rfl, q _ _ H (.refl pk.pk) (.int _) hh⟩
  | _ => exact hh.elim

/-! ### subscripts -/
/-- the item at a place -/
def atD (l : List D) (i : Int) : Option D := if 0 ≤ i then l[i.toNat]? else if -(l.length : Int) ≤ i then l[(i + (l.length : Int)).toNat]? else none
theorem atD_at {l : List D} {i : Int} {d : D} (h : atD l i = some d) : L2.atI l i = some d := by
  unfold atD at h
  unfold L2.atI ixN
  by_cases h0 : 0 ≤ i
  · rw [if_pos h0] at h ⊢
    have hl : i.toNat < l.length := (List.getElem?_eq_some_iff.mp h).1
    rw [if_pos (show i < (l.length : Int) by omega)]
    exact h
  · rw [if_neg h0] at h ⊢
    by_cases h1 : -(l.length : Int) ≤ i
    · rw [if_pos h1] at h ⊢
      exact h
    · rw [if_neg h1] at h
      cases h
/-- x[i]: a tuple, a list, the pot -/
def gIx : D → D → (D → Prop) → Prop := fun x y R => match x, y with
  | .tup l, .int i => match atD l i with
    | some d => R d
    | none => False
  | .lst l, .int i => match atD l i with
    | some d => R d
    | none => False
  | .pot, .int i => if i = 0 then ∀ a, 0 ≤ a → R (.int a) else i = 1 ∧ ∀ a, 0 ≤ a → a < 4294967296 → R (.int a)
  | _, _ => False
theorem IsL.atI {K : PySem.W.Frag} {F : List Addr} {H : Hp} {vs : List V} {l : List D} {i : Int} {d : D} (h : IsL K p F H vs l) (e : L2.atI l i = some d) : ∃ v, L2.atI vs i = some v ∧ Is K p F H v d := by
  unfold L2.atI at e ⊢
  rw [h.len]
  cases q : ixN l.length i with
  | none => rw [q] at e; cases e
  | some j =>
    rw [q] at e
    exact h.getD e
theorem pd_ix {a b : Expr} {da db : DE} {pos : Pos} (ha : PD X p a da) (hb : PD X p b db) (hs : PlainIx b := by exact fun _ _ => rfl) : PD X p (.Subscript a b pos) (dOp gIx da db) := by
  obtain ⟨ta, a1, a2⟩ := ha.run
  obtain ⟨tb, b1, b2⟩ := hb.run
  refine ⟨_, pe_ix ix_seq a1 b1 hs, op_run (fun F H x y v u Q R pk ix iy hh q => ?_) a2 b2⟩
  unfold gIx at hh
  split at hh
  · cases iy
    cases ix with
    | tup hs hn hl =>
      split at hh
      · rename_i d e
        obtain ⟨w, e1, e2⟩ := hl.atI (atD_at e)
        exact .inr (.inl ⟨_, _, _, w, rfl, rfl, hs, e1, q _ _ H (.refl pk.pk) e2 hh⟩)
      · exact hh.elim
  · cases iy
    cases ix with
    | lst hs hn hl =>
      split at hh
      · rename_i d e
        obtain ⟨w, e1, e2⟩ := hl.atI (atD_at e)
        exact .inl ⟨_, _, _, w, rfl, rfl, (Rdl.sq hs), e1, q _ _ H (.refl pk.pk) e2 hh⟩
      · exact hh.elim
  · cases iy
    cases ix
    obtain ⟨m, n, p0, p1, p2, hp⟩ := pk.pk.at_
    split at hh
    · rename_i e0
      subst e0
      exact .inl ⟨p.pot, _, 0, .int m, rfl, rfl, SqL.of hp, rfl, q _ _ H (.refl pk.pk) (.int m) (hh m p0)⟩
    · obtain ⟨rfl, hh⟩ := hh
      exact .inl ⟨p.pot, _, 1, .int n, rfl, rfl, SqL.of hp, rfl, q _ _ H (.refl pk.pk) (.int n) (hh n p1 p2)⟩
  · exact hh.elim

/-! ### built-ins -/
def cLen : List D → (D → Prop) → Prop := fun xs R => match xs with
  | [.tup l] => R (.int l.length)
  | [.lst l] => R (.int l.length)
  | _ => False
theorem cd_len : CallD X p (.builtin "len") cLen := by
  refine ⟨_, call_len_seq, fun F H xs vs Q R pk ix hh q => ?_⟩
  unfold cLen at hh
  split at hh
  · cases ix with
    | cons i1 i2 =>
      cases i2
      cases i1 with
      | tup hs hn hl => exact ⟨_, _, rfl, .inr hs, by rw [hl.len]; exact q _ _ H (.refl pk.pk) (.int _) hh⟩
  · cases ix with
    | cons i1 i2 =>
      cases i2
      cases i1 with
      | lst hs hn hl => exact ⟨_, _, rfl, .inl (Rdl.sq hs), by rw [hl.len]; exact q _ _ H (.refl pk.pk) (.int _) hh⟩
  · exact hh.elim
def cI1 (g : Int → D) : List D → (D → Prop) → Prop := fun xs R => match xs with
  | [.int i] => R (g i)
  | _ => False
def cI2 (C : Int → Int → Prop) (g : Int → Int → D) : List D → (D → Prop) → Prop := fun xs R => match xs with
  | [.int i, .int j] => C i j ∧ R (g i j)
  | _ => False
theorem cI1_of {f : Value} {r : List V → Hp → VK → Prop} {g : Int → D} (hr : CallR X f r) (h : ∀ i F H Q, PkF p F H → (∀ v' H', Ex p H H' → Is X.K p F H' v' (g i) → Q v' H') → r [.int i] H Q) : CallD X p f (cI1 g) := by
  refine ⟨_, hr, fun F H xs vs Q R pk ix hh q => ?_⟩
  unfold cI1 at hh
  split at hh
  · cases ix with
    | cons i1 i2 =>
      cases i2
      cases i1
      exact h _ F H Q pk fun v' H' e i => q _ v' H' e i hh
  · exact hh.elim
theorem cI2_of {f : Value} {r : List V → Hp → VK → Prop} {C : Int → Int → Prop} {g : Int → Int → D} (hr : CallR X f r) (h : ∀ i j F H Q, C i j → PkF p F H → (∀ v' H', Ex p H H' → Is X.K p F H' v' (g i j) → Q v' H') → r [.int i, .int j] H Q) : CallD X p f (cI2 C g) := by
  refine ⟨_, hr, fun F H xs vs Q R pk ix hh q => ?_⟩
  unfold cI2 at hh
  split at hh
  · cases ix with
    | cons i1 i2 =>
      cases i2 with
      | cons i2 i3 =>
        cases i3
        cases i1
        cases i2
        exact h _ _ F H Q hh.1 pk fun v' H' e i => q _ v' H' e i hh.2
  · exact hh.elim
theorem cd_abs : CallD X p (.builtin "abs") (cI1 fun i => .int (i.natAbs : Int)) := cI1_of call_abs fun i F H Q pk q => ⟨i, rfl, by
  have e : (if i < 0 then -i else i) = (i.natAbs : Int) := by split <;> omega
  rw [e]
  exact q _ H (.refl pk.pk) (.int _)⟩
theorem cd_int : CallD X p (.type "int") (cI1 fun i => .int i) := cI1_of call_int1 fun i F H Q pk q => .inl ⟨i, rfl, q _ H (.refl pk.pk) (.int _)⟩
theorem cd_divmod : CallD X p (.builtin "divmod") (cI2 (fun _ j => BD j) fun i j => .tup [.int (i / j), .int (i % j)]) := cI2_of call_divmodW fun i j F H Q hc pk q => by
  refine ⟨i, j, rfl, ⟨hc.1, ?_⟩, fun a ha => ?_⟩
  · have hj : j.natAbs.log2 < 8990 := hc.2
    show (decide ((if j == 0 then 0 else j.natAbs.log2 / 30 + 1) > 300) && _) = false
    rw [decide_eq_false (by split <;> omega), Bool.false_and]
  · have e := Ex.new (o := .tup [.int (i / j), .int (i % j)]) pk.pk ha
    exact q _ _ e (.tup (SqT.of upd_same) (pk.ne ha) (.cons (.int _) (.cons (.int _) .nil)))
/-- max, min: two ints, a list of ints -/
def intsOf : List D → Option (List Int)
  | [] => some []
  | .int i :: l => (intsOf l).map (i :: ·)
  | _ => none
theorem intsOf_eq : ∀ {l : List D} {ns : List Int}, intsOf l = some ns → l = ns.map D.int
  | [], ns, h => by cases h; rfl
  | .int i :: l, ns, h => by
    unfold intsOf at h
    cases q : intsOf l with
    | none => rw [q] at h; cases h
    | some ms =>
      rw [q] at h
      cases h
      rw [intsOf_eq q]
      rfl
def boolsOf : List D → Option (List Bool)
  | [] => some []
  | .bl i :: l => (boolsOf l).map (i :: ·)
  | _ => none
theorem boolsOf_eq : ∀ {l : List D} {ns : List Bool}, boolsOf l = some ns → l = ns.map D.bl
  | [], ns, h => by cases h; rfl
  | .bl i :: l, ns, h => by
    unfold boolsOf at h
    cases q : boolsOf l with
    | none => rw [q] at h; cases h
    | some ms =>
      rw [q] at h
      cases h
      rw [boolsOf_eq q]
      rfl
def maxL : Int → List Int → Int
  | a, [] => a
  | a, b :: l => maxL (max a b) l
def minL : Int → List Int → Int
  | a, [] => a
  | a, b :: l => minL (min a b) l
theorem maxL_ge : ∀ (l : List Int) (a : Int), a ≤ maxL a l ∧ ∀ y ∈ l, y ≤ maxL a l
  | [], a => ⟨Int.le_refl _, fun y h => by cases h⟩
  | b :: l, a => by
    obtain ⟨h1, h2⟩ := maxL_ge l (max a b)
    refine ⟨by show a ≤ maxL (max a b) l; omega, fun y hy => ?_⟩
    rcases List.mem_cons.mp hy with e | e
    · subst e
      show y ≤ maxL (max a y) l
      omega
    · exact h2 y e
theorem maxL_mem : ∀ (l : List Int) (a : Int), maxL a l = a ∨ maxL a l ∈ l
  | [], a => .inl rfl
  | b :: l, a => by
    show maxL (max a b) l = a ∨ maxL (max a b) l ∈ b :: l
    rcases maxL_mem l (max a b) with e | e
    · rw [e]
      by_cases h : a ≤ b
      · exact .inr (by rw [Int.max_eq_right h]; exact List.mem_cons_self)
      · exact .inl (Int.max_eq_left (by omega))
    · exact .inr (List.mem_cons_of_mem _ e)
theorem minL_le : ∀ (l : List Int) (a : Int), minL a l ≤ a ∧ ∀ y ∈ l, minL a l ≤ y
  | [], a => ⟨Int.le_refl _, fun y h => by cases h⟩
  | b :: l, a => by
    obtain ⟨h1, h2⟩ := minL_le l (min a b)
    refine ⟨by show minL (min a b) l ≤ a; omega, fun y hy => ?_⟩
    rcases List.mem_cons.mp hy with e | e
    · subst e
      show minL (min a y) l ≤ y
      omega
    · exact h2 y e
theorem minL_mem : ∀ (l : List Int) (a : Int), minL a l = a ∨ minL a l ∈ l
  | [], a => .inl rfl
  | b :: l, a => by
    show minL (min a b) l = a ∨ minL (min a b) l ∈ b :: l
    rcases minL_mem l (min a b) with e | e
    · rw [e]
      by_cases h : a ≤ b
      · exact .inl (Int.min_eq_left h)
      · exact .inr (by rw [Int.min_eq_right (by omega)]; exact List.mem_cons_self)
    · exact .inr (List.mem_cons_of_mem _ e)
def cMax : List D → (D → Prop) → Prop := fun xs R => match xs with
  | [.int i, .int j] => R (.int (max i j))
  | [.lst l] => match intsOf l with
    | some (n :: ns) => R (.int (maxL n ns))
    | _ => False
  | _ => False
def cMin : List D → (D → Prop) → Prop := fun xs R => match xs with
  | [.int i, .int j] => R (.int (min i j))
  | [.lst l] => match intsOf l with
    | some (n :: ns) => R (.int (minL n ns))
    | _ => False
  | _ => False
theorem cd_max (hc : X.calm = true) : CallD X p (.builtin "max") cMax := by
  refine ⟨_, (call_max2 hc).or (cr_max hc), fun F H xs vs Q R pk ix hh q => ?_⟩
  unfold cMax at hh
  split at hh
  · rename_i i j
    cases ix with
    | cons i1 i2 =>
      cases i2 with
      | cons i2 i3 =>
        cases i3
        cases i1
        cases i2
        have e : (if j > i then j else i) = max i j := by split <;> omega
        exact .inl ⟨i, j, rfl, by rw [e]; exact q _ _ H (.refl pk.pk) (.int _) hh⟩
  · split at hh
    · rename_i l n ns e
      cases ix with
      | cons i1 i2 =>
        cases i2
        cases i1 with
        | lst hs hn hl =>
          rw [intsOf_eq e] at hl
          rw [hl.ints] at hs
          refine .inr ⟨_, n :: ns, rfl, (Rdl.sq hs), by simp, fun m hm hall => ?_⟩
          have em : m = maxL n ns := by
            have h1 : m ≤ maxL n ns := by
              rcases List.mem_cons.mp hm with e | e
              · rw [e]; exact (maxL_ge ns n).1
              · exact (maxL_ge ns n).2 m e
            have h2 : maxL n ns ≤ m := hall _ (by
              rcases maxL_mem ns n with e | e
              · rw [e]; exact List.mem_cons_self
              · exact List.mem_cons_of_mem _ e)
            omega
          subst em
          exact q _ _ H (.refl pk.pk) (.int _) hh
    · exact hh.elim
  · exact hh.elim
theorem cd_min (hc : X.calm = true) : CallD X p (.builtin "min") cMin := by
  refine ⟨_, (call_min2 hc).or (cr_min hc), fun F H xs vs Q R pk ix hh q => ?_⟩
  unfold cMin at hh
  split at hh
  · rename_i i j
    cases ix with
    | cons i1 i2 =>
      cases i2 with
      | cons i2 i3 =>
        cases i3
        cases i1
        cases i2
        have e : (if j < i then j else i) = min i j := by split <;> omega
        exact .inl ⟨i, j, rfl, by rw [e]; exact q _ _ H (.refl pk.pk) (.int _) hh⟩
  · split at hh
    · rename_i l n ns e
      cases ix with
      | cons i1 i2 =>
        cases i2
        cases i1 with
        | lst hs hn hl =>
          rw [intsOf_eq e] at hl
          rw [hl.ints] at hs
          refine .inr ⟨_, n :: ns, rfl, (Rdl.sq hs), by simp, fun m hm hall => ?_⟩
          have em : m = minL n ns := by
            have h1 : minL n ns ≤ m := by
              rcases List.mem_cons.mp hm with e | e
              · rw [e]; exact (minL_le ns n).1
              · exact (minL_le ns n).2 m e
            have h2 : m ≤ minL n ns := hall _ (by
              rcases minL_mem ns n with e | e
              · rw [e]; exact List.mem_cons_self
              · exact List.mem_cons_of_mem _ e)
            omega
          subst em
          exact q _ _ H (.refl pk.pk) (.int _) hh
    · exact hh.elim
  · exact hh.elim
def cAll : List D → (D → Prop) → Prop := fun xs R => match xs with
  | [.lst l] => match boolsOf l with
    | some bs => R (.bl (bs.all id))
    | _ => False
  | _ => False
def cAny : List D → (D → Prop) → Prop := fun xs R => match xs with
  | [.lst l] => match boolsOf l with
    | some bs => R (.bl (bs.any id))
    | _ => False
  | _ => False
theorem cd_all (hc : X.calm = true) : CallD X p (.builtin "all") cAll := by
  refine ⟨_, cr_all hc, fun F H xs vs Q R pk ix hh q => ?_⟩
  unfold cAll at hh
  split at hh
  · split at hh
    · rename_i l bs e
      cases ix with
      | cons i1 i2 =>
        cases i2
        cases i1 with
        | lst hs hn hl =>
          rw [boolsOf_eq e] at hl
          rw [hl.bools] at hs
          exact ⟨_, bs, rfl, (Rdl.sq hs), q _ _ H (.refl pk.pk) (.bl _) hh⟩
    · exact hh.elim
  · exact hh.elim
theorem cd_any (hc : X.calm = true) : CallD X p (.builtin "any") cAny := by
  refine ⟨_, cr_any hc, fun F H xs vs Q R pk ix hh q => ?_⟩
  unfold cAny at hh
  split at hh
  · split at hh
    · rename_i l bs e
      cases ix with
      | cons i1 i2 =>
        cases i2
        cases i1 with
        | lst hs hn hl =>
          rw [boolsOf_eq e] at hl
          rw [hl.bools] at hs
          exact ⟨_, bs, rfl, (Rdl.sq hs), q _ _ H (.refl pk.pk) (.bl _) hh⟩
    · exact hh.elim
  · exact hh.elim
end
end DL
/-! Defs where no repr is under way; their calls; the end of a law. -/
namespace DL
open PySem PySem.Spec L2
open PyProof.Rows hiding St

/-- a def's promise where no container is being shown -/
structure FnG (P : Program) (w : World) (K : PySem.W.Frag) (mg : Str → Option Value) (base : Heap) (CX : CXT) (k : Nat) (f : Addr) (fd : FuncData) (ps : List Str) (sp : Sp) : Prop where
  len : ∀ vs H Q E, sp vs H Q E → vs.length = ps.length
  go : ∀ (A : Around) (outer : List Env) (s : Shared) (H : Hp) (args : Args) (us : List Value) (vs : List V) (Q : VK) (E : XK), A.guards = some [] → Room k A → Env0 P w K mg base A outer s H →
    BindsTo s fd args (ps.zip us) → Vals vs us → sp vs H Q E → codeAny (model P w) A (.call (.ref f) args) (CR CX outer P w H s Q E) s
section
variable {P : Program} {w : World} {K : PySem.W.Frag} {mg : Str → Option Value} {base : Heap} {CX : CXT} {k : Nat} {f : Addr} {fd : FuncData} {ps : List Str} {sp : Sp}
theorem FnG.weak {j : Nat} (F : FnG P w K mg base CX k f fd ps sp) (h : k ≤ j) : FnG P w K mg base CX j f fd ps sp :=
  ⟨F.len, fun A outer s H args us vs Q E g r => F.go A outer s H args us vs Q E g (r.mono h)⟩
/-- from the body -/
theorem funG {x qual : Str} {st : Stmt} {N : List Str} (F : Fun K x qual st f fd) (S : FnScope N ps (defScope st)) (hlen : ∀ vs H Q E, sp vs H Q E → vs.length = ps.length)
    (body : ∀ (cdv : Value) (A : Around) (outer : List Env) (s : Shared) (H : Hp) (vs : List V) (Q : VK) (E : XK), fd.code = cdv → A.guards = some [] → (∀ a o, K.lookup a = some o → H a = none) → Room k (A.deeper (envOfC qual (defScope st) s.heap.objs.size f cdv)) → sp vs H Q E →
      ∃ t, PSs (cxOf CX P w K mg base N qual (defScope st) f cdv A outer s H E) (defBody st) t ∧ t { nx := fun _ H' => Q .non H', rt := Q } (L2.start N vs) H) : FnG P w K mg base CX (k + 1) f fd ps sp := by
  obtain ⟨oc, od, kV, doc, pm, an, cdv, ct, osl, rfl, lk, hcd⟩ := F.ex
  refine ⟨hlen, fun A outer s H args us vs Q E hg room ev bnd rel prom => ?_⟩
  have inK : K.In s.heap := ev.mod.kin.keeps fun b o q => And.left (ev.bs b o q)
  have lims : s.heap.NoLimit := ev.mod.nolimit.keeps fun b o q => And.left (ev.bs b o q)
  have kinds : ∀ y ∈ ps.zip us, (defScope st).names.lookup y.1 = some .local ∨ ((defScope st).names.lookup y.1 = some .cell ∧ ((cellsFrom (s.heap.objs.size + 1) (defScope st).names []).lookup y.1).isSome = true) := by
    rintro ⟨n, v⟩ hy
    exact (S.par n (And.left (List.of_mem_zip hy))).elim .inl fun q => .inr ⟨q, PySem.W.cellsFrom_some _ _ _ (Or.inl q)⟩
  refine codeAny_call_function room.depth (inK f _ lk) rfl S.co S.gen rfl (PySem.W.codeRec_of inK hcd) (bnd _ _ _ _ (wpAny_newFunctionEnv_cells S.kind kinds ?_))
  intro env0 hE s1 ent
  subst hE
  refine ⟨lims.keeps ent.toInCall.keep, codeAny_func ?_⟩
  obtain ⟨t, ht, q⟩ := body cdv A outer s H vs Q E rfl hg (fun a o lo => (ev.bs a o (ev.mod.kin a o lo)).2) (room.deeper _) prom
  have J := inv_start (CX := CX) (N := N) (E := E) S room.hd ev (hlen _ _ _ _ prom) rel ent
  refine wpAny_mono (ht.run [] s1 (L2.start N vs) H _ J q) ?_ fun _ _ z => z
  rintro (_ | u | _ | _) s' ho
  · obtain ⟨σ', H', J', q'⟩ := ho
    exact ⟨V.non, H', J'.os, J'.bare, J'.base, J'.hok, rfl, q'⟩
  · first
      | (obtain ⟨_, _, _, z⟩ := ho; exact (show False from z).elim)
      | (obtain ⟨v, σ', H', J', rv, q'⟩ := ho; exact ⟨v, H', J'.os, J'.bare, J'.base, J'.hok, rv, q'⟩)
  · first
      | (obtain ⟨_, _, _, z⟩ := ho; exact (show False from z).elim)
      | (obtain ⟨v, σ', H', J', rv, q'⟩ := ho; exact ⟨v, H', J'.os, J'.bare, J'.base, J'.hok, rv, q'⟩)
  · first
      | (obtain ⟨_, _, _, z⟩ := ho; exact (show False from z).elim)
      | (obtain ⟨v, σ', H', J', rv, q'⟩ := ho; exact ⟨v, H', J'.os, J'.bare, J'.base, J'.hok, rv, q'⟩)
end

/-- how written arguments (us, and ws by the names ks) come to the parameters -/
def BindK (K : PySem.W.Frag) (fd : FuncData) (ps ks : List Str) (n : Nat) (perm : List Nat) : Prop :=
  ∀ (s : Shared) (us ws : List Value), K.In s.heap → us.length = n → ws.length = ks.length → ∃ zs : List Value, BindsTo s fd ⟨us, ks.zip ws⟩ (ps.zip zs) ∧ zs.length = ps.length ∧ perm.length = ps.length ∧ ∀ (i j : Nat), perm[i]? = some j → zs[i]? = (us ++ ws)[j]? ∧ j < (us ++ ws).length
section
variable {X : Cx} {CX : CXT} {k n : Nat} {f : Addr} {fd : FuncData} {ps ks : List Str} {sp : Sp} {E : XK} {x : Str} {q pos : Pos} {e : Expr} {es : List Expr} {kws : List Keyword} {t tk : TA}
/-- the callee runs -/
theorem goG {pins : List (Addr × Obj)} {σ : L2.St} {H : Hp} {s : Shared} {Q : VK} {args : Args} {us : List Value} {vs : List V} (F : FnG X.prog X.w X.K X.mg X.base CX k f fd ps sp) (hg : X.A.guards = some []) (hr : Room k X.A) (hx : Passes CX X E)
    (I : Inv X pins σ H s) (hb : BindsTo s fd args (ps.zip us)) (r : Vals vs us) (h : sp vs H Q E) : wpAny (model X.prog X.w) X.A (call (.ref f) args.pos args.kw) (EP X pins σ Q) X.xe s := by
  refine wpAny_call (codeAny_mono (F.go X.A X.stack s H args us vs Q E hg hr I.env0 hb r h) ?_)
  intro res s' out
  match res, out with
  | .error v, o => exact hx pins σ H s v s' I o
  | .ok (.ret u), o => exact I.after o
  | .ok .next, o => exact False.elim o
  | .ok .brk, o => exact False.elim o
  | .ok .cont, o => exact False.elim o
theorem pe_callG (F : FnG X.prog X.w X.K X.mg X.base CX k f fd ps sp) (hgu : X.A.guards = some []) (hr : Room k X.A) (hx : Passes CX X E) (hg : Gl X x) (hm : X.mg x = some (.ref f)) (hk : PySem.W.keepIn X.K (.ref f) = true) (hb : Binds X.K fd ps [])
    (ha : PA X (e :: es) t) (hdb : (x == ("__debug__" : Str)) = false := by decide) (he : starEach (e :: es) X.env = (false, eval e X.env) :: starEach es X.env := by rfl) (hpl : (backTo pos (starEach es X.env)).any (·.1) = false := by rfl) :
    PE X (.Call (.Name x q) (e :: es) [] pos) (fun σ H Q => t σ H fun vs H1 => sp vs H1 Q E) := by
  refine ⟨fun pins s σ H Q I h => wpAny_Call_Name_kw (ld_glob I hg hm ?_ hdb)⟩
  refine PySem.W.callWith_K (h₀ := X.base) I.ok.mod.kin hk (thn (ha.run pos pins s σ H _ I h) ?_) he hpl
  rintro us s1 ⟨vs, H1, I1, r, z⟩
  have hl : (us ++ []).length = ps.length := by rw [List.append_nil, ← r.length]; exact F.len _ _ _ _ z
  have b := hb s1 us I1.kIn hl
  rw [List.append_nil] at b
  exact ⟨I1.kIn, goG (args := ⟨us, []⟩) F hgu hr hx I1 b r z⟩
theorem pe_callG0 (F : FnG X.prog X.w X.K X.mg X.base CX k f fd ps sp) (hgu : X.A.guards = some []) (hr : Room k X.A) (hx : Passes CX X E) (hg : Gl X x) (hm : X.mg x = some (.ref f)) (hk : PySem.W.keepIn X.K (.ref f) = true) (hb : Binds X.K fd ps [])
    (hdb : (x == ("__debug__" : Str)) = false := by decide) : PE X (.Call (.Name x q) [] [] pos) (fun _ H Q => sp [] H Q E) := by
  refine ⟨fun pins s σ H Q I z => wpAny_Call_Name_kw (ld_glob I hg hm ?_ hdb)⟩
  have hl : (([] : List Value) ++ []).length = ps.length := F.len _ _ _ _ z
  exact PySem.W.callWith_K0 I.kIn hk (goG (args := ⟨[], []⟩) F hgu hr hx I (hb s [] I.kIn hl) .nil z)
/-- the arguments put in the parameters' order -/
def ordV (perm : List Nat) (vs : List V) : List V := perm.map fun j => vs.getD j .non
theorem ordV_rel {perm : List Nat} {vs : List V} {us zs : List Value} (r : Vals vs us) (hl : perm.length = zs.length) (h : ∀ (i j : Nat), perm[i]? = some j → zs[i]? = us[j]? ∧ j < us.length) : Vals (ordV perm vs) zs := by
  unfold ordV
  induction perm generalizing zs with
  | nil =>
    cases zs with
    | nil => exact .nil
    | cons _ _ => simp at hl
  | cons j perm ih =>
    cases zs with
    | nil => simp at hl
    | cons z zs =>
      refine .cons ?_ (ih (by simpa using hl) fun i j' e => by simpa using h (i + 1) j' (by simpa using e))
      obtain ⟨h1, h2⟩ := h 0 j rfl
      obtain ⟨u, hu⟩ : ∃ u, us[j]? = some u := ⟨us[j], by simp [h2]⟩
      have e1 : z = u := by
        rw [hu] at h1
        simpa using h1
      have h3 : j < vs.length := by rw [r.length]; exact h2
      obtain ⟨u', g1, g2⟩ := r.get (i := j) (x := vs[j]) (by simp [h3])
      rw [hu] at g1
      cases g1
      rw [e1]
      show RelV (vs.getD j .non) u
      rw [List.getD_eq_getElem?_getD, List.getElem?_eq_getElem h3]
      exact g2
theorem pe_callGK (F : FnG X.prog X.w X.K X.mg X.base CX k f fd ps sp) (hgu : X.A.guards = some []) (hr : Room k X.A) (hx : Passes CX X E) (hg : Gl X x) (hm : X.mg x = some (.ref f)) (hk : PySem.W.keepIn X.K (.ref f) = true) {perm : List Nat} (hb : BindK X.K fd ps ks (es.length + 1) perm)
    (ha : PA X (e :: es) t) (hkw : PK X kws tk) (hall : (backToKw pos (keywordEach kws X.env)).all (·.1.isSome) = true := by rfl) (hks : (backToKw pos (keywordEach kws X.env)).filterMap (·.1) = ks := by rfl)
    (hdb : (x == ("__debug__" : Str)) = false := by decide) (he : starEach (e :: es) X.env = (false, eval e X.env) :: starEach es X.env := by rfl)
    (hpl : ((backTo pos (starEach (e :: es) X.env)).any (·.1) || (backToKw pos (keywordEach kws X.env)).any (·.1.isNone)) = false := by rfl) :
    PE X (.Call (.Name x q) (e :: es) kws pos) (fun σ H Q => t σ H fun vs H1 => tk σ H1 fun ws H2 => vs.length = es.length + 1 ∧ ws.length = ks.length ∧ sp (ordV perm (vs ++ ws)) H2 Q E) := by
  refine ⟨fun pins s σ H Q I h => wpAny_Call_Name_kw (ld_glob I hg hm ?_ hdb)⟩
  refine PySem.W.callWith_KW (h₀ := X.base) I.ok.mod.kin hk hall (thn (ha.run pos pins s σ H _ I h) ?_) hpl he
  rintro us s1 ⟨vs, H1, I1, r, h⟩
  refine thn (hkw.run pos pins s1 σ H1 _ I1 h) ?_
  rintro ws s2 ⟨zs, H2, I2, r2, l1, l2, z⟩
  rw [hks]
  obtain ⟨os, b1, b2, b3, b4⟩ := hb s2 us ws I2.kIn (by rw [← r.length]; exact l1) (by rw [← r2.length]; exact l2)
  exact ⟨I2.kIn, goG (args := ⟨us, ks.zip ws⟩) F hgu hr hx I2 b1 (ordV_rel (r.append r2) (by rw [b3, b2]) b4) z⟩
theorem pe_callGK0 (F : FnG X.prog X.w X.K X.mg X.base CX k f fd ps sp) (hgu : X.A.guards = some []) (hr : Room k X.A) (hx : Passes CX X E) (hg : Gl X x) (hm : X.mg x = some (.ref f)) (hk : PySem.W.keepIn X.K (.ref f) = true) {perm : List Nat} (hb : BindK X.K fd ps ks 0 perm)
    (hkw : PK X kws tk) (hall : (backToKw pos (keywordEach kws X.env)).all (·.1.isSome) = true := by rfl) (hks : (backToKw pos (keywordEach kws X.env)).filterMap (·.1) = ks := by rfl)
    (hdb : (x == ("__debug__" : Str)) = false := by decide)
    (hpl : ((backTo pos (starEach [] X.env)).any (·.1) || (backToKw pos (keywordEach kws X.env)).any (·.1.isNone)) = false := by rfl) :
    PE X (.Call (.Name x q) [] kws pos) (fun σ H Q => tk σ H fun ws H2 => ws.length = ks.length ∧ sp (ordV perm ws) H2 Q E) := by
  refine ⟨fun pins s σ H Q I h => wpAny_Call_Name_kw (ld_glob I hg hm ?_ hdb)⟩
  refine PySem.W.callWith_KW0 (h₀ := X.base) I.ok.mod.kin hk hall (thn (hkw.run pos pins s σ H _ I h) ?_) hpl
  rintro ws s2 ⟨zs, H2, I2, r2, l2, z⟩
  rw [hks]
  obtain ⟨os, b1, b2, b3, b4⟩ := hb s2 [] ws I2.kIn rfl (by rw [← r2.length]; exact l2)
  exact ⟨I2.kIn, goG (args := ⟨[], ks.zip ws⟩) F hgu hr hx I2 b1 (ordV_rel r2 (by rw [b3, b2]) b4) z⟩
end

/-! ### the same on data -/
section
variable {X : Cx} {p : Qt} {pos q : Pos} {e : Expr} {es : List Expr} {kws : List Keyword} {ds dk : DA} {k n : Nat} {f : Addr} {fd : FuncData} {ps ks : List Str} {sp : SpD} {x : Str}
theorem pdc (F : FnG X.prog X.w X.K X.mg X.base CX0 k f fd ps (toSp X.K p.tf n sp)) (hgu : X.A.guards = some []) (hr : Room k X.A) (hm : X.mg x = some (.ref f)) (hk : PySem.W.keepIn X.K (.ref f) = true) (hb : Binds X.K fd ps [])
    (ha : PDA X p (e :: es) ds) (hg : Gl X x := by rfl) (hn : (e :: es).length = n := by rfl) (hdb : (x == ("__debug__" : Str)) = false := by decide) (he : starEach (e :: es) X.env = (false, eval e X.env) :: starEach es X.env := by rfl) (hpl : (backTo pos (starEach es X.env)).any (·.1) = false := by rfl) :
    PD X p (.Call (.Name x q) (e :: es) [] pos) (dB sp ds) := by
  obtain ⟨t, h1, h2⟩ := ha.run
  refine ⟨_, pe_callG F hgu hr pass0 hg hm hk hb h1 hdb he hpl, fun g0 F σ H τ Q R rel h q => ?_⟩
  refine h2 g0 F σ H τ _ _ rel h fun xs vs H1 e1 i1 l1 h1 => ?_
  exact ⟨by rw [l1]; exact hn, p.pot, F, xs, R, (rel.st e1).pkf, i1, h1, fun z v' H' e i r => q z v' H' (e1.trans e) i r⟩
theorem pdc0 (F : FnG X.prog X.w X.K X.mg X.base CX0 k f fd ps (toSp X.K p.tf 0 sp)) (hgu : X.A.guards = some []) (hr : Room k X.A) (hm : X.mg x = some (.ref f)) (hk : PySem.W.keepIn X.K (.ref f) = true) (hb : Binds X.K fd ps [])
    (hg : Gl X x := by rfl) (hdb : (x == ("__debug__" : Str)) = false := by decide) : PD X p (.Call (.Name x q) [] [] pos) (dB sp dNil) := by
  refine ⟨_, pe_callG0 F hgu hr pass0 hg hm hk hb hdb, fun g0 F σ H τ Q R rel h q => ?_⟩
  exact ⟨rfl, p.pot, F, [], R, rel.pkf, .nil, h, q⟩
structure PDK (X : Cx) (p : Qt) (kws : List Keyword) (d : DA) : Prop where
  run : ∃ t, PK X kws t ∧ ∀ (g0 : Gd) (F : List Addr) (σ : L2.St) (H : Hp) (τ : Sl) (Q : List V → Hp → Prop) (R : List D → Prop), Rel X.K p g0 F σ H τ → d τ R → (∀ xs vs H', Ex p H H' → IsL X.K p F H' vs xs → vs.length = kws.length → R xs → Q vs H') → t σ H Q
theorem pdk_nil : PDK X p [] dNil := ⟨_, pk_nil, fun g0 F σ H τ Q R rel h q => q [] [] H (.refl rel.pk) .nil rfl h⟩
theorem pdk_cons {nm : Option Str} {da : DE} {kpos : Pos} (ha : PD X p e da) (hr : PDK X p kws dk) : PDK X p (⟨nm, e, kpos⟩ :: kws) (dCons da dk) := by
  obtain ⟨t, h1, h2⟩ := ha.run
  obtain ⟨u, k1, k2⟩ := hr.run
  refine ⟨_, pk_cons h1 k1, fun g0 F σ H τ Q R rel h q => ?_⟩
  refine h2 g0 F σ H τ _ _ rel h fun xs vs H1 e1 i1 h1 => ?_
  exact k2 g0 F σ H1 τ _ _ (rel.st e1) h1 fun xs vs H2 e2 i2 l2 h2 => q _ _ H2 (e1.trans e2) (.cons (i1.mono e2.kp) i2) (by simp [l2]) h2
def ordD (perm : List Nat) (xs : List D) : List D := perm.map fun j => xs.getD j .non
theorem ord_is {K : PySem.W.Frag} {F : List Addr} {H : Hp} {vs : List V} {xs : List D} (h : IsL K p F H vs xs) : ∀ {perm : List Nat}, (∀ j ∈ perm, j < vs.length) → IsL K p F H (ordV perm vs) (ordD perm xs)
  | [], _ => .nil
  | j :: perm, a => by
    refine .cons ?_ (ord_is (perm := perm) h fun i hi => a i (List.mem_cons_of_mem _ hi))
    have hj := a j List.mem_cons_self
    have hj2 : j < xs.length := by rw [← h.len]; exact hj
    obtain ⟨d, e1, e2⟩ := h.get (i := j) (v := vs[j]) (by simp [hj])
    show Is K p F H (vs.getD j .non) (xs.getD j .non)
    rw [List.getD_eq_getElem?_getD, List.getElem?_eq_getElem hj, List.getD_eq_getElem?_getD, e1]
    exact e2
def dBK (sp : SpD) (perm : List Nat) (ds dk : DA) : DE := fun τ R => ds τ fun xs => dk τ fun ys => sp (ordD perm (xs ++ ys)) R
theorem pdcK {perm : List Nat} (F : FnG X.prog X.w X.K X.mg X.base CX0 k f fd ps (toSp X.K p.tf n sp)) (hgu : X.A.guards = some []) (hr : Room k X.A) (hm : X.mg x = some (.ref f)) (hk : PySem.W.keepIn X.K (.ref f) = true) (hb : BindK X.K fd ps ks (es.length + 1) perm)
    (ha : PDA X p (e :: es) ds) (hkw : PDK X p kws dk) (hn : perm.length = n := by rfl) (hp : ∀ j ∈ perm, j < es.length + 1 + kws.length := by decide) (hlk : kws.length = ks.length := by rfl) (hg : Gl X x := by rfl) (hall : (backToKw pos (keywordEach kws X.env)).all (·.1.isSome) = true := by rfl) (hks : (backToKw pos (keywordEach kws X.env)).filterMap (·.1) = ks := by rfl)
    (hdb : (x == ("__debug__" : Str)) = false := by decide) (he : starEach (e :: es) X.env = (false, eval e X.env) :: starEach es X.env := by rfl)
    (hpl : ((backTo pos (starEach (e :: es) X.env)).any (·.1) || (backToKw pos (keywordEach kws X.env)).any (·.1.isNone)) = false := by rfl) :
    PD X p (.Call (.Name x q) (e :: es) kws pos) (dBK sp perm ds dk) := by
  obtain ⟨t, h1, h2⟩ := ha.run
  obtain ⟨u, k1, k2⟩ := hkw.run
  refine ⟨_, pe_callGK F hgu hr pass0 hg hm hk hb h1 k1 hall hks hdb he hpl, fun g0 F σ H τ Q R rel h q => ?_⟩
  refine h2 g0 F σ H τ _ _ rel h fun xs vs H1 e1 i1 l1 h1 => ?_
  refine k2 g0 F σ H1 τ _ _ (rel.st e1) h1 fun ys ws H2 e2 i2 l2 h2 => ⟨by rw [l1]; rfl, by rw [l2, hlk], ?_⟩
  have l1' : vs.length = es.length + 1 := l1
  refine ⟨by unfold ordV; rw [List.length_map]; exact hn, p.pot, F, _, R, (rel.st (e1.trans e2)).pkf, ord_is ((i1.mono e2.kp).app i2) (fun j hj => ?_), h2, fun z v' H' e i r => q z v' H' ((e1.trans e2).trans e) i r⟩
  have := hp j hj
  rw [List.length_append]
  omega
theorem pdcK0 {perm : List Nat} (F : FnG X.prog X.w X.K X.mg X.base CX0 k f fd ps (toSp X.K p.tf n sp)) (hgu : X.A.guards = some []) (hr : Room k X.A) (hm : X.mg x = some (.ref f)) (hk : PySem.W.keepIn X.K (.ref f) = true) (hb : BindK X.K fd ps ks 0 perm)
    (hkw : PDK X p kws dk) (hn : perm.length = n := by rfl) (hp : ∀ j ∈ perm, j < kws.length := by decide) (hlk : kws.length = ks.length := by rfl) (hg : Gl X x := by rfl) (hall : (backToKw pos (keywordEach kws X.env)).all (·.1.isSome) = true := by rfl) (hks : (backToKw pos (keywordEach kws X.env)).filterMap (·.1) = ks := by rfl)
    (hdb : (x == ("__debug__" : Str)) = false := by decide)
    (hpl : ((backTo pos (starEach [] X.env)).any (·.1) || (backToKw pos (keywordEach kws X.env)).any (·.1.isNone)) = false := by rfl) :
    PD X p (.Call (.Name x q) [] kws pos) (dBK sp perm dNil dk) := by
  obtain ⟨u, k1, k2⟩ := hkw.run
  refine ⟨_, pe_callGK0 F hgu hr pass0 hg hm hk hb k1 hall hks hdb hpl, fun g0 F σ H τ Q R rel h q => ?_⟩
  refine k2 g0 F σ H τ _ _ rel h fun ys ws H2 e2 i2 l2 h2 => ⟨by rw [l2, hlk], ?_⟩
  refine ⟨by unfold ordV; rw [List.length_map]; exact hn, p.pot, F, _, R, (rel.st e2).pkf, ord_is i2 (fun j hj => ?_), h2, fun z v' H' e i r => q z v' H' (e2.trans e) i r⟩
  have := hp j hj
  omega
end
/-- a def by its body, on data -/
def startD (N : List Str) (ds : List D) : Sl := ds.map some ++ List.replicate (N.length - ds.length) none
theorem start_get {K : PySem.W.Frag} {p : Qt} {F : List Addr} {H : Hp} {N : List Str} {vs : List V} {ds : List D} (h : IsL K p F H vs ds) {i : Nat} {d : D} (e : (startD N ds)[i]? = some (some d)) : ∃ v, (L2.start N vs)[i]? = some (some v) ∧ Is K p F H v d := by
  unfold startD at e
  have hi : i < ds.length := by
    by_cases hi : i < ds.length
    · exact hi
    · rw [List.getElem?_append_right (by simpa using hi), List.getElem?_replicate] at e
      split at e <;> cases e
  rw [List.getElem?_append_left (by simpa using hi), List.getElem?_map] at e
  cases q : ds[i]? with
  | none => rw [q] at e; cases e
  | some d' =>
    rw [q] at e
    cases e
    obtain ⟨v, e1, e2⟩ := h.getD q
    refine ⟨v, ?_, e2⟩
    unfold L2.start
    rw [List.getElem?_append_left (by rw [List.length_map, h.len]; exact hi), List.getElem?_map, e1]
    rfl
theorem start_rel {K : PySem.W.Frag} {p : Qt} {F : List Addr} {H : Hp} {N : List Str} {vs : List V} {ds : List D} (pk : PkF p F H) (h : IsL K p F H vs ds) : Rel K p ⟨F, [], H⟩ F (L2.start N vs) H (startD N ds) := by
  have no : ∀ (i : Nat) (l : List D), (startD N ds)[i]? = some (some (.own l)) → False := fun i l e => by
    obtain ⟨v, _, z⟩ := start_get h e
    cases z
  refine ⟨pk.pk, fun _ _ _ _ _ e => e, fun _ h => h, pk.al, fun _ h => .inl h, fun i d e _ => start_get h e, fun i l e => (no i l e).elim, fun i j l l' a e _ _ _ => (no i l e).elim, by unfold L2.start startD; rw [List.length_append, List.length_append, List.length_map, List.length_map, List.length_replicate, List.length_replicate, h.len]⟩
/-- the code object and the table of the running def -/
def TabX (base : Heap) (mg : Str → Option Value) (tabs : List Addr) (cdv : Value) : Prop := ∃ c P, cdv = .ref c ∧ P ∈ tabs ∧ GxR.TabB base mg c P
section
variable {P : Program} {w : World} {K : PySem.W.Frag} {mg : Str → Option Value} {base : Heap} {tabs : Tf} {k : Nat} {f : Addr} {fd : FuncData} {ps : List Str} {sp : SpD}
theorem funD {x qual : Str} {st : Stmt} {N : List Str} (F : Fun K x qual st f fd) (S : FnScope N ps (defScope st))
    (body : ∀ (cdv : Value) (A : Around) (outer : List Env) (s : Shared) (H : Hp) (E : XK) (p : Qt), p.tf = tabs → fd.code = cdv → A.guards = some [] → (∀ a o, K.lookup a = some o → a ≠ p.pot) → Room k (A.deeper (envOfC qual (defScope st) s.heap.objs.size f cdv)) →
      ∃ d, PDSs (cxOf CX0 P w K mg base N qual (defScope st) f cdv A outer s H E).nox p (defBody st) d ∧ ∀ (ds : List D) (R : D → Prop), ds.length = ps.length → sp ds R → d { nx := fun _ => R .non, rt := R } (startD N ds)) :
    FnG P w K mg base CX0 (k + 1) f fd ps (toSp K tabs ps.length sp) := by
  refine funG F S (fun vs H Q E h => h.1) fun cdv A outer s H vs Q E hc hg hk hr h => ?_
  obtain ⟨hl, pot, Fb, ds, R, pk, is, h, q⟩ := h
  obtain ⟨d, hb, hd⟩ := body cdv A outer s H E ⟨pot, tabs⟩ rfl hc hg (fun a o lo => pk.ne (hk a o lo)) hr
  obtain ⟨t, h1, h2⟩ := hb.run
  refine ⟨t, h1.nox, ?_⟩
  have ex : ∀ {F' : List Addr} {σ' : L2.St} {H' : Hp} {τ' : Sl}, Rel K ⟨pot, tabs⟩ ⟨Fb, [], H⟩ F' σ' H' τ' → Ex ⟨pot, tabs⟩ H H' := by
    intro F' σ' H' τ' r
    exact ⟨fun b o n t e => r.kp b o n (fun z => nomatch z) t e, r.pk⟩
  exact h2 ⟨Fb, [], H⟩ Fb (L2.start N vs) H (startD N ds) _ _ (start_rel pk is) (hd ds R (by rw [← is.len]; exact hl) h)
    ⟨fun F' σ H' τ rel r => q _ _ H' (ex rel) .non r, fun F' σ H' τ v x rel i r => q x v H' (ex rel) (i.less rel.sub) r, fun _ _ _ _ _ z => z.elim, fun _ _ _ _ _ z => z.elim⟩
end

/-! ### a law's defs, by their names -/
/-- a def as it stands behind the top; kb: how calls with keywords bind -/
structure Dfn (K : PySem.W.Frag) (mg : Str → Option Value) (x qual : Str) (st : Stmt) (ps : List Str) (kb : List (List Str × Nat × List Nat)) : Prop where
  ex : ∃ (f : Addr) (fd : FuncData), Fun K x qual st f fd ∧ mg x = some (.ref f) ∧ Binds K fd ps [] ∧ ∀ q ∈ kb, BindK K fd ps q.1 q.2.1 q.2.2
/-- a def with its promise -/
structure Cal (P : Program) (w : World) (K : PySem.W.Frag) (mg : Str → Option Value) (base : Heap) (tabs : Tf) (x : Str) (k n : Nat) (ps : List Str) (kb : List (List Str × Nat × List Nat)) (sp : SpD) : Prop where
  ex : ∃ (f : Addr) (fd : FuncData), FnG P w K mg base CX0 k f fd ps (toSp K tabs n sp) ∧ mg x = some (.ref f) ∧ PySem.W.keepIn K (.ref f) = true ∧ Binds K fd ps [] ∧ ∀ q ∈ kb, BindK K fd ps q.1 q.2.1 q.2.2
section
variable {P : Program} {w : World} {K : PySem.W.Frag} {mg : Str → Option Value} {base : Heap} {k : Nat} {ps : List Str} {sp : SpD} {kb : List (List Str × Nat × List Nat)}
theorem cal_of {tabs : Tf} {x qual : Str} {st : Stmt} {N : List Str} (D0 : Dfn K mg x qual st ps kb) (S : FnScope N ps (defScope st))
    (body : ∀ (f : Addr) (cdv : Value) (A : Around) (outer : List Env) (s : Shared) (H : Hp) (E : XK) (p : Qt), p.tf = tabs → A.guards = some [] → (∀ a o, K.lookup a = some o → a ≠ p.pot) → Room k (A.deeper (envOfC qual (defScope st) s.heap.objs.size f cdv)) →
      ∃ d, PDSs (cxOf CX0 P w K mg base N qual (defScope st) f cdv A outer s H E).nox p (defBody st) d ∧ ∀ (ds : List D) (R : D → Prop), ds.length = ps.length → sp ds R → d { nx := fun _ => R .non, rt := R } (startD N ds)) :
    Cal P w K mg base tabs x (k + 1) ps.length ps kb sp := by
  obtain ⟨f, fd, F, hm, hb, hk⟩ := D0.ex
  exact ⟨f, fd, funD F S fun cdv A outer s H E p ht _ => body f cdv A outer s H E p ht, hm, F.kp, hb, hk⟩
/-- the same of a def that makes code objects -/
def TabAt (K : PySem.W.Frag) (mg : Str → Option Value) (base : Heap) (tabs : Tf) (x : Str) : Prop := ∃ c P, P ∈ tabs.tabs ∧ GxR.TabB base mg c P ∧ ∀ (f : Addr) (fd : FuncData) (qual : Str) (st : Stmt), mg x = some (.ref f) → Fun K x qual st f fd → fd.code = .ref c
theorem cal_ofT {tabs : Tf} {x qual : Str} {st : Stmt} {N : List Str} (D0 : Dfn K mg x qual st ps kb) (S : FnScope N ps (defScope st)) (TA : TabAt K mg base tabs x)
    (body : ∀ (f : Addr) (cdv : Value) (A : Around) (outer : List Env) (s : Shared) (H : Hp) (E : XK) (p : Qt), p.tf = tabs → TabX base mg p.tabs cdv → A.guards = some [] → (∀ a o, K.lookup a = some o → a ≠ p.pot) → Room k (A.deeper (envOfC qual (defScope st) s.heap.objs.size f cdv)) →
      ∃ d, PDSs (cxOf CX0 P w K mg base N qual (defScope st) f cdv A outer s H E).nox p (defBody st) d ∧ ∀ (ds : List D) (R : D → Prop), ds.length = ps.length → sp ds R → d { nx := fun _ => R .non, rt := R } (startD N ds)) :
    Cal P w K mg base tabs x (k + 1) ps.length ps kb sp := by
  obtain ⟨f, fd, F, hm, hb, hk⟩ := D0.ex
  obtain ⟨c, P, hP, TB, hc⟩ := TA
  exact ⟨f, fd, funD F S fun cdv A outer s H E p ht e => body f cdv A outer s H E p ht ⟨c, P, e.symm.trans (hc f fd _ _ hm F), by show P ∈ p.tf.tabs; rw [ht]; exact hP, TB⟩, hm, F.kp, hb, hk⟩
end
section
variable {X : Cx} {p : Qt} {pos q : Pos} {e : Expr} {es : List Expr} {kws : List Keyword} {ds dk : DA} {k j n : Nat} {ps : List Str} {sp : SpD} {x : Str} {kb : List (List Str × Nat × List Nat)}
theorem pdcC (C : Cal X.prog X.w X.K X.mg X.base p.tf x j n ps kb sp) (hgu : X.A.guards = some []) (hr : Room k X.A) (ha : PDA X p (e :: es) ds) (hj : j ≤ k := by decide) (hg : Gl X x := by rfl) (hn : (e :: es).length = n := by rfl) (hdb : (x == ("__debug__" : Str)) = false := by decide)
    (he : starEach (e :: es) X.env = (false, eval e X.env) :: starEach es X.env := by rfl) (hpl : (backTo pos (starEach es X.env)).any (·.1) = false := by rfl) : PD X p (.Call (.Name x q) (e :: es) [] pos) (dB sp ds) := by
  obtain ⟨f, fd, F, hm, hk, hb, _⟩ := C.ex
  exact pdc F hgu (hr.mono hj) hm hk hb ha hg hn hdb he hpl
theorem pdcC0 (C : Cal X.prog X.w X.K X.mg X.base p.tf x j 0 ps kb sp) (hgu : X.A.guards = some []) (hr : Room k X.A) (hj : j ≤ k := by decide) (hg : Gl X x := by rfl) (hdb : (x == ("__debug__" : Str)) = false := by decide) : PD X p (.Call (.Name x q) [] [] pos) (dB sp dNil) := by
  obtain ⟨f, fd, F, hm, hk, hb, _⟩ := C.ex
  exact pdc0 F hgu (hr.mono hj) hm hk hb hg hdb
theorem pdcCK {ks : List Str} {perm : List Nat} (C : Cal X.prog X.w X.K X.mg X.base p.tf x j n ps kb sp) (hgu : X.A.guards = some []) (hr : Room k X.A) (hq : (ks, es.length + 1, perm) ∈ kb) (ha : PDA X p (e :: es) ds) (hkw : PDK X p kws dk) (hj : j ≤ k := by decide)
    (hn : perm.length = n := by rfl) (hp : ∀ j ∈ perm, j < es.length + 1 + kws.length := by decide) (hlk : kws.length = ks.length := by rfl) (hg : Gl X x := by rfl) (hall : (backToKw pos (keywordEach kws X.env)).all (·.1.isSome) = true := by rfl) (hks : (backToKw pos (keywordEach kws X.env)).filterMap (·.1) = ks := by rfl)
    (hdb : (x == ("__debug__" : Str)) = false := by decide) (he : starEach (e :: es) X.env = (false, eval e X.env) :: starEach es X.env := by rfl)
    (hpl : ((backTo pos (starEach (e :: es) X.env)).any (·.1) || (backToKw pos (keywordEach kws X.env)).any (·.1.isNone)) = false := by rfl) : PD X p (.Call (.Name x q) (e :: es) kws pos) (dBK sp perm ds dk) := by
  obtain ⟨f, fd, F, hm, hk, _, hb⟩ := C.ex
  exact pdcK F hgu (hr.mono hj) hm hk (hb _ hq) ha hkw hn hp hlk hg hall hks hdb he hpl
theorem pdcCK0 {ks : List Str} {perm : List Nat} (C : Cal X.prog X.w X.K X.mg X.base p.tf x j n ps kb sp) (hgu : X.A.guards = some []) (hr : Room k X.A) (hq : (ks, 0, perm) ∈ kb) (hkw : PDK X p kws dk) (hj : j ≤ k := by decide)
    (hn : perm.length = n := by rfl) (hp : ∀ j ∈ perm, j < kws.length := by decide) (hlk : kws.length = ks.length := by rfl) (hg : Gl X x := by rfl) (hall : (backToKw pos (keywordEach kws X.env)).all (·.1.isSome) = true := by rfl) (hks : (backToKw pos (keywordEach kws X.env)).filterMap (·.1) = ks := by rfl)
    (hdb : (x == ("__debug__" : Str)) = false := by decide)
    (hpl : ((backTo pos (starEach [] X.env)).any (·.1) || (backToKw pos (keywordEach kws X.env)).any (·.1.isNone)) = false := by rfl) : PD X p (.Call (.Name x q) [] kws pos) (dBK sp perm dNil dk) := by
  obtain ⟨f, fd, F, hm, hk, _, hb⟩ := C.ex
  exact pdcK0 F hgu (hr.mono hj) hm hk (hb _ hq) hkw hn hp hlk hg hall hks hdb hpl
end
/-! ### what the top has left, as defs -/
section
variable {K : PySem.W.Frag} {mg : Str → Option Value} {h : Heap} {x qual : Str} {st : Stmt} {f : Addr} {fd : FuncData} {ps ks : List Str} {n : Nat} {perm : List Nat} {kb : List (List Str × Nat × List Nat)}
theorem bindK_of (F : Fun K x qual st f fd) (hb : ∀ (kV doc pm : Value) (an : Option Addr) (cdv ct : Value) (us ws : List Value), us.length = n → ws.length = ks.length →
    ∃ zs : List Value, bindArgs (PySem.W.fnOf x qual (defArgs st) (defBody st) (defScope st) .none kV doc pm an cdv ct) ⟨us, ks.zip ws⟩ = pure (ps.zip zs) ∧ zs.length = ps.length ∧ perm.length = ps.length ∧ ∀ (i j : Nat), perm[i]? = some j → zs[i]? = (us ++ ws)[j]? ∧ j < (us ++ ws).length) : BindK K fd ps ks n perm := by
  obtain ⟨oc, od, kV, doc, pm, an, cdv, ct, osl, rfl, lk, hcd⟩ := F.ex
  intro s us ws _ h1 h2
  obtain ⟨zs, e, r⟩ := hb kV doc pm an cdv ct us ws h1 h2
  exact ⟨zs, .of_eq e, r⟩
theorem dfn_of {oc kV doc pm cdv ct : Value} {od an : Option Addr} {osl : Array (Option Value)} (X : K.In h) (G : h.Ns mainGlobals mg) (a : PySem.W.nsIn K mainGlobals x = some (some (.ref f)))
    (l : K.lookup f = some ⟨oc, od, .func (PySem.W.fnOf x x (defArgs st) (defBody st) (defScope st) .none kV doc pm an cdv ct), osl⟩) (c : PySem.W.codeIn K cdv x = true) (k : PySem.W.keepIn K (.ref f) = true)
    (hb : ∀ (kV doc pm : Value) (an : Option Addr) (cdv ct : Value) (us : List Value), us.length = ps.length → bindArgs (PySem.W.fnOf x x (defArgs st) (defBody st) (defScope st) .none kV doc pm an cdv ct) ⟨us, []⟩ = pure (ps.zip us))
    (hk : ∀ fd : FuncData, Fun K x x st f fd → ∀ q ∈ kb, BindK K fd ps q.1 q.2.1 q.2.2) : Dfn K mg x x st ps kb :=
  ⟨f, _, fun_mk l c k, PySem.W.mg_of X G a, (fun_mk l c k).binds hb, hk _ (fun_mk l c k)⟩
theorem ktup2 {a : Addr} {x y : Int} {t u : Tok} {dd : Option Addr} {m : Nat} {sl : Array (Option Value)} (l : K.lookup a = some ⟨.type "tuple", dd, .seq #[.int x t, .int y u] m, sl⟩) : KTup K a (.tup [.int x, .int y]) :=
  fun p F H ne => .tup (vs := [.int x, .int y]) (.inr ⟨_, _, m, l, rfl, rfl, by show 2 ≤ sizeLine; decide, .cons ⟨_, rfl⟩ (.cons ⟨_, rfl⟩ .nil)⟩) ne (.cons (.int _) (.cons (.int _) .nil))
end
end DL
/-! isinstance, repr, isqrt, gcd; walks, loops, comprehensions. -/
namespace DL
open PySem PySem.Spec L2
open PyProof.Rows hiding St

section
variable {X : Cx} {p : Qt}
/-! ### isinstance -/
def tyN : D → Option String
  | .non => some "NoneType"
  | .bl _ => some "bool"
  | .int _ => some "int"
  | .str _ => some "str"
  | .tup _ => some "tuple"
  | .lst _ => some "list"
  | .pot => some "list"
  | .ty _ => none
  | .fn _ => none
  | .own _ => none
def cIsi : List D → (D → Prop) → Prop := fun xs R => match xs with
  | [x, .ty n] => match tyN x with
    | some t => match kitB t n with
      | some b => R (.bl b)
      | none => False
    | none => False
  | _ => False
theorem tyX_tup {K : PySem.W.Frag} {H : Hp} {a : Addr} {vs : List V} (h : SqT K H a vs) : TyX K H (.ref a) (.type "tuple") := by
  rcases h with (h | ⟨o, h⟩) | ⟨o, its, n, h, c, _⟩
  · exact .base (.tup h)
  · exact .fTuple h
  · exact .kTuple h c
theorem tyX_lst {K : PySem.W.Frag} {H : Hp} {a : Addr} {vs : List V} (h : SqL K H a vs) : TyX K H (.ref a) (.type "list") := by
  rcases h with (h | ⟨o, h⟩) | ⟨o, its, n, h, c, _⟩
  · exact .base (.lst h)
  · exact .base (.frz h)
  · exact .kList h c
theorem cd_isi : CallD X p (.builtin "isinstance") cIsi := by
  refine ⟨_, call_isi, fun F H xs vs Q R pk ix hh q => ?_⟩
  unfold cIsi at hh
  split at hh
  · split at hh
    · rename_i t et
      split at hh
      · rename_i b eb
        cases ix with
        | cons i1 i2 =>
          cases i2 with
          | cons i2 i3 =>
            cases i3
            cases i2
            have fin : ∀ {x : V}, TyX X.K H x (.type t) → ∃ (x' c : V) (t' u : Value) (b : Bool), [x, .ty _] = [x', c] ∧ ClsV c u ∧ TyX X.K H x' t' ∧ PySem.W.kitOne X.K t' u = some b ∧ Q (.bl b) H :=
              fun {x} hx => ⟨x, _, _, _, b, rfl, .ty _, hx, kit_ty eb, q _ _ H (.refl pk.pk) (.bl b) hh⟩
            cases i1 with
            | non => cases et; exact fin (.base .non)
            | bl _ => cases et; exact fin (.base (.bl _))
            | int _ => cases et; exact fin (.base (.int _))
            | str _ => cases et; exact fin (.base (.str _))
            | ty _ => cases et
            | fn _ => cases et
            | tup hs _ _ => cases et; exact fin (tyX_tup hs)
            | lst hs _ _ => cases et; exact fin (tyX_lst (Rdl.sq hs))
            | pot =>
              cases et
              obtain ⟨m, n, _, _, _, hp⟩ := pk.pk.at_
              exact fin (.base (.lst hp))
      · exact hh.elim
    · exact hh.elim
  · exact hh.elim
theorem kb_tt : kitB "tuple" "tuple" = some true := by decide +kernel
theorem kb_ii : kitB "int" "int" = some true := by decide +kernel
theorem kb_ib : kitB "int" "bool" = some false := by decide +kernel
theorem kb_bi : kitB "bool" "int" = some true := by decide +kernel
theorem kb_bb : kitB "bool" "bool" = some true := by decide +kernel
theorem kb_it : kitB "int" "tuple" = some false := by decide +kernel
theorem kb_bt : kitB "bool" "tuple" = some false := by decide +kernel
theorem kb_nt : kitB "NoneType" "tuple" = some false := by decide +kernel
theorem kb_ni : kitB "NoneType" "int" = some false := by decide +kernel
theorem kb_lt : kitB "list" "tuple" = some false := by decide +kernel
theorem kb_li : kitB "list" "int" = some false := by decide +kernel
theorem kb_ti : kitB "tuple" "int" = some false := by decide +kernel
theorem kb_si : kitB "str" "int" = some false := by decide +kernel
theorem kb_st : kitB "str" "tuple" = some false := by decide +kernel
theorem kb_ss : kitB "str" "str" = some true := by decide +kernel

/-! ### repr -/
mutual
def intsOk : D → Prop
  | .int i => i.natAbs.log2 < 1920
  | .tup l => intsOks l
  | .lst l => intsOks l
  | _ => True
def intsOks : List D → Prop
  | [] => True
  | d :: l => intsOk d ∧ intsOks l
end
mutual
def cnt : D → Nat
  | .tup l => cnts l + 1
  | .lst l => cnts l + 1
  | _ => 1
def cnts : List D → Nat
  | [] => 0
  | d :: l => cnt d + cnts l
end
theorem shown_ok : ∀ (n : Nat), (∀ d : D, shp n d = true → intsOk d → (toP d).showable = true ∧ (toP d).shown.length + 2 ≤ 1930 * cnt d) ∧
    ∀ l : List D, shps n l = true → intsOks l → PyData.showableAll (toPs l) = true ∧ piled (PyData.shownAll (toPs l)) ≤ 1930 * cnts l ∧ (∀ t ∈ PyData.shownAll (toPs l), t.length + 2 ≤ 1930 * cnts l) := by
  have lists : ∀ n, (∀ d : D, shp n d = true → intsOk d → (toP d).showable = true ∧ (toP d).shown.length + 2 ≤ 1930 * cnt d) →
      ∀ l : List D, shps n l = true → intsOks l → PyData.showableAll (toPs l) = true ∧ piled (PyData.shownAll (toPs l)) ≤ 1930 * cnts l ∧ (∀ t ∈ PyData.shownAll (toPs l), t.length + 2 ≤ 1930 * cnts l) := by
    intro n h l
    induction l with
    | nil => intro _ _; exact ⟨by simp [toPs, PyData.showableAll], by simp [toPs, PyData.shownAll, piled], by simp [toPs, PyData.shownAll]⟩
    | cons d l ih =>
      intro hl hi
      rw [shps, Bool.and_eq_true] at hl
      rw [intsOks] at hi
      obtain ⟨a1, a2⟩ := h d hl.1 hi.1
      obtain ⟨b1, b2, b3⟩ := ih hl.2 hi.2
      refine ⟨by simp [toPs, PyData.showableAll, a1, b1], ?_, ?_⟩
      · simp only [toPs, PyData.shownAll, piled_cons, cnts]
        omega
      · intro t ht
        simp only [toPs, PyData.shownAll, List.mem_cons] at ht
        simp only [cnts]
        rcases ht with e | e
        · subst e
          omega
        · have := b3 t e
          omega
  have one : ∀ n, (∀ m, n = m + 1 → ∀ l : List D, shps m l = true → intsOks l → PyData.showableAll (toPs l) = true ∧ piled (PyData.shownAll (toPs l)) ≤ 1930 * cnts l ∧ (∀ t ∈ PyData.shownAll (toPs l), t.length + 2 ≤ 1930 * cnts l)) →
      ∀ d : D, shp n d = true → intsOk d → (toP d).showable = true ∧ (toP d).shown.length + 2 ≤ 1930 * cnt d := by
    intro n hls d hd hi
    have hj : ∀ ts : List Str, (Str.join ", " ts).length ≤ piled ts := fun ts => by
      cases ts with
      | nil => exact Nat.le_refl _
      | cons t r =>
        have := join_length_add (t :: r) (by simp)
        omega
    cases d with
    | non => exact ⟨by simp [toP, PyData.showable], by show (4 : Nat) + 2 ≤ 1930 * 1; decide⟩
    | bl b => exact ⟨by simp [toP, PyData.showable], by cases b <;> (show (_ : Nat) ≤ 1930 * 1; decide)⟩
    | int i =>
      rw [intsOk] at hi
      refine ⟨by simp [toP, PyData.showable, hi], ?_⟩
      have := int_text_len_1921 hi
      show (Str.ofString (toString i)).length + 2 ≤ 1930 * 1
      omega
    | tup l =>
      cases n with
      | zero => simp [shp] at hd
      | succ m =>
        obtain ⟨a1, a2, _⟩ := hls m rfl l (by simpa [shp] using hd) (by simpa [intsOk] using hi)
        refine ⟨by simp [toP, PyData.showable, a1], ?_⟩
        have h1 := hj (PyData.shownAll (toPs l))
        have h2 : (toP (.tup l)).shown.length ≤ 1 + (Str.join ", " (PyData.shownAll (toPs l))).length + 2 := by
          simp only [toP, PyData.shown, tupleText]
          rw [strLen_append, strLen_append]
          have : ((if (PyData.shownAll (toPs l)).length == 1 then ",)" else ")" : String) : Str).length ≤ 2 := by split <;> decide
          have : (("(" : String) : Str).length = 1 := rfl
          omega
        simp only [cnt]
        omega
    | lst l =>
      cases n with
      | zero => simp [shp] at hd
      | succ m =>
        obtain ⟨a1, a2, _⟩ := hls m rfl l (by simpa [shp] using hd) (by simpa [intsOk] using hi)
        refine ⟨by simp [toP, PyData.showable, a1], ?_⟩
        have h2 : (toP (.lst l)).shown.length ≤ piled (PyData.shownAll (toPs l)) + 4 := by
          have h1 := hj (PyData.shownAll (toPs l))
          simp only [toP, PyData.shown, listText_eq_join]
          rw [strLen_append, strLen_append]
          have : (("[" : String) : Str).length = 1 := rfl
          have : (("]" : String) : Str).length = 1 := rfl
          omega
        simp only [cnt]
        omega
    | _ => simp [shp] at hd
  intro n
  induction n with
  | zero => exact ⟨one 0 (fun m e => by omega), lists 0 (one 0 (fun m e => by omega))⟩
  | succ n ih =>
    have o := one (n + 1) (fun m e => by have : n = m := by omega
                                         subst this
                                         exact ih.2)
    exact ⟨o, lists (n + 1) o⟩

structure okR (d : D) : Prop where
  sh : shp 60 d = true
  nums : intsOk d
  few : cnt d ≤ 5000
def cRepr : List D → (D → Prop) → Prop := fun xs R => match xs with
  | [d] => okR d ∧ R (.str (toP d).shown)
  | _ => False
theorem call_repr_data (hg : X.A.guards = some []) (hu : X.A.units + 64 < cLine) : CallR X (.builtin "repr") (fun xs H Q => ∃ x d, xs = [x] ∧ Dp X.K H x d ∧ d.showable = true ∧ d.hasDict = false ∧ d.depth ≤ 60 ∧ d.shown.length ≤ sizeLine ∧ Q (.str d.shown) H) := by
  intro pins s σ H xs us Q I r h
  obtain ⟨x, d, rfl, dp, h1, h2, h3, h4, q⟩ := h
  obtain ⟨u, rfl, ru⟩ := vals1 r
  obtain ⟨as, rd⟩ := Dp.reads I d x u dp ru
  cases dp with
  | non => cases ru; exact PySem.P.repr_of_none ⟨.str _, H, I.tok _, ⟨_, rfl⟩, q⟩
  | bl b => cases ru; exact PySem.P.repr_of_bool ⟨.str _, H, I.tok _, ⟨_, rfl⟩, by
      cases b <;> exact q⟩
  | int i =>
    obtain ⟨t, rfl⟩ := ru
    exact PySem.P.repr_of_int (by simpa [PyData.showable] using h1) ⟨.str _, H, I.tok _, ⟨_, rfl⟩, q⟩
  | str z =>
    obtain ⟨t, rfl⟩ := ru
    exact PySem.P.repr_of_str ⟨.str _, H, I.tok _, ⟨_, rfl⟩, q⟩ h4
  | lst hs ha =>
    cases ru
    exact repr_of_reads' rd h1 (PyData.noDict_hsm h2) hg (by omega) (fun _ _ e => e) (fun h' u tk hk => ⟨.str _, H, I.kept (t' := tk) hk, ⟨_, rfl⟩, q⟩) h4
  | tup hs ha =>
    cases ru
    exact repr_of_reads' rd h1 (PyData.noDict_hsm h2) hg (by omega) (fun _ _ e => e) (fun h' u tk hk => ⟨.str _, H, I.kept (t' := tk) hk, ⟨_, rfl⟩, q⟩) h4
theorem cd_repr (hg : X.A.guards = some []) (hu : X.A.units + 64 < cLine) : CallD X p (.builtin "repr") cRepr := by
  refine ⟨_, call_repr_data hg hu, fun F H xs vs Q R pk ix hh q => ?_⟩
  unfold cRepr at hh
  split at hh
  · rename_i d
    obtain ⟨⟨h1, h2, h3⟩, h4⟩ := hh
    cases ix with
    | cons i1 i2 =>
      cases i2
      obtain ⟨a1, a2, a3, a4⟩ := (shp_all 60).1 d h1
      obtain ⟨b1, b2⟩ := (shown_ok 60).1 d h1 h2
      refine ⟨_, _, rfl, i1.dp a1, b1, a4, a3, ?_, q _ _ H (.refl pk.pk) (.str _) h4⟩
      have : sizeLine = 16777216 := sizeLine_eq
      omega
  · exact hh.elim

/-! ### isqrt, gcd -/
theorem call_isqrt : CallR X (.builtin "math.isqrt") (fun xs H Q => ∃ i : Int, xs = [.int i] ∧ 0 ≤ i ∧ i < 2 ^ 512 ∧ Q (.int ((Float64.isqrt i.toNat : Nat) : Int)) H) := by
  intro pins s σ H xs us Q I r h
  obtain ⟨i, rfl, h0, h1, q⟩ := h
  obtain ⟨u, rfl, t, rfl⟩ := vals1 r
  have hl : i.toNat.log2 < 512 := PySem.Flt.log2_lt_of (by decide) (by omega)
  exact PySem.call_function_meets PySem.W.MGF.kind_isqrt PySem.W.MGF.plain_isqrt PySem.W.MGF.entry_isqrt (PySem.W.MGF.args_isqrt _) (PySem.W.mg_run_isqrt i t (by omega) (by omega) (by omega)).meets ⟨.int _, H, I.tok _, ⟨_, rfl⟩, q⟩
structure BS (i : Int) : Prop where
  nn : 0 ≤ i
  few : i < 2 ^ 512
theorem BS.of {j : Int} (h0 : 0 ≤ j) (h1 : j < 1606938044258990275541962092341162602522202993782792835301376) : BS j := by
  have e : (1606938044258990275541962092341162602522202993782792835301376 : Int) ≤ 2 ^ 512 := by decide +kernel
  exact ⟨h0, Int.lt_of_lt_of_le h1 e⟩
def cSqrt : List D → (D → Prop) → Prop := fun xs R => match xs with
  | [.int i] => BS i ∧ ∀ r : Int, 0 ≤ r → r * r ≤ i → i < (r + 1) * (r + 1) → R (.int r)
  | _ => False
theorem cd_isqrt : CallD X p (.builtin "math.isqrt") cSqrt := by
  refine ⟨_, call_isqrt, fun F H xs vs Q R pk ix hh q => ?_⟩
  unfold cSqrt at hh
  split at hh
  · rename_i i
    obtain ⟨⟨h0, h1⟩, hR⟩ := hh
    cases ix with
    | cons i1 i2 =>
      cases i2
      cases i1
      have sp := PySem.Float64.isqrt_spec i.toNat
      refine ⟨i, rfl, h0, h1, q _ _ H (.refl pk.pk) (.int _) (hR _ (Int.natCast_nonneg _) ?_ ?_)⟩
      · have := sp.1
        rw [← Int.natCast_mul]
        omega
      · have := sp.2
        have e : (((Float64.isqrt i.toNat : Nat) : Int) + 1) * (((Float64.isqrt i.toNat : Nat) : Int) + 1) = (((Float64.isqrt i.toNat + 1) * (Float64.isqrt i.toNat + 1) : Nat) : Int) := by
          rw [Int.natCast_mul, Int.natCast_add]
          rfl
        rw [e]
        omega
  · exact hh.elim
theorem cd_gcd : CallD X p (.builtin "math.gcd") (cI2 (fun _ _ => True) fun a b => .int ((Nat.gcd a.natAbs b.natAbs : Nat) : Int)) := cI2_of cr_gcd fun a b F H Q _ pk q => ⟨a, b, rfl, q _ H (.refl pk.pk) (.int _)⟩
end
end DL
/-! Walks, comprehensions, generator expressions, chains on data. -/
namespace DL
open PySem PySem.Spec L2
open PyProof.Rows hiding St

/-! ### readings by data as readings -/
def liftE (K : PySem.W.Frag) (p : Qt) (d : DE) : TE := fun σ H Q => ∃ g F τ R, Rel K p g F σ H τ ∧ d τ R ∧ ∀ x v H', Ex p H H' → Is K p F H' v x → R x → Q v H'
def liftT (K : PySem.W.Frag) (p : Qt) (d : DT) : TT := fun σ H Q => ∃ g F τ R, Rel K p g F σ H τ ∧ d τ R ∧ ∀ b H', Ex p H H' → R b → Q b H'
theorem PD.pe {X : Cx} {p : Qt} {e : Expr} {d : DE} (h : PD X p e d) : PE X e (liftE X.K p d) := by
  obtain ⟨t, h1, h2⟩ := h.run
  exact ⟨fun pins s σ H Q I ⟨g, F, τ, R, a, b, c⟩ => h1.run pins s σ H Q I (h2 g F σ H τ Q R a b c)⟩
theorem PDT.pt {X : Cx} {p : Qt} {e : Expr} {d : DT} (h : PDT X p e d) : PT X e (liftT X.K p d) := by
  obtain ⟨t, h1, h2⟩ := h.run
  exact ⟨fun pins s σ H Q I ⟨g, F, τ, R, a, b, c⟩ => h1.run pins s σ H Q I (h2 g F σ H τ Q R a b c)⟩

section
variable {X : Cx} {p : Qt} {tg : Expr}
theorem SqT.since {K : PySem.W.Frag} {F : List Addr} {H H' : Hp} {a : Addr} {vs : List V} (h : SqT K H a vs) (n : a ≠ p.pot) (pk : PkF p F H) (e : ExF p F H H') : SqT K H' a vs := by
  have nf : ∀ o, ¬ isMut o → H a = some o → a ∉ F := fun o m q z => by
    obtain ⟨_, u, h1, h2⟩ := pk.al a z
    rw [q] at h1
    cases h1
    exact m h2
  rcases h with (h | ⟨o, h⟩) | h
  · exact .inl (.inl (e.kp _ _ n (nf (.tup vs) (fun z => z) h) (fun _ z => nomatch z) h))
  · exact .inl (.inr ⟨o, e.kp _ _ n (nf (.frz o (.tup vs)) (fun z => z) h) (fun _ z => nomatch z) h⟩)
  · exact .inr h
theorem Rdl.since {F : List Addr} {H H' : Hp} {a : Addr} {vs : List V} (h : Rd H a (.lst vs)) (n : a ≠ p.pot ∧ a ∉ F) (e : ExF p F H H') : Rd H' a (.lst vs) := by
  rcases h with h | ⟨o, h⟩
  · exact .inl (e.kp _ _ n.1 n.2 (fun _ z => nomatch z) h)
  · exact .inr ⟨o, e.kp _ _ n.1 n.2 (fun _ z => nomatch z) h⟩
theorem wd_list {K : PySem.W.Frag} {F : List Addr} {H : Hp} {a : Addr} {vs : List V} {l : List D} (h : Rd H a (.lst vs)) (ne : a ≠ p.pot ∧ a ∉ F) (i : IsL K p F H vs l) : WD K p F (Itl K a) H l := by
  refine ⟨fun n H' F' e k pk hn => ?_, fun H' e => ⟨vs, Rdl.sq (Rdl.since h ne e), by rw [i.len]; exact Nat.le_refl _⟩⟩
  have hv : n < vs.length := by rw [i.len]; exact hn
  have sq : SqL K H' a vs := Rdl.sq (Rdl.since h ne e)
  refine ⟨⟨vs, vs[n], sq, by simp [hv]⟩, fun x H2 y => ?_⟩
  obtain ⟨rfl, y⟩ := y
  obtain ⟨d, h1, h2⟩ := (k i).get (y vs sq)
  exact ⟨.refl e.pk, d, h1, h2⟩
theorem wd_tup {K : PySem.W.Frag} {F : List Addr} {H : Hp} {a : Addr} {vs : List V} {l : List D} (h : SqT K H a vs) (ne : a ≠ p.pot) (pk : PkF p F H) (i : IsL K p F H vs l) : WD K p F (Itt K a) H l := by
  refine ⟨fun n H' F' e k _ hn => ?_, fun H' e => ⟨vs, SqT.since h ne pk e, by rw [i.len]; exact Nat.le_refl _⟩⟩
  have hv : n < vs.length := by rw [i.len]; exact hn
  have sq : SqT K H' a vs := SqT.since h ne pk e
  refine ⟨⟨vs, vs[n], sq, by simp [hv]⟩, fun x H2 y => ?_⟩
  obtain ⟨rfl, y⟩ := y
  obtain ⟨d, h1, h2⟩ := (k i).get (y vs sq)
  exact ⟨.refl e.pk, d, h1, h2⟩
/-- over a list or a tuple -/
def dSq (d : DE) : DI := fun τ R => d τ fun x => match x with
  | .lst l => R l
  | .tup l => R l
  | _ => False
def iSq (K : PySem.W.Frag) (t : TE) : TI := fun σ H R => t σ H fun x H1 => ∃ a, x = .ref a ∧ ((∃ xs, SqL K H1 a xs ∧ R (Itl K a) H1) ∨ ∃ xs, SqT K H1 a xs ∧ R (Itt K a) H1)
theorem pi_sq {l : Expr} {t : TE} (h : PE X l t) : PI X tg l (iSq X.K t) := by
  refine ⟨fun pins s σ H R I q => thn (h.run pins s σ H _ I q) ?_⟩
  rintro v s1 ⟨x, H1, I1, r1, a, rfl, q1⟩
  cases r1
  have fr : H1 s1.heap.objs.size = none := I1.hok.fresh (Nat.le_refl _)
  have fp : ∀ b ∈ [s1.heap.objs.size], FpOk X pins H1 b := by
    intro b hb
    rw [List.mem_singleton] at hb
    rw [hb]
    exact I1.fpOk (Nat.le_refl _) fr
  rcases q1 with ⟨xs, hx, q1⟩ | ⟨xs, hx, q1⟩
  · obtain ⟨its, _, pl, _⟩ := I1.list hx
    exact wpAny_pyIter_list pl.isList ⟨s1.heap.objs.size, [s1.heap.objs.size], _, _, H1, rfl, I1.kept (t' := s1.toks) (fun b o e => Heap.get?_push_of_some _ e), turn_list a _, ⟨_, Heap.get?_push_size _ rfl, rfl, rfl⟩, fp, q1⟩
  · obtain ⟨its, _, pl, _⟩ := I1.tuple hx
    exact wpAny_pyIter_tuple (show s1.heap.IsTuple a its.toArray from pl) ⟨s1.heap.objs.size, [s1.heap.objs.size], _, _, H1, rfl, I1.kept (t' := s1.toks) (fun b o e => Heap.get?_push_of_some _ e), turn_tuple a _, ⟨_, Heap.get?_push_size _ rfl, rfl, rfl⟩, fp, q1⟩
theorem pdi_sq {e : Expr} {d : DE} (h : PD X p e d) : PDI X p tg e (dSq d) := by
  obtain ⟨t, h1, h2⟩ := h.run
  refine ⟨_, pi_sq h1, fun g F σ H τ Rw R rel hd q => ?_⟩
  refine h2 g F σ H τ _ _ rel hd fun x v H1 e1 i1 h1 => ?_
  cases i1 with
  | @lst a vs l hs hn hl => exact ⟨a, rfl, .inl ⟨vs, Rdl.sq hs, q _ H1 l e1 (wd_list hs hn hl) h1⟩⟩
  | @tup a vs l hs hn hl => exact ⟨a, rfl, .inr ⟨vs, hs, q _ H1 l e1 (wd_tup hs hn (rel.st e1).pkf hl) h1⟩⟩
  | _ => exact h1.elim
/-- lo, lo + 1, .. -/
def rng (lo : Int) (n : Nat) : List D := (List.range n).map fun (k : Nat) => D.int (lo + (k : Int))
theorem rng_len (lo : Int) (n : Nat) : (rng lo n).length = n := by simp [rng]
theorem rng_get {lo : Int} {n i : Nat} (h : i < n) : (rng lo n)[i]? = some (.int (lo + i)) := by simp [rng, h]
theorem wd_rng {K : PySem.W.Frag} {F : List Addr} {H : Hp} {lo : Int} {n : Nat} : WD K p F (Itr lo n) H (rng lo n) := by
  refine ⟨fun i H' F' e k pk hi => ?_, fun H' e => by rw [rng_len]; exact Nat.le_refl _⟩
  rw [rng_len] at hi
  refine ⟨hi, fun x H2 y => ?_⟩
  obtain ⟨rfl, rfl⟩ := y
  exact ⟨.refl e.pk, _, rng_get hi, .int _⟩
def dRg1 (d : DA) : DI := fun τ R => d τ fun xs => match xs with
  | [.int j] => (-(2 ^ 62) ≤ j ∧ j < 2 ^ 62) ∧ R (rng 0 j.toNat)
  | _ => False
def dRg2 (d : DA) : DI := fun τ R => d τ fun xs => match xs with
  | [.int i, .int j] => (-(2 ^ 62) ≤ i ∧ i < 2 ^ 62 ∧ -(2 ^ 62) ≤ j ∧ j < 2 ^ 62) ∧ R (rng i (j - i).toNat)
  | _ => False
theorem pdi_rg1 {a : Expr} {q pos : Pos} {d : DA} (hm : X.mg "range" = none) (ha : PDA X p [a] d) (hg : Gl X "range" := by rfl) (hs : starEach [a] X.env = [(false, eval a X.env)] := by rfl) : PDI X p tg (.Call (.Name "range" q) [a] [] pos) (dRg1 d) := by
  obtain ⟨t, h1, h2⟩ := ha.run
  refine ⟨_, pi_range1 hg hm h1 hs, fun g F σ H τ Rw R rel hd q => ?_⟩
  refine h2 g F σ H τ _ _ rel hd fun xs vs H1 e1 i1 l1 h1 => ?_
  split at h1
  · cases i1 with
    | cons i1 i2 =>
      cases i2
      cases i1
      exact ⟨_, rfl, h1.1.1, h1.1.2, q _ H1 _ e1 wd_rng h1.2⟩
  · exact h1.elim
theorem pdi_rg2 {a b : Expr} {q pos : Pos} {d : DA} (hm : X.mg "range" = none) (ha : PDA X p [a, b] d) (hg : Gl X "range" := by rfl) (hs : starEach [a, b] X.env = [(false, eval a X.env), (false, eval b X.env)] := by rfl) (hs2 : starEach [b] X.env = [(false, eval b X.env)] := by rfl) : PDI X p tg (.Call (.Name "range" q) [a, b] [] pos) (dRg2 d) := by
  obtain ⟨t, h1, h2⟩ := ha.run
  refine ⟨_, pi_range2 hg hm h1 hs hs2, fun g F σ H τ Rw R rel hd q => ?_⟩
  refine h2 g F σ H τ _ _ rel hd fun xs vs H1 e1 i1 l1 h1 => ?_
  split at h1
  · cases i1 with
    | cons i1 i2 =>
      cases i2 with
      | cons i2 i3 =>
        cases i3
        cases i1
        cases i2
        exact ⟨_, _, rfl, h1.1, q _ H1 _ e1 wd_rng h1.2⟩
  · exact h1.elim
/-- zip of two tuples, of two lists -/
def zipD : List D → List D → List D
  | x :: xs, y :: ys => .tup [x, y] :: zipD xs ys
  | _, _ => []
theorem zipD_len : ∀ (xs ys : List D), (zipD xs ys).length = min xs.length ys.length
  | [], _ => by simp [zipD]
  | _ :: _, [] => by simp [zipD]
  | x :: xs, y :: ys => by simp only [zipD, List.length_cons, zipD_len xs ys]; omega
theorem zipD_get : ∀ {xs ys : List D} {i : Nat} {x y : D}, xs[i]? = some x → ys[i]? = some y → (zipD xs ys)[i]? = some (.tup [x, y])
  | [], _, _, _, _, h, _ => by simp at h
  | _ :: _, [], _, _, _, _, h => by simp at h
  | a :: xs, b :: ys, 0, x, y, h, h' => by
    have e1 : a = x := by simpa using h
    have e2 : b = y := by simpa using h'
    subst e1
    subst e2
    rfl
  | a :: xs, b :: ys, i + 1, x, y, h, h' => by
    show (zipD xs ys)[i]? = _
    exact zipD_get (by simpa using h) (by simpa using h')
def dZip (d : DA) : DI := fun τ R => d τ fun xs => match xs with
  | [.tup l, .tup m] => R (zipD l m)
  | [.lst l, .lst m] => R (zipD l m)
  | _ => False
theorem pdi_zip {a b : Expr} {q pos tpos : Pos} {elts : List Expr} {kk : Nat} {d : DA} (hm : X.mg "zip" = none) (ha : PDA X p [a, b] d) (hg : Gl X "zip" := by rfl) (hs : starEach [a, b] X.env = (false, eval a X.env) :: starEach [b] X.env := by rfl) (hpl : (backTo pos (starEach [b] X.env)).any (·.1) = false := by rfl) :
    PDI X p (.Tuple elts kk tpos) (.Call (.Name "zip" q) [a, b] [] pos) (dZip d) := by
  obtain ⟨t, h1, h2⟩ := ha.run
  refine ⟨_, RZ.pi_zipA hg hm h1 hs hpl, fun g F σ H τ Rw R rel hd q => ?_⟩
  refine h2 g F σ H τ _ _ rel hd fun xs vs H1 e1 i1 l1 h1 => ?_
  have pk := (rel.st e1).pkf
  split at h1
  · rename_i l m
    cases i1 with
    | cons i1 i2 =>
      cases i2 with
      | cons i2 i3 =>
        cases i3
        cases i1 with
        | @tup ax vs _ hs hn hl =>
          cases i2 with
          | @tup ay ws _ hs' hn' hl' =>
            refine ⟨_, _, vs, ws, rfl, .inr ⟨hs, hs', q _ H1 _ e1 ⟨fun n H' F' e k pk' hx => ?_, fun H' e => ⟨vs, ws, SqT.since hs hn pk e, SqT.since hs' hn' pk e, ?_⟩⟩ h1⟩⟩
            · rw [zipD_len] at hx
              have la := hl.len
              have lb := hl'.len
              have q1 : SqT X.K H' ax vs := SqT.since hs hn pk e
              have q2 : SqT X.K H' ay ws := SqT.since hs' hn' pk e
              have va : n < vs.length := by omega
              have vb : n < ws.length := by omega
              refine ⟨⟨vs, ws, vs[n], ws[n], q1, q2, by simp [va], by simp [vb]⟩, fun x H2 y => ?_⟩
              obtain ⟨T, x', y', rfl, hT, rfl, f1, f2⟩ := y
              obtain ⟨da, ea, ia⟩ := (k hl).get (f1 vs q1)
              obtain ⟨db, eb, ib⟩ := (k hl').get (f2 ws q2)
              have e2 : Ex p H' (upd H' T (.tup [x', y'])) := .new pk'.pk hT
              exact ⟨e2, _, zipD_get ea eb, .tup (SqT.of upd_same) (pk'.ne hT) (.cons (ia.mono e2.kp) (.cons (ib.mono e2.kp) .nil))⟩
            · rw [zipD_len, hl.len, hl'.len]
              omega
  · rename_i l m
    cases i1 with
    | cons i1 i2 =>
      cases i2 with
      | cons i2 i3 =>
        cases i3
        cases i1 with
        | @lst ax vs _ hs hn hl =>
          cases i2 with
          | @lst ay ws _ hs' hn' hl' =>
            refine ⟨_, _, vs, ws, rfl, .inl ⟨Rdl.sq hs, Rdl.sq hs', q _ H1 _ e1 ⟨fun n H' F' e k pk' hx => ?_, fun H' e => ⟨vs, ws, Rdl.sq (Rdl.since hs hn e), Rdl.sq (Rdl.since hs' hn' e), ?_⟩⟩ h1⟩⟩
            · rw [zipD_len] at hx
              have la := hl.len
              have lb := hl'.len
              have q1 : SqL X.K H' ax vs := Rdl.sq (Rdl.since hs hn e)
              have q2 : SqL X.K H' ay ws := Rdl.sq (Rdl.since hs' hn' e)
              have va : n < vs.length := by omega
              have vb : n < ws.length := by omega
              refine ⟨⟨vs, ws, vs[n], ws[n], q1, q2, by simp [va], by simp [vb]⟩, fun x H2 y => ?_⟩
              obtain ⟨T, x', y', rfl, hT, rfl, f1, f2⟩ := y
              obtain ⟨da, ea, ia⟩ := (k hl).get (f1 vs q1)
              obtain ⟨db, eb, ib⟩ := (k hl').get (f2 ws q2)
              have e2 : Ex p H' (upd H' T (.tup [x', y'])) := .new pk'.pk hT
              exact ⟨e2, _, zipD_get ea eb, .tup (SqT.of upd_same) (pk'.ne hT) (.cons (ia.mono e2.kp) (.cons (ib.mono e2.kp) .nil))⟩
            · rw [zipD_len, hl.len, hl'.len]
              omega
  · exact h1.elim
end

/-! ### comprehensions -/
theorem wipe_comm (σ : L2.St) (i : Nat) (x : Option V) : ∀ vs : List Nat, i ∉ vs → wipe (σ.set i x) vs = (wipe σ vs).set i x
  | [], _ => rfl
  | v :: vs, h => by
    simp only [List.mem_cons, not_or] at h
    unfold wipe
    rw [wipe_comm σ i x vs h.2, List.set_comm _ _ h.1]
theorem wipe_set (σ : L2.St) (i : Nat) (x : Option V) : ∀ vs : List Nat, i ∈ vs → wipe (σ.set i x) vs = wipe σ vs
  | [], h => by cases h
  | v :: vs, h => by
    unfold wipe
    by_cases hv : i ∈ vs
    · rw [wipe_set σ i x vs hv]
    · have e : i = v := by
        rcases List.mem_cons.mp h with e | e
        · exact e
        · exact absurd e hv
      subst e
      rw [wipe_comm σ i x vs hv, List.set_set]
theorem wipe_idem (σ : L2.St) (ws : List Nat) : wipe (wipe σ ws) ws = wipe σ ws := by
  have gen : ∀ (us : List Nat), (∀ u ∈ us, u ∈ ws) → wipe (wipe σ ws) us = wipe σ ws := by
    intro us
    induction us with
    | nil => intro _; rfl
    | cons u us ih =>
      intro hu
      show (wipe (wipe σ ws) us).set u none = wipe σ ws
      rw [ih fun v hv => hu v (List.mem_cons_of_mem _ hv)]
      have hu0 := hu u List.mem_cons_self
      have : ∀ ws : List Nat, u ∈ ws → (wipe σ ws).set u none = wipe σ ws := by
        intro ws
        induction ws with
        | nil => intro h; cases h
        | cons w ws ih2 =>
          intro h
          unfold wipe
          by_cases e : u = w
          · subst e
            rw [List.set_set]
          · have h' : u ∈ ws := by
              rcases List.mem_cons.mp h with z | z
              · exact absurd z e
              · exact z
            rw [List.set_comm _ _ (Ne.symm e), ih2 h']
      exact this ws hu0
  exact gen ws fun _ h => h
/-- a target that stores to the slots of vs alone -/
structure PDGw (X : Cx) (p : Qt) (vs : List Nat) (tg : Expr) (d : DG) (t : TG) : Prop where
  pg : PG X tg t
  go : ∀ (v : V) (x : D) (g : Gd) (F : List Addr) (σ : L2.St) (H : Hp) (τ : Sl) (Q : L2.St → Hp → Prop) (R : Sl → Prop), Rel X.K p g F σ H τ → Is X.K p F H v x → d x τ R → (∀ σ' H' τ', Ex p H H' → Rel X.K p g F σ' H' τ' → wipe σ' vs = wipe σ vs → R τ' → Q σ' H') → t v σ H Q
structure PDGsw (X : Cx) (p : Qt) (vs : List Nat) (tgs : List Expr) (d : DGs) (t : TGs) : Prop where
  pg : PGs X tgs t
  go : ∀ (ws : List V) (xs : List D) (g : Gd) (F : List Addr) (σ : L2.St) (H : Hp) (τ : Sl) (Q : L2.St → Hp → Prop) (R : Sl → Prop), Rel X.K p g F σ H τ → IsL X.K p F H ws xs → d xs τ R → (∀ σ' H' τ', Ex p H H' → Rel X.K p g F σ' H' τ' → wipe σ' vs = wipe σ vs → R τ' → Q σ' H') → t ws σ H Q
section
variable {X : Cx} {p : Qt} {pos : Pos} {vs : List Nat}
theorem pgw_name {i : Nat} {x : Str} (hN : X.N.Nodup) (hi : X.N[i]? = some x) (hx : Loc X.env.scope x) (hv : i ∈ vs := by decide) (hf : X.fn x = true ∨ X.env.scope.names.lookup x = some .local := by first | exact .inl rfl | exact .inr rfl | assumption) : PDGw X p vs (.Name x pos) (gN i) (gName i) :=
  ⟨pg_name hN hi hx hf, fun v x g F σ H τ Q R rel i1 h q => q _ H _ (.refl rel.pk) (rel.set i1) (wipe_set σ i _ vs hv) h⟩
theorem pgsw_nil : PDGsw X p vs [] gNl L2.gNil := by
  refine ⟨pgs_nil, fun ws xs g F σ H τ Q R rel i1 h q => ?_⟩
  cases i1 with
  | nil => exact ⟨rfl, q σ H τ (.refl rel.pk) rel rfl h⟩
  | cons _ _ => exact h.elim
theorem pgsw_cons {e : Expr} {es : List Expr} {g : DG} {gs : DGs} {t : TG} {ts : TGs} (h1 : PDGw X p vs e g t) (h2 : PDGsw X p vs es gs ts) (hs : (assignEach (e :: es) X.env).map (·.2) = assign e X.env :: (assignEach es X.env).map (·.2) := by rfl) : PDGsw X p vs (e :: es) (gCn g gs) (L2.gCons t ts) := by
  refine ⟨pgs_cons h1.pg h2.pg hs, fun ws xs g0 F σ H τ Q R rel i1 h q => ?_⟩
  cases i1 with
  | nil => exact h.elim
  | cons i1 i2 =>
    refine ⟨_, _, rfl, h1.go _ _ g0 F σ H τ _ _ rel i1 h fun σ' H' τ' e1 rel1 w1 h1 => ?_⟩
    exact h2.go _ _ g0 F σ' H' τ' _ _ rel1 (i2.mono e1.kp) h1 fun σ2 H2 τ2 e2 rel2 w2 r2 => q σ2 H2 τ2 (e1.trans e2) rel2 (w2.trans w1) r2
theorem pgw_tup {es : List Expr} {k n : Nat} {gs : DGs} {ts : TGs} (hc : X.calm = true) (h : PDGsw X p vs es gs ts) (hn : (assignEach es X.env).length = n := by rfl) (hst : (assignEach es X.env).findIdx? (·.1) = none := by rfl) : PDGw X p vs (.Tuple es k pos) (gTu n gs) (L2.gTup X.K n ts) := by
  refine ⟨pg_tup hc h.pg hn hst, fun v x g F σ H τ Q R rel i1 hh q => ?_⟩
  cases i1 with
  | tup s ne il =>
    obtain ⟨hl, hh⟩ := hh
    exact ⟨_, _, rfl, s, by rw [il.len]; exact hl, h.go _ _ g F σ H τ _ _ rel il hh q⟩
  | _ => exact hh.elim
end
def dYes : DT := fun _ R => R true
def dLcGo (g : DG) (tt : DT) (te : DE) (τ : Sl) : List D → List D → (List D → Prop) → Prop
  | [], acc, R => R acc
  | x :: r, acc, R => g x τ fun τ2 => tt τ2 fun b => if b = true then te τ2 fun y => dLcGo g tt te τ r (acc ++ [y]) R else dLcGo g tt te τ r acc R
/-- not too long a list -/
structure LenOk (l : List D) : Prop where
  few : l.length ≤ 1000000
theorem LenOk.of {l : List D} (n : Nat) (h : l.length = n) (h2 : n ≤ 1000000) : LenOk l := ⟨by rw [h]; exact h2⟩
def dLc (it : DI) (g : DG) (tt : DT) (te : DE) (own : List Nat) : DE := fun τ R => it τ fun l => LenOk l ∧ dLcGo g tt te (wipeD τ own) l [] fun acc => R (.lst acc)
section
variable {X : Cx} {p : Qt} {pos : Pos}
/-- a frame with one more address shut out: a new list -/
theorem Rel.shut {K : PySem.W.Frag} {g : Gd} {F : List Addr} {σ : L2.St} {H : Hp} {τ : Sl} {D0 : Addr} (rel : Rel K p g F σ H τ) (hD : H D0 = none) {xs : List V} : Rel K p g (D0 :: F) σ (upd H D0 (.lst xs)) τ := by
  have e : Ex p H (upd H D0 (.lst xs)) := .new rel.pk hD
  have r := rel.st e
  have mo : ∀ b ∈ D0 :: F, b ∈ F ∨ ∀ o, NoT o → H b ≠ some o := fun b hb => by
    rcases List.mem_cons.mp hb with z | z
    · exact .inr fun o _ q => by rw [z, hD] at q; cases q
    · exact .inl z
  refine ⟨r.pk, r.kp, fun b hb => List.mem_cons_of_mem _ (r.sub b hb), fun b hb => ?_, fun b hb => ?_, fun i d h n => ?_, fun i l h => ?_, r.un, r.len⟩
  · rcases List.mem_cons.mp hb with z | z
    · subst z
      exact ⟨rel.pk.ne hD, _, upd_same, trivial⟩
    · exact r.al b z
  · rcases List.mem_cons.mp hb with z | z
    · subst z
      by_cases hB : b ∈ g.B
      · exact .inr (.inl hB)
      · exact .inr (.inr fun o t q => by
          have := rel.kp b o (rel.pk.ne hD) hB t q
          rw [hD] at this
          cases this)
    · exact r.fo b z
  · obtain ⟨v, h1, h2⟩ := rel.sl i d h n
    exact ⟨v, h1, (h2.more mo).mono e.kp⟩
  · obtain ⟨a, vs, h1, h2, h3, h4, h6⟩ := rel.ow i l h
    exact ⟨a, vs, h1, e.kp _ _ (rel.al a h3).1 (fun _ z => nomatch z) h2, List.mem_cons_of_mem _ h3, h4, (h6.more mo).mono e.kp⟩
/-- a shut list written -/
theorem Rel.wrote {K : PySem.W.Frag} {g : Gd} {F : List Addr} {σ : L2.St} {H : Hp} {τ : Sl} {D0 : Addr} {ws xs : List V} (rel : Rel K p g F σ H τ) (hF : D0 ∈ F) (hD : H D0 = some (.lst ws)) (hg : D0 ∈ g.B ∨ ∀ o, NoT o → g.H0 D0 ≠ some o) (ho : ∀ (i : Nat) (l : List D), τ[i]? = some (some (D.own l)) → σ[i]? ≠ some (some (V.ref D0))) : Rel K p g F σ (upd H D0 (.lst xs)) τ ∧ ∀ w y, Is K p F H w y → Is K p F (upd H D0 (.lst xs)) w y := by
  have nP : D0 ≠ p.pot := (rel.al D0 hF).1
  have nT : ∀ t ∈ p.tabs, D0 ≠ t := fun t ht z => by
    obtain ⟨ps, q, _⟩ := rel.pk.tb t ht
    rw [← z, hD] at q
    cases q
  have tupk : ∀ {a : Addr} {vs : List V}, SqT K H a vs → SqT K (upd H D0 (.lst xs)) a vs := by
    intro a vs h
    rcases h with (h | ⟨o, h⟩) | h
    · exact .inl (.inl (by rw [upd_ne (ne_of h hD (by intro z; cases z))]; exact h))
    · exact .inl (.inr ⟨o, by rw [upd_ne (ne_of h hD (by intro z; cases z))]; exact h⟩)
    · exact .inr h
  have lstk : ∀ {a : Addr} {vs : List V}, a ∉ F → Rd H a (.lst vs) → Rd (upd H D0 (.lst xs)) a (.lst vs) := by
    intro a vs n h
    have ne : a ≠ D0 := fun z => n (z ▸ hF)
    rcases h with h | ⟨o, h⟩
    · exact .inl (by rw [upd_ne ne]; exact h)
    · exact .inr ⟨o, by rw [upd_ne ne]; exact h⟩
  have isk : ∀ {v : V} {d : D}, Is K p F H v d → Is K p F (upd H D0 (.lst xs)) v d := by
    intro v d h
    exact Is.rec (motive_1 := fun v d _ => Is K p F (upd H D0 (.lst xs)) v d) (motive_2 := fun vs l _ => IsL K p F (upd H D0 (.lst xs)) vs l) .non .bl .int .str .ty .fn
      (fun h n _ ih => .tup (tupk h) n ih) (fun h n _ ih => .lst (lstk n.2 h) n ih) .pot .nil (fun _ _ i1 i2 => .cons i1 i2) h
  have islk : ∀ {vs : List V} {l : List D}, IsL K p F H vs l → IsL K p F (upd H D0 (.lst xs)) vs l := fun {vs l} h => h.all fun w y z => isk z
  refine ⟨⟨⟨?_, fun t ht => TabG.upd (rel.pk.tb t ht) (nT t ht)⟩, fun b o n nb t q => ?_, rel.sub, fun b hb => ?_, rel.fo, fun i d h n => ?_, fun i l h => ?_, rel.un, rel.len⟩, fun w y => isk⟩
  · obtain ⟨x, y, g1, g2, g3, g4⟩ := rel.pk.at_
    exact ⟨x, y, g1, g2, g3, by rw [upd_ne nP.symm]; exact g4⟩
  · have ne : b ≠ D0 := fun z => by
      subst z
      rcases hg with z | z
      · exact nb z
      · exact z o t q
    rw [upd_ne ne]
    exact rel.kp b o n nb t q
  · obtain ⟨h1, o, h2, h3⟩ := rel.al b hb
    by_cases ne : b = D0
    · subst ne
      exact ⟨h1, _, upd_same, trivial⟩
    · exact ⟨h1, o, by rw [upd_ne ne]; exact h2, h3⟩
  · obtain ⟨v, h1, h2⟩ := rel.sl i d h n
    exact ⟨v, h1, isk h2⟩
  · obtain ⟨a, vs, h1, h2, h3, h4, h6⟩ := rel.ow i l h
    have ne : a ≠ D0 := fun z => ho i l h (by rw [h1, z])
    exact ⟨a, vs, h1, by rw [upd_ne ne]; exact h2, h3, h4, islk h6⟩
theorem lc_run {K : PySem.W.Frag} {J : It} {g0 : Gd} {F : List Addr} {H1 : Hp} {l : List D} {D0 : Addr} {g : DG} {tt : DT} {te : DE} {tgt : TG} {tT : TT} {vs : List Nat} {σ : L2.St} {τ : Sl} {Q : VK} {R : D → Prop} (hD : H1 D0 = none) (wd : WD K p F J H1 l) (hl : l.length ≤ 1000000) (rel : Rel K p g0 F σ H1 τ)
    (hg : ∀ (v : V) (x : D) (g0 : Gd) (F : List Addr) (σ : L2.St) (H : Hp) (τ : Sl) (Q : L2.St → Hp → Prop) (R : Sl → Prop), Rel K p g0 F σ H τ → Is K p F H v x → g x τ R → (∀ σ' H' τ', Ex p H H' → Rel K p g0 F σ' H' τ' → wipe σ' vs = wipe σ vs → R τ' → Q σ' H') → tgt v σ H Q)
    (ht : ∀ (g0 : Gd) (F : List Addr) (σ : L2.St) (H : Hp) (τ : Sl) (Q : Bool → Hp → Prop) (R : Bool → Prop), Rel K p g0 F σ H τ → tt τ R → (∀ b H', Ex p H H' → R b → Q b H') → tT σ H Q)
    (h : dLcGo g tt te (wipeD τ vs) l [] fun acc => R (.lst acc)) (q : ∀ x v H', Ex p H1 H' → Is K p F H' v x → R x → Q v H') :
    ∃ W : Nat → Nat → Hp → Prop, (∃ m, W 0 m (upd H1 D0 (.lst []))) ∧ ∀ i m H, W i m H → (J.stop i H ∧ Q (.ref D0) H) ∨ (J.go i H ∧ ∃ Nx : Hp → Prop, (∀ H', Nx H' → ∃ m', m' < m ∧ W (i + 1) m' H') ∧
      ∀ x H', J.yld i H x H' → tgt x (wipe σ vs) H' fun σ2 H2 => wipe σ2 vs = wipe σ vs ∧ tT σ2 H2 fun b H3 => if b = true then liftE K p te σ2 H3 fun y H4 => ∃ acc, H4 D0 = some (.lst acc) ∧ acc.length < sizeLine ∧ Nx (upd H4 D0 (.lst (acc ++ [y]))) else Nx H3) := by
  have nD := rel.notF hD
  have r0 := rel.wipe vs
  have start : Ex p H1 (upd H1 D0 (.lst [])) := .new rel.pk hD
  have mo : ∀ b ∈ D0 :: F, b ∈ F ∨ ∀ o, NoT o → H1 b ≠ some o := fun b hb => by
    rcases List.mem_cons.mp hb with z | z
    · exact .inr fun o _ q => by rw [z, hD] at q; cases q
    · exact .inl z
  have hgD : D0 ∈ g0.B ∨ ∀ o, NoT o → g0.H0 D0 ≠ some o := by
    by_cases hB : D0 ∈ g0.B
    · exact .inl hB
    · exact .inr fun o t q => by
        have := rel.kp D0 o nD.1 hB t q
        rw [hD] at this
        cases this
  have ho : ∀ (i : Nat) (l : List D), (wipeD τ vs)[i]? = some (some (D.own l)) → (wipe σ vs)[i]? ≠ some (some (V.ref D0)) := fun i l h1 h2 => by
    obtain ⟨a, us, k1, k2, _⟩ := r0.ow i l h1
    rw [h2] at k1
    cases k1
    rw [hD] at k2
    cases k2
  refine ⟨fun i m H => i ≤ l.length ∧ m = l.length - i ∧ Ex p H1 H ∧ Rel K p g0 (D0 :: F) (wipe σ vs) H (wipeD τ vs) ∧ ∃ va acc, H D0 = some (.lst va) ∧ IsL K p (D0 :: F) H va acc ∧ acc.length ≤ i ∧ dLcGo g tt te (wipeD τ vs) (l.drop i) acc fun acc => R (.lst acc),
    ⟨_, Nat.zero_le _, rfl, start, r0.shut hD, [], [], upd_same, .nil, Nat.le_refl _, h⟩, ?_⟩
  rintro i m H ⟨hi, rfl, ex, rl, va, acc, hva, iva, lva, h⟩
  by_cases hlt : i < l.length
  · obtain ⟨go, y⟩ := wd.step i H (D0 :: F) ex.toF (fun z => (z.more mo).mono ex.kp) rl.pkf hlt
    refine .inr ⟨go, fun H' => Ex p H1 H' ∧ Rel K p g0 (D0 :: F) (wipe σ vs) H' (wipeD τ vs) ∧ ∃ va acc, H' D0 = some (.lst va) ∧ IsL K p (D0 :: F) H' va acc ∧ acc.length ≤ i + 1 ∧ dLcGo g tt te (wipeD τ vs) (l.drop (i + 1)) acc fun acc => R (.lst acc), fun H' ⟨q1, q2, q3⟩ => ⟨_, by omega, hlt, rfl, q1, q2, q3⟩, fun x H2 yl => ?_⟩
    obtain ⟨e2, d, hd, hx⟩ := y x H2 yl
    rw [drop_at hd] at h
    refine hg x d g0 (D0 :: F) _ H2 _ _ _ (rl.st e2) hx h fun σ3 H3 τ3 e3 rel3 w3 h3 => ⟨by rw [w3, wipe_idem], ?_⟩
    refine ht g0 (D0 :: F) σ3 H3 τ3 _ _ rel3 h3 fun b H4 e4 h4 => ?_
    have e24 := (e2.trans e3).trans e4
    have ex4 := ex.trans e24
    have nDp : D0 ≠ p.pot := nD.1
    have hva4 : H4 D0 = some (.lst va) := e24.kp _ _ nDp (fun _ z => nomatch z) hva
    cases b with
    | true =>
      rw [if_pos rfl] at h4 ⊢
      refine ⟨g0, D0 :: F, τ3, _, rel3.st e4, h4, fun z v H5 e5 i5 h5 => ?_⟩
      have hva5 : H5 D0 = some (.lst va) := e5.kp _ _ nDp (fun _ z => nomatch z) hva4
      have len := iva.len
      have rl5 := (rl.st e24).st e5
      obtain ⟨rw5, isk⟩ := rl5.wrote List.mem_cons_self hva5 hgD ho (xs := va ++ [v])
      refine ⟨va, hva5, ?_, ?_, rw5, va ++ [v], acc ++ [z], upd_same, (((iva.mono e24.kp).mono e5.kp).app (.cons i5 .nil)).all isk, by rw [List.length_append]; simp; omega, h5⟩
      · have : sizeLine = 16777216 := sizeLine_eq
        omega
      · have ex5 := ex4.trans e5
        exact ⟨fun b o nb t e => by rw [upd_ne (ne_of_none e hD)]; exact ex5.kp b o nb t e, rw5.pk⟩
    | false =>
      rw [if_neg Bool.false_ne_true] at h4 ⊢
      exact ⟨ex4, rl.st e24, va, acc, hva4, iva.mono e24.kp, by omega, h4⟩
  · have e : i = l.length := by omega
    subst e
    rw [List.drop_length] at h
    exact .inl ⟨wd.stop H ex.toF, q _ _ H ex (.lst (Rd.of hva) nD (iva.less fun b hb => List.mem_cons_of_mem _ hb)) h⟩
theorem pd_lc {elt tg iter : Expr} {scope : Scope} {own : List (Str × Nat)} {it : DI} {g : DG} {te : DE} {t : TG} (hc : X.calm = true) (hN : X.N.Nodup) (hi : PDI X p tg iter it) (ok : blkC X.N X.env.scope scope own = true)
    (hg : ∀ (s : Shared) (H : Hp) (C : Addr) (cl : List (Str × Addr)) (fp : List Addr), PDGw (X.blk s H scope (compEnvC scope cl C X.env) fp) p (own.map (·.2)) tg g t)
    (he : ∀ (s : Shared) (H : Hp) (C : Addr) (cl : List (Str × Addr)) (fp : List Addr), PD (X.blk s H scope (compEnvC scope cl C X.env) fp) p elt te) (hs : ∀ x, foldedSetIterable iter X.env x = pure x := by intro _; rfl) (sh : Shared) :
    PD X p (.ListComp elt [⟨tg, iter, [], 0⟩] scope pos) (dLc it g dYes te (own.map (·.2))) := by
  obtain ⟨wi, i1, i2⟩ := hi.run
  refine ⟨_, pe_lc (te := liftE X.K p te) hc hN i1 (blkOk_by ok) (fun s H C cl fp => (hg s H C cl fp).pg) (fun _ _ _ _ _ => pts_nil) (fun s H C cl fp => (he s H C cl fp).pe) hs, fun g0 F σ H τ Q R rel h q => ?_⟩
  refine i2 g0 F σ H τ _ _ rel h fun J H1 l e1 wd h1 => ?_
  intro D0 hD
  exact lc_run (K := X.K) (tt := dYes) hD wd h1.1.few (rel.st e1) (hg sh H 0 [] []).go (fun g0 F σ H τ Q R rel h q => q true H (.refl rel.pk) h) h1.2 fun x v H' e i r => q x v H' (e1.trans e) i r
/-- with one test -/
theorem pd_lcI {elt tg iter c : Expr} {scope : Scope} {own : List (Str × Nat)} {it : DI} {g : DG} {te : DE} {tt : DT} {t : TG} (hc : X.calm = true) (hN : X.N.Nodup) (hi : PDI X p tg iter it) (ok : blkC X.N X.env.scope scope own = true)
    (hg : ∀ (s : Shared) (H : Hp) (C : Addr) (cl : List (Str × Addr)) (fp : List Addr), PDGw (X.blk s H scope (compEnvC scope cl C X.env) fp) p (own.map (·.2)) tg g t)
    (ht : ∀ (s : Shared) (H : Hp) (C : Addr) (cl : List (Str × Addr)) (fp : List Addr), PDT (X.blk s H scope (compEnvC scope cl C X.env) fp) p c tt)
    (he : ∀ (s : Shared) (H : Hp) (C : Addr) (cl : List (Str × Addr)) (fp : List Addr), PD (X.blk s H scope (compEnvC scope cl C X.env) fp) p elt te) (hs : ∀ x, foldedSetIterable iter X.env x = pure x := by intro _; rfl) (sh : Shared) :
    PD X p (.ListComp elt [⟨tg, iter, [c], 0⟩] scope pos) (dLc it g tt te (own.map (·.2))) := by
  obtain ⟨wi, i1, i2⟩ := hi.run
  refine ⟨_, pe_lc (te := liftE X.K p te) (tt := liftT X.K p tt) hc hN i1 (blkOk_by ok) (fun s H C cl fp => (hg s H C cl fp).pg) (fun s H C cl fp => pts_one (ht s H C cl fp).pt) (fun s H C cl fp => (he s H C cl fp).pe) hs, fun g0 F σ H τ Q R rel h q => ?_⟩
  refine i2 g0 F σ H τ _ _ rel h fun J H1 l e1 wd h1 => ?_
  intro D0 hD
  exact lc_run (K := X.K) (tt := tt) hD wd h1.1.few (rel.st e1) (hg sh H 0 [] []).go (fun g0 F σ H τ Q R rel h q => ⟨g0, F, τ, R, rel, h, q⟩) h1.2 fun x v H' e i r => q x v H' (e1.trans e) i r
end

/-! ### all, any of a generator expression -/
def dGenGo (c : Bool) (g : DG) (te : DE) (τ : Sl) : List D → (Bool → Prop) → Prop
  | [], R => R c
  | x :: r, R => g x τ fun τ2 => te τ2 fun y => match y with
    | .bl b => if b = c then dGenGo c g te τ r R else R (!c)
    | _ => False
def dGen (c : Bool) (it : DI) (g : DG) (te : DE) (own : List Nat) : DE := fun τ R => it τ fun l => dGenGo c g te (wipeD τ own) l fun b => R (.bl b)
section
variable {X : Cx} {p : Qt}
theorem gen_run {K : PySem.W.Frag} {J : It} {g0 : Gd} {F : List Addr} {H1 H2 : Hp} {l : List D} {c : Bool} {g : DG} {te : DE} {tgt : TG} {vs : List Nat} {σ : L2.St} {τ : Sl} {Q : VK} {R : D → Prop} (wd : WD K p F J H1 l) (rel : Rel K p g0 F σ H1 τ) (e12 : Ex p H1 H2)
    (hg : ∀ (v : V) (x : D) (g0 : Gd) (F : List Addr) (σ : L2.St) (H : Hp) (τ : Sl) (Q : L2.St → Hp → Prop) (R : Sl → Prop), Rel K p g0 F σ H τ → Is K p F H v x → g x τ R → (∀ σ' H' τ', Ex p H H' → Rel K p g0 F σ' H' τ' → wipe σ' vs = wipe σ vs → R τ' → Q σ' H') → tgt v σ H Q)
    (h : dGenGo c g te (wipeD τ vs) l fun b => R (.bl b)) (q : ∀ x v H', Ex p H1 H' → Is K p F H' v x → R x → Q v H') :
    ∃ W : Nat → Nat → Hp → Prop, (∃ m, W 0 m H2) ∧ GA.Turns J tgt (liftE K p te) vs (wipe σ vs) c (Q (.bl c)) (Q (.bl (!c))) W := by
  refine ⟨fun i m H => i ≤ l.length ∧ m = l.length - i ∧ Ex p H1 H ∧ dGenGo c g te (wipeD τ vs) (l.drop i) fun b => R (.bl b), ⟨_, Nat.zero_le _, rfl, e12, h⟩, ?_⟩
  rintro i m H ⟨hi, rfl, ex, h⟩
  by_cases hlt : i < l.length
  · have rl := (rel.wipe vs).st ex
    obtain ⟨go, y⟩ := wd.step i H F ex.toF (fun z => z.mono ex.kp) rl.pkf hlt
    refine .inr ⟨go, fun x H2 yl => ?_⟩
    obtain ⟨e2, d, hd, hx⟩ := y x H2 yl
    rw [drop_at hd] at h
    refine hg x d g0 F _ H2 _ _ _ (rl.st e2) hx h fun σ3 H3 τ3 e3 rel3 w3 h3 => ⟨by rw [w3, wipe_idem], ?_⟩
    refine ⟨g0, F, τ3, _, rel3, h3, fun z v H4 e4 i4 h4 => ?_⟩
    have ex4 := ((ex.trans e2).trans e3).trans e4
    cases i4 with
    | bl b =>
      refine ⟨b, rfl, ?_⟩
      have h4' : if b = c then dGenGo c g te (wipeD τ vs) (l.drop (i + 1)) (fun b => R (.bl b)) else R (.bl (!c)) := h4
      by_cases hb : b = c
      · rw [if_pos hb] at h4' ⊢
        exact ⟨l.length - (i + 1), by omega, hlt, rfl, ex4, h4'⟩
      · rw [if_neg hb] at h4' ⊢
        exact q _ _ H4 ex4 (.bl _) h4'
    | _ => exact (show False from h4).elim
  · have e : i = l.length := by omega
    subst e
    rw [List.drop_length] at h
    exact .inl ⟨wd.stop H ex.toF, q _ _ H ex (.bl _) h⟩
theorem Room.gx {k : Nat} {A : Around} {ge : Env} (r : Room (k + 1) A) : Room k (A.in1.in1.deeper ge) :=
  ⟨r.hd, by have := r.dp; show A.depth + 1 + 3 * k + 5 < _; omega, by have := r.un; show A.units + 1 + 1 + 3 + 16 * k + 200 < _; omega⟩
theorem pd_allG {elt tg iter : Expr} {q pos gpos : Pos} {scope : Scope} {own : List (Str × Nat)} {it : DI} {g : DG} {te : DE} {t : TG} {k : Nat}
    (hr : Room k X.A) (hm : X.mg "all" = none) (TX : TabX X.base X.mg p.tabs X.env.code) (hc : X.calm = true) (hN : X.N.Nodup) (ok : GA.gxC X.N X.env.scope scope own = true) (hi : PDI X p tg iter it)
    (hg : ∀ (s : Shared) (H : Hp) (cl : List (Str × Addr)) (C : Addr) (cd : Value) (fp : List Addr), PDGw (GA.gx X s H (genEnv scope cl C cd builtinsNs X.env) fp) p (own.map (·.2)) tg g t)
    (he : ∀ (s : Shared) (H : Hp) (cl : List (Str × Addr)) (C : Addr) (cd : Value) (fp : List Addr), PD (GA.gx X s H (genEnv scope cl C cd builtinsNs X.env) fp) p elt te) (sh : Shared)
    (hgl : Gl X "all" := by rfl) (hs : ∀ v, genFold iter X.env v = pure v := by intro _; rfl)
    (hst : starEach [.GeneratorExp elt [⟨tg, iter, [], 0⟩] scope gpos] X.env = (false, eval (.GeneratorExp elt [⟨tg, iter, [], 0⟩] scope gpos) X.env) :: starEach [] X.env := by rfl) :
    PD X p (.Call (.Name "all" q) [.GeneratorExp elt [⟨tg, iter, [], 0⟩] scope gpos] [] pos) (dGen true it g te (own.map (·.2))) := by
  obtain ⟨wi, i1, i2⟩ := hi.run
  obtain ⟨c0, P, e0, hP, TB⟩ := TX
  refine ⟨_, GA.pe_allG (te := liftE X.K p te) hr hgl hm boot_all TB e0 hc hN (GA.gxOk_by ok) i1 (fun s H cl C cd fp => (hg s H cl C cd fp).pg) (fun s H cl C cd fp => (he s H cl C cd fp).pe) hs hst, fun g0 F σ H τ Q R rel h q => ?_⟩
  refine i2 g0 F σ H τ _ _ rel h fun J H1 l e1 wd h1 => ?_
  refine ⟨e1.pk.tb P hP, fun H2 hT => ?_⟩
  exact gen_run wd (rel.st e1) (.tabbed e1.pk hP hT) (hg sh H [] 0 .none []).go h1 fun x v H' e i r => q x v H' (e1.trans e) i r
theorem pd_anyG {elt tg iter : Expr} {q pos gpos : Pos} {scope : Scope} {own : List (Str × Nat)} {it : DI} {g : DG} {te : DE} {t : TG} {k : Nat}
    (hr : Room k X.A) (hm : X.mg "any" = none) (TX : TabX X.base X.mg p.tabs X.env.code) (hc : X.calm = true) (hN : X.N.Nodup) (ok : GA.gxC X.N X.env.scope scope own = true) (hi : PDI X p tg iter it)
    (hg : ∀ (s : Shared) (H : Hp) (cl : List (Str × Addr)) (C : Addr) (cd : Value) (fp : List Addr), PDGw (GA.gx X s H (genEnv scope cl C cd builtinsNs X.env) fp) p (own.map (·.2)) tg g t)
    (he : ∀ (s : Shared) (H : Hp) (cl : List (Str × Addr)) (C : Addr) (cd : Value) (fp : List Addr), PD (GA.gx X s H (genEnv scope cl C cd builtinsNs X.env) fp) p elt te) (sh : Shared)
    (hgl : Gl X "any" := by rfl) (hs : ∀ v, genFold iter X.env v = pure v := by intro _; rfl)
    (hst : starEach [.GeneratorExp elt [⟨tg, iter, [], 0⟩] scope gpos] X.env = (false, eval (.GeneratorExp elt [⟨tg, iter, [], 0⟩] scope gpos) X.env) :: starEach [] X.env := by rfl) :
    PD X p (.Call (.Name "any" q) [.GeneratorExp elt [⟨tg, iter, [], 0⟩] scope gpos] [] pos) (dGen false it g te (own.map (·.2))) := by
  obtain ⟨wi, i1, i2⟩ := hi.run
  obtain ⟨c0, P, e0, hP, TB⟩ := TX
  refine ⟨_, GA.pe_anyG (te := liftE X.K p te) hr hgl hm TB e0 hc hN (GA.gxOk_by ok) i1 (fun s H cl C cd fp => (hg s H cl C cd fp).pg) (fun s H cl C cd fp => (he s H cl C cd fp).pe) hs hst, fun g0 F σ H τ Q R rel h q => ?_⟩
  refine i2 g0 F σ H τ _ _ rel h fun J H1 l e1 wd h1 => ?_
  refine ⟨e1.pk.tb P hP, fun H2 hT => ?_⟩
  exact gen_run wd (rel.st e1) (.tabbed e1.pk hP hT) (hg sh H [] 0 .none []).go h1 fun x v H' e i r => q x v H' (e1.trans e) i r
end
/-! ### chains of any length -/
structure PCh (X : Cx) (p : Qt) (ops : List CmpOp) (es : List Expr) (d : D → DE) : Prop where
  run : ∀ (pos : Pos) (pins : List (Addr × Obj)) (s : Shared) (g0 : Gd) (F : List Addr) (σ : L2.St) (H : Hp) (τ : Sl) (v : V) (u : Value) (x : D) (Q : VK) (R : D → Prop), Inv X pins σ H s → Rel X.K p g0 F σ H τ → RelV v u → Is X.K p F H v x → d x τ R → (∀ z v' H', Ex p H H' → Is X.K p F H' v' z → R z → Q v' H') →
    wpAny (model X.prog X.w) X.A (compareChain pos u ops (evalEach es X.env)) (EP X pins σ Q) X.xe s
structure PCt (X : Cx) (p : Qt) (ops : List CmpOp) (es : List Expr) (d : D → DT) : Prop where
  run : ∀ (pos : Pos) (pins : List (Addr × Obj)) (s : Shared) (g0 : Gd) (F : List Addr) (σ : L2.St) (H : Hp) (τ : Sl) (v : V) (u : Value) (x : D) (Q : Bool → Hp → Prop) (R : Bool → Prop), Inv X pins σ H s → Rel X.K p g0 F σ H τ → RelV v u → Is X.K p F H v x → d x τ R → (∀ b H', Ex p H H' → R b → Q b H') →
    wpAny (model X.prog X.w) X.A (testChain pos u ops (evalEach es X.env)) (TP X pins σ Q) X.xe s
def cLast (g : D → D → (D → Prop) → Prop) (dc : DE) : D → DE := fun x τ R => dc τ fun w => g x w R
def cLink (g : D → D → (D → Prop) → Prop) (db : DE) (d : D → DE) : D → DE := fun x τ R => db τ fun y => g x y fun z => match z with
  | .bl k => if k = true then d y τ R else R (.bl false)
  | _ => False
def tLast (g : D → D → (D → Prop) → Prop) (dc : DE) : D → DT := fun x τ R => dc τ fun w => g x w fun z => match z with
  | .bl k => R k
  | _ => False
def tLink (g : D → D → (D → Prop) → Prop) (db : DE) (d : D → DT) : D → DT := fun x τ R => db τ fun y => g x y fun z => match z with
  | .bl k => if k = true then d y τ R else R false
  | _ => False
def dCh (da : DE) (d : D → DE) : DE := fun τ R => da τ fun x => d x τ R
def dCt (da : DE) (d : D → DT) : DT := fun τ R => da τ fun x => d x τ R
section
variable {X : Cx} {p : Qt} {a b : Expr} {da db : DE} {op op' : CmpOp} {ops : List CmpOp} {es : List Expr} {e' : Expr} {g : D → D → (D → Prop) → Prop} {pos : Pos}
theorem pch_last (ho : OpD X p (compareOp op) g) (hb : PD X p b db) : PCh X p [op] [b] (cLast g db) := by
  obtain ⟨r, h1, h2⟩ := ho
  refine ⟨fun pos pins s g0 F σ H τ v u x Q R I rel rv iv h q => chain_last (thn (hb.pe.run pins s σ H (fun v' H' => r v v' H' Q) I ⟨g0, F, τ, _, rel, h, fun y v' H1 e1 i1 k1 => h2 F H1 x y v v' Q R (rel.st e1).pkf (iv.mono e1.kp) i1 k1 fun z v2 H2 e2 i2 k2 => q z v2 H2 (e1.trans e2) i2 k2⟩) ?_)⟩
  rintro u2 s2 ⟨v2, H2, I2, r2, k2⟩
  exact h1 pins s2 σ H2 v v2 u u2 Q I2 rv r2 k2
theorem pch_cons {d : D → DE} (ho : OpD X p (compareOp op) g) (hb : PD X p b db) (ht : PCh X p (op' :: ops) (e' :: es) d) : PCh X p (op :: op' :: ops) (b :: e' :: es) (cLink g db d) := by
  obtain ⟨r, h1, h2⟩ := ho
  refine ⟨fun pos pins s g0 F σ H τ v u x Q R I rel rv iv h q => chain_link (thn (hb.pe.run pins s σ H (fun v' H' => ∃ y, Ex p H H' ∧ Is X.K p F H' v' y ∧ r v v' H' fun z H2 => ∃ k, z = .bl k ∧ Ex p H H2 ∧ Is X.K p F H2 v' y ∧ (if k = true then d y τ R else R (.bl false))) I ⟨g0, F, τ, _, rel, h, fun y v' H1 e1 i1 k1 => ⟨y, e1, i1, h2 F H1 x y v v' _ _ (rel.st e1).pkf (iv.mono e1.kp) i1 k1 fun z v2 H2 e2 i2 k2 => ?_⟩⟩) ?_)⟩
  · cases i2 with
    | bl k => exact ⟨k, rfl, e1.trans e2, i1.mono e2.kp, k2⟩
    | _ => exact k2.elim
  · rintro u2 s2 ⟨v2, H2, I2, r2, y, e2, i2, k2⟩
    refine thn (h1 pins s2 σ H2 v v2 u u2 _ I2 rv r2 k2) ?_
    rintro u3 s3 ⟨v3, H3, I3, r3, k, rfl, e3, i3, k3⟩
    cases r3
    refine wpAny_truthy_bool ?_
    cases k with
    | false =>
      rw [if_neg Bool.false_ne_true] at k3 ⊢
      exact ⟨.bl false, H3, I3, rfl, q _ _ H3 e3 (.bl false) k3⟩
    | true =>
      rw [if_pos rfl] at k3 ⊢
      exact ht.run pos pins s3 g0 F σ H3 τ v2 u2 y Q R I3 (rel.st e3) r2 i3 k3 fun z v' H' e i rr => q z v' H' (e3.trans e) i rr
theorem pct_last (ho : OpD X p (compareOp op) g) (hb : PD X p b db) : PCt X p [op] [b] (tLast g db) := by
  obtain ⟨r, h1, h2⟩ := ho
  refine ⟨fun pos pins s g0 F σ H τ v u x Q R I rel rv iv h q => test_last (thn (hb.pe.run pins s σ H (fun v' H' => r v v' H' fun z H2 => ∃ k, z = .bl k ∧ Q k H2) I ⟨g0, F, τ, _, rel, h, fun y v' H1 e1 i1 k1 => h2 F H1 x y v v' _ _ (rel.st e1).pkf (iv.mono e1.kp) i1 k1 fun z v2 H2 e2 i2 k2 => ?_⟩) ?_)⟩
  · cases i2 with
    | bl k => exact ⟨k, rfl, q k H2 (e1.trans e2) k2⟩
    | _ => exact k2.elim
  · rintro u2 s2 ⟨v2, H2, I2, r2, k2⟩
    refine thn (h1 pins s2 σ H2 v v2 u u2 _ I2 rv r2 k2) ?_
    rintro u3 s3 ⟨v3, H3, I3, r3, k, rfl, k3⟩
    cases r3
    exact wpAny_truthy_bool ⟨H3, I3, k3⟩
theorem pct_cons {d : D → DT} (ho : OpD X p (compareOp op) g) (hb : PD X p b db) (ht : PCt X p (op' :: ops) (e' :: es) d) : PCt X p (op :: op' :: ops) (b :: e' :: es) (tLink g db d) := by
  obtain ⟨r, h1, h2⟩ := ho
  refine ⟨fun pos pins s g0 F σ H τ v u x Q R I rel rv iv h q => test_link (thn (hb.pe.run pins s σ H (fun v' H' => ∃ y, Ex p H H' ∧ Is X.K p F H' v' y ∧ r v v' H' fun z H2 => ∃ k, z = .bl k ∧ Ex p H H2 ∧ Is X.K p F H2 v' y ∧ (if k = true then d y τ R else R false)) I ⟨g0, F, τ, _, rel, h, fun y v' H1 e1 i1 k1 => ⟨y, e1, i1, h2 F H1 x y v v' _ _ (rel.st e1).pkf (iv.mono e1.kp) i1 k1 fun z v2 H2 e2 i2 k2 => ?_⟩⟩) ?_)⟩
  · cases i2 with
    | bl k => exact ⟨k, rfl, e1.trans e2, i1.mono e2.kp, k2⟩
    | _ => exact k2.elim
  · rintro u2 s2 ⟨v2, H2, I2, r2, y, e2, i2, k2⟩
    refine thn (h1 pins s2 σ H2 v v2 u u2 _ I2 rv r2 k2) ?_
    rintro u3 s3 ⟨v3, H3, I3, r3, k, rfl, e3, i3, k3⟩
    cases r3
    refine wpAny_truthy_bool ?_
    cases k with
    | false =>
      rw [if_neg Bool.false_ne_true] at k3 ⊢
      exact ⟨H3, I3, q _ H3 e3 k3⟩
    | true =>
      rw [if_pos rfl] at k3 ⊢
      exact ht.run pos pins s3 g0 F σ H3 τ v2 u2 y Q R I3 (rel.st e3) r2 i3 k3 fun z H' e rr => q z H' (e3.trans e) rr
theorem pd_chainN {d : D → DE} (ha : PD X p a da) (ht : PCh X p (op :: op' :: ops) (b :: e' :: es) d) (hm : lastMarks (op :: op' :: ops) (b :: e' :: es) = false := by with_unfolding_all rfl) : PD X p (.Compare a (op :: op' :: ops) (b :: e' :: es) pos) (dCh da d) := by
  refine ⟨liftE X.K p (dCh da d), ⟨fun pins s σ H Q I hq => ?_⟩, fun g0 F σ H τ Q R rel h q => ⟨g0, F, τ, R, rel, h, q⟩⟩
  obtain ⟨g0, F, τ, R, rel, h, q⟩ := hq
  refine Compare_chain (thn (ha.pe.run pins s σ H (fun v' H' => ∃ x, Ex p H H' ∧ Is X.K p F H' v' x ∧ d x τ R) I ⟨g0, F, τ, _, rel, h, fun x v' H1 e1 i1 k1 => ⟨x, e1, i1, k1⟩⟩) ?_) hm
  rintro u1 s1 ⟨v1, H1, I1, r1, x, e1, i1, k1⟩
  exact ht.run pos pins s1 g0 F σ H1 τ v1 u1 x Q R I1 (rel.st e1) r1 i1 k1 fun z v' H' e i rr => q z v' H' (e1.trans e) i rr
theorem pdt_chainN {d : D → DT} (ha : PD X p a da) (ht : PCt X p (op :: op' :: ops) (b :: e' :: es) d) (hm : lastMarks (op :: op' :: ops) (b :: e' :: es) = false := by with_unfolding_all rfl) : PDT X p (.Compare a (op :: op' :: ops) (b :: e' :: es) pos) (dCt da d) := by
  refine ⟨liftT X.K p (dCt da d), ⟨fun pins s σ H Q I hq => ?_⟩, fun g0 F σ H τ Q R rel h q => ⟨g0, F, τ, R, rel, h, q⟩⟩
  obtain ⟨g0, F, τ, R, rel, h, q⟩ := hq
  refine isTrue_chain (thn (ha.pe.run pins s σ H (fun v' H' => ∃ x, Ex p H H' ∧ Is X.K p F H' v' x ∧ d x τ R) I ⟨g0, F, τ, _, rel, h, fun x v' H1 e1 i1 k1 => ⟨x, e1, i1, k1⟩⟩) ?_) hm
  rintro u1 s1 ⟨v1, H1, I1, r1, x, e1, i1, k1⟩
  exact ht.run pos pins s1 g0 F σ H1 τ v1 u1 x Q R I1 (rel.st e1) r1 i1 k1 fun z H' e rr => q z H' (e1.trans e) rr
end
end DL
/-! is, in, tuple(..), list(..), slices, list.index on data. -/
namespace DL
open PySem PySem.Spec L2
open PyProof.Rows hiding St

section
variable {X : Cx} {p : Qt}
/-! ### is, is not -/
def gIs : D → D → (D → Prop) → Prop := fun x y R => match y with
  | .non => R (.bl (isNon x))
  | .bl b => match x with
    | .bl a => R (.bl (decide (a = b)))
    | _ => False
  | _ => False
def gIsNot : D → D → (D → Prop) → Prop := fun x y R => match y with
  | .non => R (.bl (!isNon x))
  | .bl b => match x with
    | .bl a => R (.bl (!decide (a = b)))
    | _ => False
  | _ => False
theorem opd_is : OpD X p (compareOp .Is) gIs := by
  refine ⟨_, op_isN.or op_isBl, fun F H x y v u Q R pk ix iy hh q => ?_⟩
  cases iy with
  | non =>
    refine .inl ⟨rfl, ?_⟩
    have e : decide (v = V.non) = isNon x := by cases ix <;> rfl
    rw [e]
    exact q _ _ H (.refl pk.pk) (.bl _) hh
  | bl b =>
    cases ix with
    | bl a => exact .inr ⟨a, b, rfl, rfl, q _ _ H (.refl pk.pk) (.bl _) hh⟩
    | _ => exact hh.elim
  | _ => exact hh.elim
theorem opd_isnot : OpD X p (compareOp .IsNot) gIsNot := by
  refine ⟨_, op_notN.or op_notBl, fun F H x y v u Q R pk ix iy hh q => ?_⟩
  cases iy with
  | non =>
    refine .inl ⟨rfl, ?_⟩
    have e : decide (v = V.non) = isNon x := by cases ix <;> rfl
    rw [e]
    exact q _ _ H (.refl pk.pk) (.bl _) hh
  | bl b =>
    cases ix with
    | bl a => exact .inr ⟨a, b, rfl, rfl, q _ _ H (.refl pk.pk) (.bl _) hh⟩
    | _ => exact hh.elim
  | _ => exact hh.elim
/-! ### x in a list -/
def gIn : D → D → (D → Prop) → Prop := fun x y R => match y with
  | .lst l => (shp 60 x = true ∧ shp 60 (.lst l) = true) ∧ R (.bl (l.any fun z => PyData.eqv (toP z) (toP x)))
  | _ => False
def gNotIn : D → D → (D → Prop) → Prop := fun x y R => match y with
  | .lst l => (shp 60 x = true ∧ shp 60 (.lst l) = true) ∧ R (.bl (!l.any fun z => PyData.eqv (toP z) (toP x)))
  | _ => False
theorem toPs_map : ∀ l : List D, toPs l = l.map toP
  | [] => rfl
  | d :: l => by rw [toPs, toPs_map l]; rfl
theorem opd_in (hu : X.A.units + 65 < cLine) : OpD X p (compareOp .In) gIn := by
  refine ⟨_, op_inD hu, fun F H x y v u Q R pk ix iy hh q => ?_⟩
  cases iy with
  | @lst a vs l hs hn hl =>
    obtain ⟨⟨h1, h2⟩, h3⟩ := hh
    refine ⟨_, toPs l, ix.dp (shp_shaped h1).1, Is.dp (.lst hs hn hl) (shp_shaped h2).1, (shp_shaped h1).2, (shp_shaped h2).2, q _ _ H (.refl pk.pk) (.bl _) ?_⟩
    rw [toPs_map, List.any_map]
    exact h3
  | _ => exact hh.elim
theorem opd_notin (hu : X.A.units + 65 < cLine) : OpD X p (compareOp .NotIn) gNotIn := by
  refine ⟨_, op_notInD hu, fun F H x y v u Q R pk ix iy hh q => ?_⟩
  cases iy with
  | @lst a vs l hs hn hl =>
    obtain ⟨⟨h1, h2⟩, h3⟩ := hh
    refine ⟨_, toPs l, ix.dp (shp_shaped h1).1, Is.dp (.lst hs hn hl) (shp_shaped h2).1, (shp_shaped h1).2, (shp_shaped h2).2, q _ _ H (.refl pk.pk) (.bl _) ?_⟩
    rw [toPs_map, List.any_map]
    exact h3
  | _ => exact hh.elim
/-! ### tuple(x), list(x) -/
def cTuple : List D → (D → Prop) → Prop := fun xs R => match xs with
  | [.lst l] => R (.tup l)
  | [.tup l] => R (.tup l)
  | _ => False
theorem cd_tuple : CallD X p (.type "tuple") cTuple := by
  refine ⟨_, call_tuple_of, fun F H xs vs Q R pk ix hh q => ?_⟩
  unfold cTuple at hh
  split at hh
  · cases ix with
    | cons i1 i2 =>
      cases i2
      cases i1 with
      | @lst a ws _ hs hn hl =>
        refine ⟨_, _, rfl, .inl ⟨Rdl.sq hs, fun t ht => ?_⟩⟩
        have e := Ex.new (o := .tup ws) pk.pk ht
        exact q _ _ _ e (.tup (SqT.of upd_same) (pk.ne ht) (hl.mono e.kp)) hh
  · cases ix with
    | cons i1 i2 =>
      cases i2
      cases i1 with
      | tup hs hn hl => exact ⟨_, _, rfl, .inr ⟨hs, q _ _ H (.refl pk.pk) (.tup hs hn hl) hh⟩⟩
  · exact hh.elim
def cList : List D → (D → Prop) → Prop := fun xs R => match xs with
  | [.lst l] => R (.lst l)
  | [.tup l] => R (.lst l)
  | _ => False
theorem cd_list : CallD X p (.type "list") cList := by
  refine ⟨_, call_list_of, fun F H xs vs Q R pk ix hh q => ?_⟩
  unfold cList at hh
  split at hh
  · cases ix with
    | cons i1 i2 =>
      cases i2
      cases i1 with
      | @lst a ws _ hs hn hl =>
        refine ⟨_, _, rfl, .inl (Rdl.sq hs), fun t ht => ?_⟩
        have e := Ex.new (o := .lst ws) pk.pk ht
        exact q _ _ _ e (.lst (Rd.of upd_same) (pk.nF ht) (hl.mono e.kp)) hh
  · cases ix with
    | cons i1 i2 =>
      cases i2
      cases i1 with
      | @tup a ws _ hs hn hl =>
        refine ⟨_, _, rfl, .inr hs, fun t ht => ?_⟩
        have e := Ex.new (o := .lst ws) pk.pk ht
        exact q _ _ _ e (.lst (Rd.of upd_same) (pk.nF ht) (hl.mono e.kp)) hh
  · exact hh.elim
/-! ### slices -/
/-- the items of x[lo:hi] -/
def cutD (l : List D) (lo hi : Option Int) : List D := (l.drop (HT.sIx l.length 0 lo)).take (HT.sIx l.length l.length hi - HT.sIx l.length 0 lo)
abbrev DO := Sl → (Option Int → Prop) → Prop
structure PDO (X : Cx) (p : Qt) (e : Option Expr) (d : DO) : Prop where
  run : ∃ t, PO X e t ∧ ∀ (g0 : Gd) (F : List Addr) (σ : L2.St) (H : Hp) (τ : Sl) (Q : Option Int → Hp → Prop) (R : Option Int → Prop), Rel X.K p g0 F σ H τ → d τ R → (∀ x H', Ex p H H' → R x → Q x H') → t σ H Q
def oNone : DO := fun _ R => R none
def oSome (d : DE) : DO := fun τ R => d τ fun x => match x with
  | .int i => R (some i)
  | _ => False
theorem pdo_none : PDO X p none oNone := ⟨_, po_none, fun g0 F σ H τ Q R rel h q => q _ H (.refl rel.pk) h⟩
theorem pdo_some {e : Expr} {d : DE} (he : PD X p e d) : PDO X p (some e) (oSome d) := by
  obtain ⟨t, h1, h2⟩ := he.run
  refine ⟨_, po_some h1, fun g0 F σ H τ Q R rel h q => ?_⟩
  refine h2 g0 F σ H τ _ _ rel h fun x v H' e i r => ?_
  cases i with
  | int i => exact ⟨i, rfl, q _ H' e r⟩
  | _ => exact r.elim
theorem IsL.cut {K : PySem.W.Frag} {F : List Addr} {H : Hp} {vs : List V} {l : List D} (h : IsL K p F H vs l) (lo hi : Option Int) : IsL K p F H (cutV vs lo hi) (cutD l lo hi) := by
  unfold cutV cutD
  rw [h.len]
  exact (h.drop _).take _
def gSl (d : DE) (lo hi : DO) : DE := fun τ R => d τ fun x => lo τ fun a => hi τ fun b => match x with
  | .tup l => R (.tup (cutD l a b))
  | .lst l => R (.lst (cutD l a b))
  | _ => False
theorem pd_sl {e : Expr} {lo hi : Option Expr} {pos p2 : Pos} {d : DE} {dl dh : DO} (he : PD X p e d) (hl : PDO X p lo dl) (hh : PDO X p hi dh) : PD X p (.Subscript e (.Slice lo hi none p2) pos) (gSl d dl dh) := by
  obtain ⟨t, h1, h2⟩ := he.run
  obtain ⟨tl, l1, l2⟩ := hl.run
  obtain ⟨th, k1, k2⟩ := hh.run
  refine ⟨_, pe_slice (sl_tupA.or sl_list) h1 l1 k1, fun g0 F σ H τ Q R rel h q => ?_⟩
  refine h2 g0 F σ H τ _ _ rel h fun x v H1 e1 i1 h1 => ?_
  refine l2 g0 F σ H1 τ _ _ (rel.st e1) h1 fun a H2 e2 h2 => ?_
  refine k2 g0 F σ H2 τ _ _ ((rel.st e1).st e2) h2 fun b H3 e3 h3 => ?_
  have e := (e1.trans e2).trans e3
  have pk := (rel.st e).pkf
  have i3 := i1.mono (e2.trans e3).kp
  cases i3 with
  | @tup ax vs l hs hn hl =>
    refine .inl ⟨ax, vs, rfl, hs, fun hw => ?_, fun hw t ht => ?_⟩
    · have el : cutD l a b = l := by
        unfold cutD
        rw [← hl.len, hw.1, hw.2, Nat.sub_zero, hl.len, List.drop_zero, List.take_length]
      have h3' : R (.tup (cutD l a b)) := h3
      rw [el] at h3'
      exact q _ _ H3 e (.tup hs hn hl) h3'
    · have e4 : Ex p H3 (upd H3 t (.tup (cutV vs a b))) := .new pk.pk ht
      exact q _ _ _ (e.trans e4) (.tup (SqT.of upd_same) (pk.ne ht) ((hl.cut a b).mono e4.kp)) h3
  | @lst ax vs l hs hn hl =>
    refine .inr ⟨ax, vs, rfl, Rdl.sq hs, fun t ht => ?_⟩
    have e4 : Ex p H3 (upd H3 t (.lst (cutV vs a b))) := .new pk.pk ht
    exact q _ _ _ (e.trans e4) (.lst (Rd.of upd_same) (pk.nF ht) ((hl.cut a b).mono e4.kp)) h3
  | _ => exact (show False from h3).elim
/-! ### methods of lists -/
def gMt (g : List D → List D → (D → Prop) → Prop) (d : DE) (ds : DA) : DE := fun τ R => d τ fun x => match x with
  | .lst l => ds τ fun xs => g l xs R
  | _ => False
/-- the first place of an int -/
def firstI (n : Int) : List Int → Nat
  | [] => 0
  | m :: l => if m = n then 0 else firstI n l + 1
theorem firstI_spec (n : Int) : ∀ l : List Int, n ∈ l → l[firstI n l]? = some n ∧ ∀ (m : Nat) (z : Int), m < firstI n l → l[m]? = some z → z ≠ n
  | [], h => by cases h
  | a :: l, h => by
    unfold firstI
    by_cases e : a = n
    · rw [if_pos e]
      exact ⟨by simp [e], fun m z hm => absurd hm (Nat.not_lt_zero _)⟩
    · rw [if_neg e]
      obtain ⟨h1, h2⟩ := firstI_spec n l ((List.mem_cons.mp h).resolve_left fun z => e z.symm)
      refine ⟨by simpa using h1, fun m z hm hz => ?_⟩
      cases m with
      | zero =>
        have : a = z := by simpa using hz
        subst this
        exact e
      | succ m => exact h2 m z (by omega) (by simpa using hz)
/-- l.index(n) of a list of ints -/
def gIndex : List D → List D → (D → Prop) → Prop := fun l xs R => match xs with
  | [.int n] => match intsOf l with
    | some ns => n ∈ ns ∧ R (.int (firstI n ns))
    | none => False
  | _ => False
theorem pd_index {o e : Expr} {apos cpos : Pos} {d : DE} {ds : DA} (ho : PD X p o d) (ha : PDA X p [e] ds)
    (hbase : attributeBase o "index" X.env (eval o X.env) = eval o X.env := by rfl)
    (hfew : ((backTo cpos (starEach [e] X.env)).all (fun x => !x.1) && (backToKw cpos (keywordEach [] X.env)).all (fun x => x.1.isSome)
      && decide (([e] : List Expr).length + ([] : List Keyword).length + (if ([] : List Keyword).isEmpty then 0 else 1) < 30)) = true := by rfl)
    (hline : (apos.endLine == cpos.line) = true := by rfl) (hs : starEach [e] X.env = (false, eval e X.env) :: starEach [] X.env := by rfl) (hplain : (backTo cpos (starEach [] X.env)).any (·.1) = false := by rfl) :
    PD X p (.Call (.Attribute o "index" apos) [e] [] cpos) (gMt gIndex d ds) := by
  obtain ⟨t, h1, h2⟩ := ho.run
  obtain ⟨u, k1, k2⟩ := ha.run
  refine ⟨_, pe_bm PySem.F.plainAttrs_list PySem.F.slot_list_index PySem.F.type_list_index mt_index h1 k1 hbase hfew hline hs hplain, fun g0 F σ H τ Q R rel h q => ?_⟩
  refine h2 g0 F σ H τ _ _ rel h fun x v H1 e1 i1 h1 => ?_
  have h1' := h1
  cases i1 with
  | @lst a vs l ls hn hl =>
    refine ⟨.inl ⟨rfl, _, Rdl.sq ls⟩, ?_⟩
    refine k2 g0 F σ H1 τ _ _ (rel.st e1) h1 fun xs ws H2 e2 i2 _ h2 => ?_
    unfold gIndex at h2
    split at h2
    · rename_i n
      split at h2
      · rename_i ns en
        cases i2 with
        | cons i2 i3 =>
          cases i3
          cases i2
          have hl2 := hl.mono e2.kp
          rw [intsOf_eq en] at hl2
          have ev := hl2.ints
          have sq : SqL X.K H2 a (ns.map V.int) := by
            have := Rdl.sq (K := X.K) (Rdl.keep ls hn.1 e2.kp)
            rw [ev] at this
            exact this
          obtain ⟨f1, f2⟩ := firstI_spec n ns h2.1
          refine ⟨a, ns.map V.int, .int n, firstI n ns, .int n, rfl, rfl, sq, rfl, ?_, ?_, ?_, fun m z hm hz => ?_, q _ _ H2 (e1.trans e2) (.int _) h2.2⟩
          · rw [List.all_map]
            exact List.all_eq_true.mpr fun _ _ => rfl
          · rw [List.getElem?_map, f1]
            rfl
          · simp [eqV]
          · rw [List.getElem?_map] at hz
            cases hq : ns[m]? with
            | none => rw [hq] at hz; cases hz
            | some y =>
              rw [hq] at hz
              cases hz
              have := f2 m y hm hq
              simpa [eqV] using this
      · exact h2.elim
    · exact h2.elim
  | _ => exact (show False from h1).elim
end
end DL
/-! The end of a law whose defs show containers and make code objects. -/
namespace DL
open PySem PySem.Spec L2
open PyProof.Rows hiding St

/-- the script, as it stands, and the tables are tracked -/
def onlyAt (a : Addr) (vs : List Value) (ns : List Int) (ts : List Addr) (sc : Bool) : Hp := fun b => if b ∈ ts then some (.tbl #[]) else if sc = true ∧ b = a then some (.frz { cls := .type "list", data := .seq vs.toArray } (.lst (ns.map V.int))) else none
theorem callTop {P : Program} {w : World} {K : PySem.W.Frag} {mg mb : Str → Option Value} {k : Nat} {fa a : Addr} {fd : FuncData} {x : Str} {sp : Sp} {s : Shared} {vs : List Value} {ns : List Int} {cs : List (Addr × Addr)}
    (inK : K.In s.heap) (gl : s.heap.Ns mainGlobals mg) (bl : s.heap.Ns builtinsNs mb) (ble : ∀ x : Str, x ≠ "__name__" → mb x = bootBuiltins x) (lim : s.heap.NoLimit) (gens : s.gens = #[])
    (tabs : ∀ q ∈ cs, s.heap.get? q.2 = some { cls := .none, data := .fields #[] } ∧ K.lookup q.2 = none ∧ PySem.W.CodeHd s.heap q.1 q.2)
    (bmain : ∃ (bm : Addr) (ob : Obj), mg "__builtins__" = some (.ref bm) ∧ bm ≠ builtinsNs ∧ s.heap.get? bm = some ob ∧ ob.cls = .type "module" ∧ ob.dict = some builtinsNs ∧ ob.data = .plain)
    (obj : s.heap.get? a = some { cls := .type "list", data := .seq vs.toArray }) (isI : IntsAre vs ns) (len : ns.length ≤ sizeLine) (room : Room k callerA)
    (F : ∀ base : Heap, K.In base → base.Ns mainGlobals mg → (∀ q ∈ cs, GxR.TabB base mg q.1 q.2) → FnG P w K mg base CX0 k fa fd [x] sp) (bind : ∀ (s : Shared) (u : Value), BindsTo s fd ⟨[u], []⟩ [(x, u)])
    (prom : ∀ H : Hp, (∀ q ∈ cs, GxR.TabG H q.2) → SqL K H a (ns.map V.int) → sp [.ref a] H (fun v _ => v = .bl true) fun _ _ _ => False) :
    codeAny (model P w) callerA (.call (.ref fa) ⟨[.ref a], []⟩) (fun r s' => r = .ok (.ret (.bool true)) ∧ OldK s.heap s'.heap ∧ s'.os = s.os ∧ AllBare s'.gens) s := by
  have vals := vals_ints isI
  -- where the tables stand
  generalize hts : cs.map (·.2) = ts
  have inT : ∀ q ∈ cs, q.2 ∈ ts := fun q hq => by rw [← hts]; exact List.mem_map.mpr ⟨q, hq, rfl⟩
  have ofT : ∀ b ∈ ts, s.heap.get? b = some { cls := .none, data := .fields #[] } ∧ K.lookup b = none := fun b hb => by
    rw [← hts] at hb
    obtain ⟨q, hq, e⟩ := List.mem_map.mp hb
    rw [← e]
    exact ⟨(tabs q hq).1, (tabs q hq).2.1⟩
  have nT : a ∉ ts := fun z => by
    have := (ofT a z).1
    rw [obj] at this
    have z' := congrArg Obj.data (Option.some.inj this)
    exact nomatch (show Data.seq vs.toArray _ = Data.fields #[] from z')
  suffices main : ∀ sc : Bool, SqL K (onlyAt a vs ns ts sc) a (ns.map V.int) → (sc = true → K.lookup a = none) →
      codeAny (model P w) callerA (.call (.ref fa) ⟨[.ref a], []⟩) (fun r s' => r = .ok (.ret (.bool true)) ∧ OldK s.heap s'.heap ∧ s'.os = s.os ∧ AllBare s'.gens) s by
    by_cases hk : K.lookup a = none
    · refine main true (.inl (.inr ⟨{ cls := .type "list", data := .seq vs.toArray }, ?_⟩)) fun _ => hk
      unfold onlyAt
      rw [if_neg nT, if_pos ⟨rfl, rfl⟩]
    · obtain ⟨o, ho⟩ := Option.ne_none_iff_exists'.mp hk
      have same := inK a o ho
      rw [obj] at same
      cases same
      have lv := isI.length
      refine main false (.inr ⟨_, vs.toArray, _, ho, rfl, rfl, rfl, ?_, ?_⟩) fun z => nomatch z
      · rw [List.size_toArray, lv]
        exact len
      · simpa using vals
  intro sc hS hsc
  generalize hH : onlyAt a vs ns ts sc = H at hS
  have look : ∀ b u, H b = some u → (b ∈ ts ∧ u = .tbl #[]) ∨ (b = a ∧ sc = true ∧ u = .frz { cls := .type "list", data := .seq vs.toArray } (.lst (ns.map V.int))) := fun b u e => by
    rw [← hH] at e
    unfold onlyAt at e
    split at e
    · cases e
      exact .inl ⟨by assumption, rfl⟩
    · split at e
      · rename_i q
        cases e
        exact .inr ⟨q.2, q.1, rfl⟩
      · cases e
  have tabH : ∀ b ∈ ts, H b = some (.tbl #[]) := fun b hb => by
    rw [← hH]
    unfold onlyAt
    rw [if_pos hb]
  have ok : HOk P w H s.heap := fun b u e => by
    rcases look b u e with ⟨h1, rfl⟩ | ⟨rfl, _, rfl⟩
    · exact (ofT b h1).1
    · exact ⟨obj, by rw [List.length_map]; exact len, vs, _, vals, obj⟩
  -- an object of another form is not tracked
  have free : ∀ {b : Addr} {o : Obj}, s.heap.get? b = some o → o.data ≠ .fields #[] → (∀ n, o.data ≠ .seq vs.toArray n) → H b = none := fun {b o} e h1 h2 => by
    cases z : H b with
    | none => rfl
    | some u =>
      rcases look b u z with ⟨h, _⟩ | ⟨rfl, _⟩
      · rw [(ofT b h).1] at e
        cases e
        exact absurd rfl h1
      · rw [obj] at e
        cases e
        exact absurd rfl (h2 _)
  have dict : ∀ {b : Addr} {m : Str → Option Value}, s.heap.Ns b m → (hidT s.heap H).Ns b m := by
    rintro b m ⟨o, es, ep, e, d, r⟩
    exact ⟨o, es, ep, hidT_get e (free e (by rw [d]; exact fun z => nomatch z) (by intro n; rw [d]; exact fun z => nomatch z)), d, r⟩
  have kin : K.In (hidT s.heap H) := fun b o e => hidT_get (inK b o e) (by
    cases z : H b with
    | none => rfl
    | some u =>
      rcases look b u z with ⟨h, _⟩ | ⟨rfl, h, _⟩
      · rw [(ofT b h).2] at e
        cases e
      · rw [hsc h] at e
        cases e)
  have mod : Mod K mg (hidT s.heap H) := ⟨kin, dict gl, ⟨mb, dict bl, ble⟩, by
    obtain ⟨mc, h1, h2⟩ := lim
    exact ⟨mc, dict h1, h2⟩⟩
  have e0 : Env0 P w K mg (hidT s.heap H) callerA [] s H := ⟨rfl, mod, fun b o e => of_hidT e, Nat.le_of_eq (hidT_size _ _), trivial, fun b z => absurd (show b ∈ ([] : List Addr) from z) List.not_mem_nil, ok, .of_eq gens⟩
  have TB : ∀ q ∈ cs, GxR.TabB (hidT s.heap H) mg q.1 q.2 := fun q hq => by
    obtain ⟨hP, _, C⟩ := tabs q hq
    obtain ⟨og, es, ep, eg, dg, _⟩ := id gl
    refine ⟨?_, ?_, fun z => ?_⟩
    · obtain ⟨o, us, file, tf, flags, tg, inF, text, tt, e1, r1, r2, r3, rest⟩ := C
      refine ⟨o, us, file, tf, flags, tg, inF, text, tt, hidT_get e1 (free e1 (fun z => ?_) fun n z => ?_), r1, r2, r3, rest⟩
      · rw [r2] at z
        cases z
        simp at r3
      · rw [r2] at z
        cases z
    · obtain ⟨bm, ob, b1, b2, b3, b4, b5, b6⟩ := bmain
      refine ⟨bm, ob, b1, b2, fun z => ?_, fun z => ?_, hidT_get b3 (free b3 (fun z => ?_) fun n z => ?_), b4, b5, b6⟩
      · rw [z, eg] at b3
        cases b3
        rw [dg] at b6
        cases b6
      · rw [z, hP] at b3
        cases b3
        cases b6
      · rw [b6] at z
        cases z
      · rw [b6] at z
        cases z
    · rw [z, hP] at eg
      cases eg
      cases dg
  refine codeAny_mono ((F _ kin (dict gl) TB).go callerA [] s H ⟨[.ref a], []⟩ [.ref a] [.ref a] _ _ rfl room e0 (bind s (.ref a)) (.cons rfl .nil) (prom H (fun q hq => ⟨#[], tabH _ (inT q hq), by simp [TriplesOk]⟩) hS)) ?_
  rintro r s' out
  match r, out with
  | .error _, o => exact False.elim o
  | .ok .next, o => exact False.elim o
  | .ok .brk, o => exact False.elim o
  | .ok .cont, o => exact False.elim o
  | .ok (.ret u), o =>
    obtain ⟨v, H', os, bare, un, ok', rv, ev⟩ := o
    have ev : v = .bl true := ev
    subst ev
    cases rv
    have key : ∀ b o, b ∉ ts → s.heap.get? b = some o → s'.heap.get? b = some o := fun b o nb e => by
      cases z : H b with
      | none => exact un.keep b o e z (fun m => absurd (show b ∈ ([] : List Addr) from m) List.not_mem_nil) (fun m => absurd (show b ∈ ([] : List Addr) from m) List.not_mem_nil)
      | some u =>
        rcases look b u z with ⟨h, _⟩ | ⟨rfl, _, rfl⟩
        · exact absurd h nb
        · obtain ⟨e2, _⟩ := ok' b _ (un.frzs b _ _ z)
          rw [obj] at e
          cases e
          exact e2
    have grown : ∀ b ∈ ts, ∃ more : Array Value, s'.heap.get? b = some { cls := .none, data := .fields more } := fun b hb => by
      obtain ⟨more, z⟩ := un.tbls b #[] (tabH b hb)
      exact ⟨_, ok' b _ z⟩
    refine ⟨rfl, ⟨fun b o e => ?_, fun b o e => ?_⟩, os, bare⟩
    · by_cases hb : b ∈ ts
      · obtain ⟨more, hm⟩ := grown b hb
        have h1 := (ofT b hb).1
        rw [h1] at e
        cases e
        rw [← hts] at hb
        obtain ⟨q, hq, eq⟩ := List.mem_map.mp hb
        obtain ⟨hP, _, C⟩ := tabs q hq
        rw [← eq] at hm ⊢
        exact .inr (.inl ⟨(C.tab hP).isCodeTable, rfl, #[], more, rfl, by rw [Array.empty_append]; exact hm⟩)
      · exact .inl (key b o hb e)
    · by_cases hb : b ∈ ts
      · obtain ⟨more, hm⟩ := grown b hb
        exact ⟨_, hm⟩
      · exact ⟨o, key b o hb e⟩
/-- where the table of the def nm stands, it is empty -/
def OwnTab (K : PySem.W.Frag) (mg : Str → Option Value) (h : Heap) (nm : Str) : Prop := ∀ (f c P : Addr) (o : Obj) (fd : FuncData) (e : Value) (dd : Option Addr) (vs : Array Value) (sl : Array (Option Value)), mg nm = some (.ref f) → K.lookup f = some o → o.data = .func fd → fd.code = .ref c →
  K.lookup c = some ⟨e, dd, .fields vs, sl⟩ → vs[11]? = some (.ref P) → h.get? P = some { cls := .none, data := .fields #[] } ∧ PySem.W.CodeHd h c P
theorem walkG {l : PySem.W.OpenLaw} {n k : Nat} {q : Program} {loose : List Str} {XP : (Str → Option Value) → Heap → Prop} {YP : World → Heap → Prop} {d : DefRec} {K : Params → PySem.W.Frag} {x : Str}
    (hn : l.most = some n) (hn2 : n ≤ sizeLine) (hdf : d.params.defaults = []) (hr : Room k callerA) (hY : ∀ (w : World) (h : Heap), YP w h → (K w.params).In h)
    (F : ∀ (w : World) (mg : Str → Option Value) (fa : Addr) (h : Heap), (K w.params).In h → h.Ns mainGlobals mg → mg d.name = some (.ref fa) → (∀ nm : Str, ((recsOf q).any fun e => e.name == nm) = true → OwnTab (K w.params) mg h nm) →
      ∃ (fd : FuncData) (cs : List (Addr × Addr)) (sp : Sp), (∀ c ∈ cs, h.get? c.2 = some { cls := .none, data := .fields #[] } ∧ (K w.params).lookup c.2 = none ∧ PySem.W.CodeHd h c.1 c.2) ∧ (∀ (s : Shared) (u : Value), BindsTo s fd ⟨[u], []⟩ [(x, u)]) ∧
        (∀ base : Heap, (K w.params).In base → base.Ns mainGlobals mg → (∀ c ∈ cs, GxR.TabB base mg c.1 c.2) → FnG l.prog w (K w.params) mg base CX0 k fa fd [x] sp) ∧
        ∀ (H : Hp) (a : Addr) (ns : List Int), ns.length ≤ n → (∀ c ∈ cs, GxR.TabG H c.2) → SqL (K w.params) H a (ns.map V.int) → sp [.ref a] H (fun v _ => v = .bl true) fun _ _ _ => False) :
    PySem.W.WalkO q loose XP YP l.row.toRowW d [] (fun f vs => PySem.call f vs) := by
  refine Att.attach_callB hn hdf fun w s₀ s₁ mg mb fa o pm cd doc a vs ns G Y ho hd hcd hmg obj isI hlen _ gens => ?_
  have inK := hY w _ Y
  have own : ∀ nm : Str, ((recsOf q).any fun e => e.name == nm) = true → OwnTab (K w.params) mg s₁.heap nm := fun nm hrec f c P o1 fd1 e dd vs1 sl k0 k1 k2 k3 k4 k5 => by
    obtain ⟨dL, hm, hn1⟩ := List.any_eq_true.mp hrec
    have hn2 : dL.name = nm := beq_iff_eq.mp hn1
    obtain ⟨a', o', fd', c', P', h1, h2, h3, h4, h5, h6⟩ := G.T.tab dL hm
    have C := PySem.W.CodeHd.of h5 h6
    obtain ⟨⟨oc, vc, e1, _, e3, e4⟩, hP⟩ := h6
    rw [hn2, k0] at h1
    cases h1
    have g1 := inK _ _ k1
    rw [g1] at h2
    cases h2
    rw [k2] at h3
    cases h3
    rw [k3] at h4
    cases h4
    have g2 := inK _ _ k4
    rw [g2] at e1
    cases e1
    cases e3
    rw [k5] at e4
    cases e4
    exact ⟨hP, C⟩
  obtain ⟨fd, cs, sp, hT, hb, hF, hsp⟩ := F w mg fa _ inK G.T.g hmg own
  exact callTop inK G.T.g G.T.b G.T.builtins G.T.nolimit gens hT G.T.bmain obj isI (Nat.le_trans hlen hn2) hr hF hb fun H hH hS => hsp H a ns hlen hH hS
/-- a def whose code object stands at c -/
theorem tabAt_of {K : PySem.W.Frag} {mg : Str → Option Value} {base : Heap} {tabs : Tf} {x : Str} {f c P : Addr} {oc : Value} {od : Option Addr} {fd : FuncData} {sl : Array (Option Value)} (a : mg x = some (.ref f)) (l : K.lookup f = some ⟨oc, od, .func fd, sl⟩) (hc : fd.code = .ref c) (hP : P ∈ tabs.tabs) (TB : GxR.TabB base mg c P) : TabAt K mg base tabs x := by
  refine ⟨c, P, hP, TB, fun f' fd' qual st e F => ?_⟩
  rw [a] at e
  cases e
  obtain ⟨oc', od', kV, doc, pm, an, cdv, ct, osl, rfl, lk, _⟩ := F.ex
  rw [l] at lk
  cases lk
  exact hc
end DL
/-! What the laws' proofs use. -/
namespace DL
open PySem PySem.Spec L2
open PyProof.Rows hiding St

theorem _root_.L2.Room.u65 {k : Nat} {A : Around} (r : Room k A) : A.units + 65 < cLine := by have := r.un; omega
theorem Cal.cal {P : Program} {w : World} {K : PySem.W.Frag} {mg : Str → Option Value} {base : Heap} {tabs : Tf} {x : Str} {k n : Nat} {ps : List Str} {kb : List (List Str × Nat × List Nat)} {sp : SpD} {p : Qt} (C : Cal P w K mg base tabs x k n ps kb sp) (h : p.tf = tabs) : Cal P w K mg base p.tf x k n ps kb sp := by
  rw [h]
  exact C
/-! ### name = [..] on one line -/
section
variable {X : Cx} {p : Qt} {pos : Pos}
theorem pds_setLc {i : Nat} {y : Str} {py spos : Pos} {elt tg iter : Expr} {scope : Scope} {own : List (Str × Nat)} {it : DI} {g : DG} {te : DE} {t : TG} (hc : X.calm = true) (hN : X.N.Nodup) (hy : X.N[i]? = some y) (hyl : X.env.scope.names.lookup y = some .local)
    (hi : PDI X p tg iter it) (ok : blkC X.N X.env.scope scope own = true)
    (hg : ∀ (s : Shared) (H : Hp) (C : Addr) (cl : List (Str × Addr)) (fp : List Addr), PDGw (X.blk s H scope (compEnvC scope cl C X.env) fp) p (own.map (·.2)) tg g t)
    (he : ∀ (s : Shared) (H : Hp) (C : Addr) (cl : List (Str × Addr)) (fp : List Addr), PD (X.blk s H scope (compEnvC scope cl C X.env) fp) p elt te) (sh : Shared)
    (hsw : swapsWith (.ListComp elt [⟨tg, iter, [], 0⟩] scope pos) (some (.Name y py)) spos.line X.env = pure true := by rfl) (hs : ∀ x, foldedSetIterable iter X.env x = pure x := by intro _; rfl) :
    PDS X p (.Assign [.Name y py] (.ListComp elt [⟨tg, iter, [], 0⟩] scope pos) spos) (dAsg (dLc it g dYes te (own.map (·.2))) (gN i)) := by
  obtain ⟨wi, i1, i2⟩ := hi.run
  refine ⟨_, ps_setLc (te := liftE X.K p te) hc hN hy hyl hsw i1 (blkOk_by ok) (fun s H C cl fp => (hg s H C cl fp).pg) (fun _ _ _ _ _ => pts_nil) (fun s H C cl fp => (he s H C cl fp).pe) hs, fun g0 F σ H τ E E' rel h ag => ?_⟩
  refine i2 g0 F σ H τ _ _ rel h fun J H1 l e1 wd h1 => ?_
  intro D0 hD
  exact lc_run (K := X.K) (tt := dYes) hD wd h1.1.few (rel.st e1) (hg sh H 0 [] []).go (fun g0 F σ H τ Q R rel h q => q true H (.refl rel.pk) h) h1.2 fun x v H' e i r => ag.nx F _ H' _ ((rel.st (e1.trans e)).set i) r
theorem pds_setLcI {i : Nat} {y : Str} {py spos : Pos} {elt tg iter c : Expr} {scope : Scope} {own : List (Str × Nat)} {it : DI} {g : DG} {te : DE} {tt : DT} {t : TG} (hc : X.calm = true) (hN : X.N.Nodup) (hy : X.N[i]? = some y) (hyl : X.env.scope.names.lookup y = some .local)
    (hi : PDI X p tg iter it) (ok : blkC X.N X.env.scope scope own = true)
    (hg : ∀ (s : Shared) (H : Hp) (C : Addr) (cl : List (Str × Addr)) (fp : List Addr), PDGw (X.blk s H scope (compEnvC scope cl C X.env) fp) p (own.map (·.2)) tg g t)
    (ht : ∀ (s : Shared) (H : Hp) (C : Addr) (cl : List (Str × Addr)) (fp : List Addr), PDT (X.blk s H scope (compEnvC scope cl C X.env) fp) p c tt)
    (he : ∀ (s : Shared) (H : Hp) (C : Addr) (cl : List (Str × Addr)) (fp : List Addr), PD (X.blk s H scope (compEnvC scope cl C X.env) fp) p elt te) (sh : Shared)
    (hsw : swapsWith (.ListComp elt [⟨tg, iter, [c], 0⟩] scope pos) (some (.Name y py)) spos.line X.env = pure true := by rfl) (hs : ∀ x, foldedSetIterable iter X.env x = pure x := by intro _; rfl) :
    PDS X p (.Assign [.Name y py] (.ListComp elt [⟨tg, iter, [c], 0⟩] scope pos) spos) (dAsg (dLc it g tt te (own.map (·.2))) (gN i)) := by
  obtain ⟨wi, i1, i2⟩ := hi.run
  refine ⟨_, ps_setLc (te := liftE X.K p te) (tt := liftT X.K p tt) hc hN hy hyl hsw i1 (blkOk_by ok) (fun s H C cl fp => (hg s H C cl fp).pg) (fun s H C cl fp => pts_one (ht s H C cl fp).pt) (fun s H C cl fp => (he s H C cl fp).pe) hs, fun g0 F σ H τ E E' rel h ag => ?_⟩
  refine i2 g0 F σ H τ _ _ rel h fun J H1 l e1 wd h1 => ?_
  intro D0 hD
  exact lc_run (K := X.K) (tt := tt) hD wd h1.1.few (rel.st e1) (hg sh H 0 [] []).go (fun g0 F σ H τ Q R rel h q => ⟨g0, F, τ, R, rel, h, q⟩) h1.2 fun x v H' e i r => ag.nx F _ H' _ ((rel.st (e1.trans e)).set i) r
end
/-- a pair of numbers -/
def ivD (q : Int × Int) : D := .tup [.int q.1, .int q.2]
/-! ### statements, loops -/
/-- a block cut at a statement, by what holds behind it -/
theorem seqI {t u : DS} {E : DEn} {τ : Sl} (Good : Sl → Prop) (h1 : ∀ K : Sl → Prop, (∀ τ', Good τ' → K τ') → t { E with nx := K } τ) (h2 : ∀ τ', Good τ' → u E τ') : dSeq t u E τ := h1 (u E) h2
/-- a loop by an invariant over the place -/
theorem forInv {g : DG} {body : DS} {E : DEn} (I : Nat → Sl → Prop) (l : List D) (τ : Sl) (h0 : I 0 τ)
    (step : ∀ (k : Sl → Prop) (i : Nat) (x : D) (τ : Sl), l[i]? = some x → (∀ τ', I (i + 1) τ' → k τ') → I i τ → g x τ fun τ2 => body { nx := k, rt := E.rt, bk := E.nx, ct := k } τ2)
    (fin : ∀ τ, I l.length τ → E.nx τ) : dForGo g body E l τ := by
  have key : ∀ (r : List D) (i : Nat) (τ : Sl), l.drop i = r → i ≤ l.length → I i τ → dForGo g body E r τ := by
    intro r
    induction r with
    | nil =>
      intro i τ e hi h
      have : l.length ≤ i := by
        have := congrArg List.length e
        rw [List.length_drop, List.length_nil] at this
        omega
      have e2 : i = l.length := by omega
      subst e2
      exact fin τ h
    | cons x r ih =>
      intro i τ e hi h
      have hlt : i < l.length := by
        have := congrArg List.length e
        rw [List.length_drop, List.length_cons] at this
        omega
      rw [List.drop_eq_getElem_cons hlt] at e
      injection e with e1 e2
      exact step _ i x τ (by rw [List.getElem?_eq_getElem hlt, e1]) (fun τ' h' => ih (i + 1) τ' e2 hlt h') h
  exact key l 0 τ rfl (Nat.zero_le _) h0
/-- a loop over a list of values, the done part and the next one at hand -/
theorem forList {α : Type} {g : DG} {body : DS} {E : DEn} (c : α → D) (l : List α) (I : List α → Sl → Prop) (τ : Sl) (h0 : I [] τ)
    (step : ∀ (k : Sl → Prop) (done : List α) (x : α) (rest : List α) (τ : Sl), l = done ++ x :: rest → (∀ τ', I (done ++ [x]) τ' → k τ') → I done τ → g (c x) τ fun τ2 => body { nx := k, rt := E.rt, bk := E.nx, ct := k } τ2)
    (fin : ∀ τ, I l τ → E.nx τ) : dForGo g body E (l.map c) τ := by
  have key : ∀ (r done : List α) (τ : Sl), l = done ++ r → I done τ → dForGo g body E (r.map c) τ := by
    intro r
    induction r with
    | nil =>
      intro done τ e h
      rw [List.append_nil] at e
      subst e
      exact fin τ h
    | cons x r ih =>
      intro done τ e h
      exact step _ done x r τ e (fun τ' h' => ih (done ++ [x]) τ' (by rw [e, List.append_assoc]; rfl) h') h
  exact key l [] τ rfl h0
/-- a loop whose body changes nothing that is kept -/
theorem forAll {α : Type} {g : DG} {body : DS} {E : DEn} (c : α → D) (l : List α) (I : Sl → Prop) (τ : Sl) (h0 : I τ)
    (step : ∀ (k : Sl → Prop) (x : α) (τ : Sl), x ∈ l → (∀ τ', I τ' → k τ') → I τ → g (c x) τ fun τ2 => body { nx := k, rt := E.rt, bk := E.nx, ct := k } τ2)
    (fin : ∀ τ, I τ → E.nx τ) : dForGo g body E (l.map c) τ :=
  forList c l (fun _ => I) τ h0 (fun k done x rest τ e => step k x τ (by rw [e]; simp)) fin
/-- while, by an invariant and a measure -/
theorem whileI {c : DT} {body : DS} {E : DEn} (W : Nat → Sl → Prop) (m : Nat) (τ : Sl) (h0 : W m τ)
    (step : ∀ (m : Nat) (τ : Sl) (k : Sl → Prop), (∀ τ' m', m' < m → W m' τ' → k τ') → W m τ → c τ fun b => if b = true then body { nx := k, rt := E.rt, bk := E.nx, ct := k } τ else E.nx τ) : dWhile c body E τ :=
  ⟨W, ⟨m, h0⟩, fun m τ h => step m τ _ (fun τ' m' h1 h2 => ⟨m', h1, h2⟩) h⟩
theorem ifN {c A : Prop} [Decidable c] (h : ¬ c) (k : A) : if c then False else A := by rw [if_neg h]; exact k
theorem ifNr {c A : Prop} [Decidable c] (h : c) (k : A) : if c then A else False := by rw [if_pos h]; exact k
theorem ite2P {c : Prop} [Decidable c] {A B : Prop} (h1 : c → A) (h2 : ¬ c → B) : if c then A else B := by
  by_cases h : c
  · rw [if_pos h]; exact h1 h
  · rw [if_neg h]; exact h2 h
/-! ### comprehensions over lists of values -/
theorem lc_map {α : Type} {g : DG} {te : DE} {τ : Sl} {R : List D → Prop} (c f : α → D) (l : List α) (acc : List D) (h : ∀ x ∈ l, ∀ Q : D → Prop, Q (f x) → g (c x) τ fun τ2 => te τ2 Q) (hR : R (acc ++ l.map f)) : dLcGo g dYes te τ (l.map c) acc R := by
  induction l generalizing acc with
  | nil => simpa [dLcGo] using hR
  | cons x l ih =>
    refine h x List.mem_cons_self _ ?_
    exact ih (acc ++ [f x]) (fun y hy => h y (List.mem_cons_of_mem _ hy)) (by simpa using hR)
theorem lc_if {α : Type} {g : DG} {tt : DT} {te : DE} {τ : Sl} {R : List D → Prop} (c f : α → D) (t : α → Bool) (l : List α) (acc : List D)
    (h : ∀ x ∈ l, ∀ (Q : D → Prop) (Z : Prop), (t x = true → Q (f x)) → (t x = false → Z) → g (c x) τ fun τ2 => tt τ2 fun b => if b = true then te τ2 Q else Z) (hR : R (acc ++ (l.filter t).map f)) : dLcGo g tt te τ (l.map c) acc R := by
  induction l generalizing acc with
  | nil => simpa [dLcGo] using hR
  | cons x l ih =>
    refine h x List.mem_cons_self _ _ (fun e => ih (acc ++ [f x]) (fun y hy => h y (List.mem_cons_of_mem _ hy)) ?_) fun e => ih acc (fun y hy => h y (List.mem_cons_of_mem _ hy)) ?_
    · rw [List.filter_cons_of_pos e] at hR
      simpa using hR
    · rw [List.filter_cons_of_neg (by rw [e]; exact Bool.false_ne_true)] at hR
      exact hR
theorem gen_all {α : Type} {g : DG} {te : DE} {τ : Sl} {R : Bool → Prop} (c : α → D) (f : α → Bool) (l : List α) (h : ∀ x ∈ l, ∀ Q : D → Prop, Q (.bl (f x)) → g (c x) τ fun τ2 => te τ2 Q) (hR : R (l.all f)) : dGenGo true g te τ (l.map c) R := by
  induction l with
  | nil => exact hR
  | cons x l ih =>
    refine h x List.mem_cons_self _ ?_
    show if f x = true then _ else _
    rw [List.all_cons] at hR
    cases e : f x with
    | true =>
      rw [if_pos rfl]
      rw [e, Bool.true_and] at hR
      exact ih (fun y hy => h y (List.mem_cons_of_mem _ hy)) hR
    | false =>
      rw [if_neg Bool.false_ne_true]
      rw [e, Bool.false_and] at hR
      exact hR
theorem gen_any {α : Type} {g : DG} {te : DE} {τ : Sl} {R : Bool → Prop} (c : α → D) (f : α → Bool) (l : List α) (h : ∀ x ∈ l, ∀ Q : D → Prop, Q (.bl (f x)) → g (c x) τ fun τ2 => te τ2 Q) (hR : R (l.any f)) : dGenGo false g te τ (l.map c) R := by
  induction l with
  | nil => exact hR
  | cons x l ih =>
    refine h x List.mem_cons_self _ ?_
    show if f x = false then _ else _
    rw [List.any_cons] at hR
    cases e : f x with
    | false =>
      rw [if_pos rfl]
      rw [e, Bool.false_or] at hR
      exact ih (fun y hy => h y (List.mem_cons_of_mem _ hy)) hR
    | true =>
      rw [if_neg (by decide)]
      rw [e, Bool.true_or] at hR
      exact hR
theorem zipD_map {α β : Type} (c : α → D) (c' : β → D) : ∀ (l : List α) (m : List β), zipD (l.map c) (m.map c') = (l.zip m).map fun q => .tup [c q.1, c' q.2]
  | [], _ => by simp [zipD]
  | _ :: _, [] => by simp [zipD]
  | x :: l, y :: m => by
    simp only [List.map_cons, zipD, List.zip_cons_cons]
    rw [zipD_map c c' l m]
theorem boolsOf_map {α : Type} (f : α → Bool) : ∀ l : List α, boolsOf (l.map fun x => .bl (f x)) = some (l.map f)
  | [] => rfl
  | x :: l => by simp only [List.map_cons, boolsOf, boolsOf_map f l]; rfl
theorem intsOf_map {α : Type} (f : α → Int) : ∀ l : List α, intsOf (l.map fun x => .int (f x)) = some (l.map f)
  | [] => rfl
  | x :: l => by simp only [List.map_cons, intsOf, intsOf_map f l]; rfl
theorem intsOf_int (l : List Int) : intsOf (l.map D.int) = some l := by
  have := intsOf_map (fun x : Int => x) l
  simpa using this
/-! ### shape -/
theorem shps_map {α : Type} {n : Nat} {c : α → D} {l : List α} (h : ∀ x ∈ l, shp n (c x) = true) : shps n (l.map c) = true := by
  induction l with
  | nil => rfl
  | cons x l ih =>
    rw [List.map_cons, shps, h x List.mem_cons_self, ih fun y hy => h y (List.mem_cons_of_mem _ hy)]
    rfl
theorem intsOks_map {α : Type} {c : α → D} {l : List α} (h : ∀ x ∈ l, intsOk (c x)) : intsOks (l.map c) := by
  induction l with
  | nil => exact trivial
  | cons x l ih => exact ⟨h x List.mem_cons_self, ih fun y hy => h y (List.mem_cons_of_mem _ hy)⟩
theorem cnts_map {α : Type} {c : α → D} {l : List α} (k : Nat) (h : ∀ x ∈ l, cnt (c x) ≤ k) : cnts (l.map c) ≤ k * l.length := by
  induction l with
  | nil => exact Nat.le_refl _
  | cons x l ih =>
    have h1 := h x List.mem_cons_self
    have h2 := ih fun y hy => h y (List.mem_cons_of_mem _ hy)
    rw [List.map_cons, cnts, List.length_cons, Nat.mul_succ]
    omega
/-- x == x -/
theorem eqv_self {d : D} (h : shp 60 d = true) : PyData.eqv (toP d) (toP d) = true := PySem.SeqAt.eqv_refl _ ((shp_all 60).1 d h).2.1
theorem gEq_self {d : D} {R : D → Prop} (h : shp 60 d = true) (k : R (.bl true)) : gEq d d R := by
  unfold gEq
  split
  · simpa using k
  · simpa using k
  · simpa using k
  · exact ⟨⟨h, h⟩, by rw [eqv_self h]; exact k⟩
theorem gNe_self {d : D} {R : D → Prop} (h : shp 60 d = true) (k : R (.bl false)) : gNe d d R := by
  unfold gNe
  split
  · simpa using k
  · simpa using k
  · simpa using k
  · exact ⟨⟨h, h⟩, by rw [eqv_self h]; exact k⟩
/-! ### numbers -/
theorem em0 {a n : Int} (h : 0 < n) : 0 ≤ a % n := Int.emod_nonneg a (by omega)
theorem em1 {a n : Int} (h : 0 < n) : a % n < n := Int.emod_lt_of_pos a h
theorem ed0 {a n : Int} (h : 0 ≤ a) (h1 : 0 < n) : 0 ≤ a / n := Int.ediv_nonneg h (by omega)
theorem pot_lo {a n : Int} (h : 0 < n) : 0 ≤ a % n + 1 := by have := em0 (a := a) h; omega
theorem pot_hi {a n : Int} (h : 0 < n) (h2 : n < 4294967295) : a % n + 1 < 4294967296 := by have := em1 (a := a) h; omega
theorem le_sq {r : Int} (h : 0 ≤ r) : r ≤ r * r := by
  by_cases e : r = 0
  · subst e; decide
  · have := Int.mul_le_mul_of_nonneg_left (show 1 ≤ r by omega) h
    omega
theorem sq_le_sq {a b : Int} (h : 0 ≤ a) (hab : a ≤ b) : a * a ≤ b * b := Int.mul_le_mul hab hab h (by omega)
theorem of_sq_lt {a b : Int} (hb : 0 ≤ b) (h : a * a < b * b) : a < b := by
  by_cases c : a < b
  · exact c
  · have := sq_le_sq hb (show b ≤ a by omega)
    omega
theorem of_sq_le {a b : Int} (hb : 0 ≤ b) (h : a * a ≤ b * b) : a ≤ b := by
  by_cases c : a ≤ b
  · exact c
  · have h1 : (b + 1) * (b + 1) ≤ a * a := sq_le_sq (by omega) (by omega)
    have h2 : (b + 1) * (b + 1) = b * b + 2 * b + 1 := by rw [Int.add_mul, Int.mul_add]; omega
    omega
theorem small_log {i : Int} (h0 : -1606938044258990275541962092341162602522202993782792835301376 < i) (h1 : i < 1606938044258990275541962092341162602522202993782792835301376) : i.natAbs.log2 < 1920 := by
  have e : (2 : Nat) ^ 200 = 1606938044258990275541962092341162602522202993782792835301376 := by decide +kernel
  exact Nat.lt_of_lt_of_le (PySem.Flt.log2_lt_of (k := 200) (by decide) (by rw [e]; omega)) (by decide)
end DL
/-! Lists that a def has made and changes. -/
namespace DL
open PySem PySem.Spec L2
open PyProof.Rows hiding St

section
variable {K : PySem.W.Frag} {p : Qt} {g : Gd} {F : List Addr} {H H' : Hp} {σ : L2.St} {τ : Sl} {i : Nat} {a : Addr} {vs : List V} {l : List D}
/-- what a slot held is forgotten, and the slot holds anything -/
theorem Rel.junk (r : Rel K p g F σ H τ) {v : Option V} : Rel K p g F (σ.set i v) H (τ.set i none) := by
  have oth : ∀ (j : Nat) (d : D), (τ.set i none)[j]? = some (some d) → i ≠ j ∧ τ[j]? = some (some d) := fun j l q => by
    rcases set_get q with ⟨rfl, e2, hl⟩ | q
    · cases e2
    · exact q
  refine ⟨r.pk, r.kp, r.sub, r.al, r.fo, fun j e q n => ?_, fun j l q => ?_, fun a b l l' c q1 q2 s1 s2 => ?_, by simp [r.len]⟩
  · obtain ⟨hj, q⟩ := oth j e q
    obtain ⟨u, h1, h2⟩ := r.sl j e q n
    exact ⟨u, by rw [List.getElem?_set_ne hj]; exact h1, h2⟩
  · obtain ⟨hj, q⟩ := oth j _ q
    obtain ⟨a, vs, h1, h2⟩ := r.ow j l q
    exact ⟨a, vs, by rw [List.getElem?_set_ne hj]; exact h1, h2⟩
  · obtain ⟨n1, q1⟩ := oth a _ q1
    obtain ⟨n2, q2⟩ := oth b _ q2
    rw [List.getElem?_set_ne n1] at s1
    rw [List.getElem?_set_ne n2] at s2
    exact r.un a b l l' c q1 q2 s1 s2
theorem set_same {α : Type} : ∀ {σ : List α} {i : Nat} {v : α}, σ[i]? = some v → σ.set i v = σ
  | _ :: _, 0, _, h => by cases h; rfl
  | x :: s, i + 1, v, h => by
    show x :: s.set i v = x :: s
    rw [set_same (by simpa using h)]
theorem Rel.forget (r : Rel K p g F σ H τ) : Rel K p g F σ H (τ.set i none) := by
  by_cases hi : i < σ.length
  · have := r.junk (i := i) (v := σ[i])
    rwa [set_same (List.getElem?_eq_getElem hi)] at this
  · have e : τ.set i none = τ := List.set_eq_of_length_le (by rw [r.len]; omega)
    rw [e]
    exact r
/-- a slot becomes the holder of a list -/
theorem Rel.addOwn (r : Rel K p g F σ H (τ.set i none)) (h1 : σ[i]? = some (some (.ref a))) (h2 : H a = some (.lst vs)) (h3 : a ∈ F) (h4 : a ∉ g.F0) (h5 : IsL K p F H vs l)
    (h6 : ∀ (j : Nat) (m : List D), j ≠ i → τ[j]? = some (some (.own m)) → σ[j]? ≠ some (some (.ref a))) : Rel K p g F σ H (τ.set i (some (.own l))) := by
  have oth : ∀ (j : Nat) (d : D), i ≠ j → τ[j]? = some (some d) → (τ.set i none)[j]? = some (some d) := fun j d n q => by rw [List.getElem?_set_ne n]; exact q
  refine ⟨r.pk, r.kp, r.sub, r.al, r.fo, fun j e q n => ?_, fun j m q => ?_, fun b c m m' x q1 q2 s1 s2 => ?_, by simpa using r.len⟩
  · rcases set_get q with ⟨rfl, e2, _⟩ | ⟨hj, q⟩
    · cases e2
      cases n
    · exact r.sl j e (oth j e hj q) n
  · rcases set_get q with ⟨rfl, e2, _⟩ | ⟨hj, q⟩
    · cases e2
      exact ⟨a, vs, h1, h2, h3, h4, h5⟩
    · exact r.ow j m (oth j _ hj q)
  · rcases set_get q1 with ⟨rfl, e1, _⟩ | ⟨n1, q1⟩
    · rcases set_get q2 with ⟨rfl, _, _⟩ | ⟨n2, q2⟩
      · rfl
      · rw [h1] at s1
        cases s1
        exact absurd s2 (h6 c m' (fun z => n2 z.symm) q2)
    · rcases set_get q2 with ⟨rfl, _, _⟩ | ⟨n2, q2⟩
      · rw [h1] at s2
        cases s2
        exact absurd s1 (h6 b m (fun z => n1 z.symm) q1)
      · exact r.un b c m m' x (oth b _ n1 q1) (oth c _ n2 q2) s1 s2
/-- a new list, shut -/
theorem Rel.shut2 (r : Rel K p g F σ H τ) (e : Ex p H H') (nP : a ≠ p.pot) (hn : ∀ o, NoT o → H a ≠ some o) (hD : H' a = some (.lst vs)) : Rel K p g (a :: F) σ H' τ := by
  have r' := r.st e
  have mo : ∀ b ∈ a :: F, b ∈ F ∨ ∀ o, NoT o → H b ≠ some o := fun b hb => by
    rcases List.mem_cons.mp hb with z | z
    · exact .inr (by rw [z]; exact hn)
    · exact .inl z
  refine ⟨r'.pk, r'.kp, fun b hb => List.mem_cons_of_mem _ (r.sub b hb), fun b hb => ?_, fun b hb => ?_, fun j d h n => ?_, fun j m h => ?_, r.un, r.len⟩
  · rcases List.mem_cons.mp hb with z | z
    · subst z
      exact ⟨nP, _, hD, trivial⟩
    · exact r'.al b z
  · rcases List.mem_cons.mp hb with z | z
    · subst z
      by_cases hB : b ∈ g.B
      · exact .inr (.inl hB)
      · exact .inr (.inr fun o t q => hn o t (r.kp b o nP hB t q))
    · exact r.fo b z
  · obtain ⟨v, h1, h2⟩ := r.sl j d h n
    exact ⟨v, h1, (h2.more mo).mono e.kp⟩
  · obtain ⟨b, ws, h1, h2, h3, h4, h6⟩ := r.ow j m h
    exact ⟨b, ws, h1, e.kp _ _ (r.al b h3).1 (fun _ z => nomatch z) h2, List.mem_cons_of_mem _ h3, h4, (h6.more mo).mono e.kp⟩
/-- a slot takes a new list -/
theorem Rel.takes (r : Rel K p g F σ H τ) (e : Ex p H H') (nP : a ≠ p.pot) (hn : ∀ o, NoT o → H a ≠ some o) (hD : H' a = some (.lst vs)) (il : IsL K p (a :: F) H' vs l) (hi : i < σ.length) : Rel K p g (a :: F) (σ.set i (some (.ref a))) H' (τ.set i (some (.own l))) := by
  have r1 := r.shut2 e nP hn hD
  have nF : a ∉ F := fun z => by
    obtain ⟨_, o, h1, h2⟩ := r.al a z
    exact hn o h2.noT h1
  have r2 : Rel K p g (a :: F) (σ.set i (some (.ref a))) H' (τ.set i none) := r1.junk
  refine r2.addOwn (by rw [List.getElem?_set_self hi]) hD List.mem_cons_self (fun z => nF (r.sub a z)) il fun j m hj hm z => ?_
  rw [List.getElem?_set_ne (fun y => hj y.symm)] at z
  obtain ⟨b, ws, h1, _, h3, _⟩ := r.ow j m hm
  rw [z] at h1
  cases h1
  exact nF h3
/-- a list changed -/
theorem Rel.puts {ws : List V} {l' : List D} (r : Rel K p g F σ H τ) (hτ : τ[i]? = some (some (.own l))) (h1 : σ[i]? = some (some (.ref a))) (il : IsL K p F H ws l') : Rel K p g F σ (upd H a (.lst ws)) (τ.set i (some (.own l'))) ∧ ∀ w y, Is K p F H w y → Is K p F (upd H a (.lst ws)) w y := by
  obtain ⟨b, us, k1, k2, k3, k4, k5⟩ := r.ow i l hτ
  rw [h1] at k1
  cases k1
  have ho : ∀ (j : Nat) (m : List D), j ≠ i → τ[j]? = some (some (.own m)) → σ[j]? ≠ some (some (.ref a)) := fun j m hj hm z => hj (r.un j i m l a hm hτ z h1)
  have hg : a ∈ g.B ∨ ∀ o, NoT o → g.H0 a ≠ some o := (r.fo a k3).elim (fun z => absurd z k4) id
  obtain ⟨r2, isk⟩ := (r.forget (i := i)).wrote (xs := ws) k3 k2 hg fun j m q z => by
    rcases set_get q with ⟨rfl, e2, _⟩ | ⟨hj, q⟩
    · cases e2
    · exact ho j m (fun y => hj y.symm) q z
  exact ⟨r2.addOwn h1 upd_same k3 k4 (il.all isk) ho, isk⟩
/-- a list no more changed -/
theorem Rel.frees (r : Rel K p g F σ H τ) (hτ : τ[i]? = some (some (.own l))) (h1 : σ[i]? = some (some (.ref a))) : Rel K p g (F.filter fun b => decide (b ≠ a)) σ H (τ.set i (some (.lst l))) := by
  obtain ⟨b, us, k1, k2, k3, k4, k5⟩ := r.ow i l hτ
  rw [h1] at k1
  cases k1
  have inF : ∀ b, b ∈ F.filter (fun b => decide (b ≠ a)) ↔ b ∈ F ∧ b ≠ a := fun b => by rw [List.mem_filter, decide_eq_true_iff]
  have sub : ∀ b ∈ F.filter (fun b => decide (b ≠ a)), b ∈ F := fun b hb => ((inF b).mp hb).1
  have hi : i < τ.length := (List.getElem?_eq_some_iff.mp hτ).1
  refine ⟨r.pk, r.kp, fun b hb => (inF b).mpr ⟨r.sub b hb, fun z => k4 (z ▸ hb)⟩, fun b hb => r.al b (sub b hb), fun b hb => r.fo b (sub b hb), fun j d q n => ?_, fun j m q => ?_, fun b c m m' x q1 q2 s1 s2 => ?_, by simpa using r.len⟩
  · rcases set_get q with ⟨rfl, e2, _⟩ | ⟨hj, q⟩
    · cases e2
      exact ⟨.ref a, h1, .lst (Rd.of k2) ⟨(r.al a k3).1, fun z => ((inF a).mp z).2 rfl⟩ (k5.less sub)⟩
    · obtain ⟨v, g1, g2⟩ := r.sl j d q n
      exact ⟨v, g1, g2.less sub⟩
  · rcases set_get q with ⟨rfl, e2, _⟩ | ⟨hj, q⟩
    · cases e2
    · obtain ⟨b, ws, g1, g2, g3, g4, g5⟩ := r.ow j m q
      exact ⟨b, ws, g1, g2, (inF b).mpr ⟨g3, fun z => hj (r.un i j l m a hτ q h1 (by rw [g1, z]))⟩, g4, g5.less sub⟩
  · rcases set_get q1 with ⟨rfl, e1, _⟩ | ⟨n1, q1⟩
    · cases e1
    · rcases set_get q2 with ⟨rfl, e2, _⟩ | ⟨n2, q2⟩
      · cases e2
      · exact r.un b c m m' x q1 q2 s1 s2
end

/-! ### new lists -/
structure PDF (X : Cx) (p : Qt) (e : Expr) (d : DA) : Prop where
  run : ∃ t, PE X e t ∧ ∀ (g0 : Gd) (F : List Addr) (σ : L2.St) (H : Hp) (τ : Sl) (Q : VK) (R : List D → Prop), Rel X.K p g0 F σ H τ → d τ R →
    (∀ l a vs H', Ex p H H' → a ≠ p.pot → (∀ o, NoT o → H a ≠ some o) → H' a = some (.lst vs) → IsL X.K p (a :: F) H' vs l → R l → Q (.ref a) H') → t σ H Q
section
variable {X : Cx} {p : Qt} {pos : Pos}
theorem IsL.fresh {K : PySem.W.Frag} {F : List Addr} {H : Hp} {a : Addr} {o : HO} {vs : List V} {l : List D} (pk : Pk p H) (hn : H a = none) (h : IsL K p F H vs l) : IsL K p (a :: F) (upd H a o) vs l := by
  refine (h.more fun b hb => ?_).mono (Ex.new (o := o) pk hn).kp
  rcases List.mem_cons.mp hb with z | z
  · exact .inr fun o _ q => by rw [z, hn] at q; cases q
  · exact .inl z
theorem Ex.nothere {H H1 : Hp} {a : Addr} (e : Ex p H H1) (hn : H1 a = none) : a ≠ p.pot ∧ ∀ o, NoT o → H a ≠ some o := by
  have nP := e.pk.ne hn
  exact ⟨nP, fun o t q => by
    have := e.kp a o nP t q
    rw [hn] at this
    cases this⟩
theorem pdf_lst {es : List Expr} {ds : DA} (ha : PDA X p es ds) (hl : es.length ≤ sizeLine := by decide) : PDF X p (.List es pos) ds := by
  obtain ⟨t, h1, h2⟩ := ha.run
  refine ⟨_, pe_lst h1, fun g0 F σ H τ Q R rel h q => ?_⟩
  refine h2 g0 F σ H τ _ _ rel h fun xs vs H1 e1 i1 l1 h1 => ⟨by rw [l1]; exact hl, fun a hn => ?_⟩
  obtain ⟨nP, nh⟩ := e1.nothere hn
  exact q xs a vs _ (e1.trans (.new e1.pk hn)) nP nh upd_same (i1.fresh e1.pk hn) h1
theorem lc_runF {K : PySem.W.Frag} {J : It} {g0 : Gd} {F : List Addr} {H1 : Hp} {l : List D} {D0 : Addr} {g : DG} {tt : DT} {te : DE} {tgt : TG} {tT : TT} {vs : List Nat} {σ : L2.St} {τ : Sl} {Q : VK} {R : List D → Prop} (hD : H1 D0 = none) (wd : WD K p F J H1 l) (hl : l.length ≤ 1000000) (rel : Rel K p g0 F σ H1 τ)
    (hg : ∀ (v : V) (x : D) (g0 : Gd) (F : List Addr) (σ : L2.St) (H : Hp) (τ : Sl) (Q : L2.St → Hp → Prop) (R : Sl → Prop), Rel K p g0 F σ H τ → Is K p F H v x → g x τ R → (∀ σ' H' τ', Ex p H H' → Rel K p g0 F σ' H' τ' → wipe σ' vs = wipe σ vs → R τ' → Q σ' H') → tgt v σ H Q)
    (ht : ∀ (g0 : Gd) (F : List Addr) (σ : L2.St) (H : Hp) (τ : Sl) (Q : Bool → Hp → Prop) (R : Bool → Prop), Rel K p g0 F σ H τ → tt τ R → (∀ b H', Ex p H H' → R b → Q b H') → tT σ H Q)
    (h : dLcGo g tt te (wipeD τ vs) l [] R) (q : ∀ l a vs H', Ex p H1 H' → a ≠ p.pot → (∀ o, NoT o → H1 a ≠ some o) → H' a = some (.lst vs) → IsL K p (a :: F) H' vs l → R l → Q (.ref a) H') :
    ∃ W : Nat → Nat → Hp → Prop, (∃ m, W 0 m (upd H1 D0 (.lst []))) ∧ ∀ i m H, W i m H → (J.stop i H ∧ Q (.ref D0) H) ∨ (J.go i H ∧ ∃ Nx : Hp → Prop, (∀ H', Nx H' → ∃ m', m' < m ∧ W (i + 1) m' H') ∧
      ∀ x H', J.yld i H x H' → tgt x (wipe σ vs) H' fun σ2 H2 => wipe σ2 vs = wipe σ vs ∧ tT σ2 H2 fun b H3 => if b = true then liftE K p te σ2 H3 fun y H4 => ∃ acc, H4 D0 = some (.lst acc) ∧ acc.length < sizeLine ∧ Nx (upd H4 D0 (.lst (acc ++ [y]))) else Nx H3) := by
  have nD := rel.notF hD
  have r0 := rel.wipe vs
  have start : Ex p H1 (upd H1 D0 (.lst [])) := .new rel.pk hD
  have mo : ∀ b ∈ D0 :: F, b ∈ F ∨ ∀ o, NoT o → H1 b ≠ some o := fun b hb => by
    rcases List.mem_cons.mp hb with z | z
    · exact .inr fun o _ q => by rw [z, hD] at q; cases q
    · exact .inl z
  have hgD : D0 ∈ g0.B ∨ ∀ o, NoT o → g0.H0 D0 ≠ some o := by
    by_cases hB : D0 ∈ g0.B
    · exact .inl hB
    · exact .inr fun o t q => by
        have := rel.kp D0 o nD.1 hB t q
        rw [hD] at this
        cases this
  have ho : ∀ (i : Nat) (l : List D), (wipeD τ vs)[i]? = some (some (D.own l)) → (wipe σ vs)[i]? ≠ some (some (V.ref D0)) := fun i l h1 h2 => by
    obtain ⟨a, us, k1, k2, _⟩ := r0.ow i l h1
    rw [h2] at k1
    cases k1
    rw [hD] at k2
    cases k2
  refine ⟨fun i m H => i ≤ l.length ∧ m = l.length - i ∧ Ex p H1 H ∧ Rel K p g0 (D0 :: F) (wipe σ vs) H (wipeD τ vs) ∧ ∃ va acc, H D0 = some (.lst va) ∧ IsL K p (D0 :: F) H va acc ∧ acc.length ≤ i ∧ dLcGo g tt te (wipeD τ vs) (l.drop i) acc R,
    ⟨_, Nat.zero_le _, rfl, start, r0.shut hD, [], [], upd_same, .nil, Nat.le_refl _, h⟩, ?_⟩
  rintro i m H ⟨hi, rfl, ex, rl, va, acc, hva, iva, lva, h⟩
  by_cases hlt : i < l.length
  · obtain ⟨go, y⟩ := wd.step i H (D0 :: F) ex.toF (fun z => (z.more mo).mono ex.kp) rl.pkf hlt
    refine .inr ⟨go, fun H' => Ex p H1 H' ∧ Rel K p g0 (D0 :: F) (wipe σ vs) H' (wipeD τ vs) ∧ ∃ va acc, H' D0 = some (.lst va) ∧ IsL K p (D0 :: F) H' va acc ∧ acc.length ≤ i + 1 ∧ dLcGo g tt te (wipeD τ vs) (l.drop (i + 1)) acc R, fun H' ⟨q1, q2, q3⟩ => ⟨_, by omega, hlt, rfl, q1, q2, q3⟩, fun x H2 yl => ?_⟩
    obtain ⟨e2, d, hd, hx⟩ := y x H2 yl
    rw [drop_at hd] at h
    refine hg x d g0 (D0 :: F) _ H2 _ _ _ (rl.st e2) hx h fun σ3 H3 τ3 e3 rel3 w3 h3 => ⟨by rw [w3, wipe_idem], ?_⟩
    refine ht g0 (D0 :: F) σ3 H3 τ3 _ _ rel3 h3 fun b H4 e4 h4 => ?_
    have e24 := (e2.trans e3).trans e4
    have ex4 := ex.trans e24
    have nDp : D0 ≠ p.pot := nD.1
    have hva4 : H4 D0 = some (.lst va) := e24.kp _ _ nDp (fun _ z => nomatch z) hva
    cases b with
    | true =>
      rw [if_pos rfl] at h4 ⊢
      refine ⟨g0, D0 :: F, τ3, _, rel3.st e4, h4, fun z v H5 e5 i5 h5 => ?_⟩
      have hva5 : H5 D0 = some (.lst va) := e5.kp _ _ nDp (fun _ z => nomatch z) hva4
      have len := iva.len
      have rl5 := (rl.st e24).st e5
      obtain ⟨rw5, isk⟩ := rl5.wrote List.mem_cons_self hva5 hgD ho (xs := va ++ [v])
      refine ⟨va, hva5, ?_, ?_, rw5, va ++ [v], acc ++ [z], upd_same, (((iva.mono e24.kp).mono e5.kp).app (.cons i5 .nil)).all isk, by rw [List.length_append]; simp; omega, h5⟩
      · have : sizeLine = 16777216 := sizeLine_eq
        omega
      · have ex5 := ex4.trans e5
        exact ⟨fun b o nb t e => by rw [upd_ne (ne_of_none e hD)]; exact ex5.kp b o nb t e, rw5.pk⟩
    | false =>
      rw [if_neg Bool.false_ne_true] at h4 ⊢
      exact ⟨ex4, rl.st e24, va, acc, hva4, iva.mono e24.kp, by omega, h4⟩
  · have e : i = l.length := by omega
    subst e
    rw [List.drop_length] at h
    exact .inl ⟨wd.stop H ex.toF, q acc D0 va H ex nD.1 (fun o _ z => by rw [hD] at z; cases z) hva iva h⟩

def dLcF (it : DI) (g : DG) (tt : DT) (te : DE) (own : List Nat) : DA := fun τ R => it τ fun l => LenOk l ∧ dLcGo g tt te (wipeD τ own) l [] R
theorem pdf_lc {elt tg iter : Expr} {scope : Scope} {own : List (Str × Nat)} {it : DI} {g : DG} {te : DE} {t : TG} (hc : X.calm = true) (hN : X.N.Nodup) (hi : PDI X p tg iter it) (ok : blkC X.N X.env.scope scope own = true)
    (hg : ∀ (s : Shared) (H : Hp) (C : Addr) (cl : List (Str × Addr)) (fp : List Addr), PDGw (X.blk s H scope (compEnvC scope cl C X.env) fp) p (own.map (·.2)) tg g t)
    (he : ∀ (s : Shared) (H : Hp) (C : Addr) (cl : List (Str × Addr)) (fp : List Addr), PD (X.blk s H scope (compEnvC scope cl C X.env) fp) p elt te) (hs : ∀ x, foldedSetIterable iter X.env x = pure x := by intro _; rfl) (sh : Shared) :
    PDF X p (.ListComp elt [⟨tg, iter, [], 0⟩] scope pos) (dLcF it g dYes te (own.map (·.2))) := by
  obtain ⟨wi, i1, i2⟩ := hi.run
  refine ⟨_, pe_lc (te := liftE X.K p te) hc hN i1 (blkOk_by ok) (fun s H C cl fp => (hg s H C cl fp).pg) (fun _ _ _ _ _ => pts_nil) (fun s H C cl fp => (he s H C cl fp).pe) hs, fun g0 F σ H τ Q R rel h q => ?_⟩
  refine i2 g0 F σ H τ _ _ rel h fun J H1 l e1 wd h1 => ?_
  intro D0 hD
  exact lc_runF (K := X.K) (tt := dYes) hD wd h1.1.few (rel.st e1) (hg sh H 0 [] []).go (fun g0 F σ H τ Q R rel h q => q true H (.refl rel.pk) h) h1.2 fun l a vs H' e n1 n2 h3 i r => q l a vs H' (e1.trans e) n1 (fun o t z => n2 o t (e1.kp a o n1 t z)) h3 i r
theorem pdf_lcI {elt tg iter c : Expr} {scope : Scope} {own : List (Str × Nat)} {it : DI} {g : DG} {te : DE} {tt : DT} {t : TG} (hc : X.calm = true) (hN : X.N.Nodup) (hi : PDI X p tg iter it) (ok : blkC X.N X.env.scope scope own = true)
    (hg : ∀ (s : Shared) (H : Hp) (C : Addr) (cl : List (Str × Addr)) (fp : List Addr), PDGw (X.blk s H scope (compEnvC scope cl C X.env) fp) p (own.map (·.2)) tg g t)
    (ht : ∀ (s : Shared) (H : Hp) (C : Addr) (cl : List (Str × Addr)) (fp : List Addr), PDT (X.blk s H scope (compEnvC scope cl C X.env) fp) p c tt)
    (he : ∀ (s : Shared) (H : Hp) (C : Addr) (cl : List (Str × Addr)) (fp : List Addr), PD (X.blk s H scope (compEnvC scope cl C X.env) fp) p elt te) (hs : ∀ x, foldedSetIterable iter X.env x = pure x := by intro _; rfl) (sh : Shared) :
    PDF X p (.ListComp elt [⟨tg, iter, [c], 0⟩] scope pos) (dLcF it g tt te (own.map (·.2))) := by
  obtain ⟨wi, i1, i2⟩ := hi.run
  refine ⟨_, pe_lc (te := liftE X.K p te) (tt := liftT X.K p tt) hc hN i1 (blkOk_by ok) (fun s H C cl fp => (hg s H C cl fp).pg) (fun s H C cl fp => pts_one (ht s H C cl fp).pt) (fun s H C cl fp => (he s H C cl fp).pe) hs, fun g0 F σ H τ Q R rel h q => ?_⟩
  refine i2 g0 F σ H τ _ _ rel h fun J H1 l e1 wd h1 => ?_
  intro D0 hD
  exact lc_runF (K := X.K) (tt := tt) hD wd h1.1.few (rel.st e1) (hg sh H 0 [] []).go (fun g0 F σ H τ Q R rel h q => ⟨g0, F, τ, R, rel, h, q⟩) h1.2 fun l a vs H' e n1 n2 h3 i r => q l a vs H' (e1.trans e) n1 (fun o t z => n2 o t (e1.kp a o n1 t z)) h3 i r
/-! ### statements -/
def dOwn (d : DA) (i : Nat) : DS := fun E τ => d τ fun l => E.nx (τ.set i (some (.own l)))
theorem pds_own {i : Nat} {x : Str} {pos' : Pos} {e : Expr} {d : DA} (hN : X.N.Nodup) (hi : X.N[i]? = some x) (hx : Loc X.env.scope x) (he : PDF X p e d) (hs : swapsWith e (some (.Name x pos')) pos.line X.env = pure false := by rfl) (hf : X.fn x = true ∨ X.env.scope.names.lookup x = some .local := by first | exact .inl rfl | exact .inr rfl | assumption) :
    PDS X p (.Assign [.Name x pos'] e pos) (dOwn d i) := by
  obtain ⟨a, a1, a2⟩ := he.run
  refine ⟨_, ps_set hN hi hx a1 hs hf, fun g F σ H τ E E' rel h ag => ?_⟩
  refine a2 g F σ H τ _ _ rel h fun l a vs H' e nP hn hD il r => ?_
  by_cases hl : i < σ.length
  · exact ag.nx _ _ H' _ (rel.takes e nP hn hD il hl) r
  · have e1 : τ.set i (some (.own l)) = τ := List.set_eq_of_length_le (by rw [rel.len]; omega)
    have e2 : σ.set i (some (V.ref a)) = σ := List.set_eq_of_length_le (by omega)
    rw [e1] at r
    show E.nx (σ.set i (some (V.ref a))) H'
    rw [e2]
    exact ag.nx _ _ H' _ (rel.st e) r
/-- name = [..] on one line -/
theorem pds_ownLc {i : Nat} {y : Str} {py spos : Pos} {elt tg iter : Expr} {scope : Scope} {own : List (Str × Nat)} {it : DI} {g : DG} {te : DE} {t : TG} (hc : X.calm = true) (hN : X.N.Nodup) (hy : X.N[i]? = some y) (hyl : X.env.scope.names.lookup y = some .local)
    (hi : PDI X p tg iter it) (ok : blkC X.N X.env.scope scope own = true)
    (hg : ∀ (s : Shared) (H : Hp) (C : Addr) (cl : List (Str × Addr)) (fp : List Addr), PDGw (X.blk s H scope (compEnvC scope cl C X.env) fp) p (own.map (·.2)) tg g t)
    (he : ∀ (s : Shared) (H : Hp) (C : Addr) (cl : List (Str × Addr)) (fp : List Addr), PD (X.blk s H scope (compEnvC scope cl C X.env) fp) p elt te) (sh : Shared)
    (hsw : swapsWith (.ListComp elt [⟨tg, iter, [], 0⟩] scope pos) (some (.Name y py)) spos.line X.env = pure true := by rfl) (hs : ∀ x, foldedSetIterable iter X.env x = pure x := by intro _; rfl) :
    PDS X p (.Assign [.Name y py] (.ListComp elt [⟨tg, iter, [], 0⟩] scope pos) spos) (dOwn (dLcF it g dYes te (own.map (·.2))) i) := by
  obtain ⟨wi, i1, i2⟩ := hi.run
  refine ⟨_, ps_setLc (te := liftE X.K p te) hc hN hy hyl hsw i1 (blkOk_by ok) (fun s H C cl fp => (hg s H C cl fp).pg) (fun _ _ _ _ _ => pts_nil) (fun s H C cl fp => (he s H C cl fp).pe) hs, fun g0 F σ H τ E E' rel h ag => ?_⟩
  refine i2 g0 F σ H τ _ _ rel h fun J H1 l e1 wd h1 => ?_
  intro D0 hD
  refine lc_runF (K := X.K) (tt := dYes) (tT := tYes) (Q := fun x H1 => gName i x σ H1 E.nx) hD wd h1.1.few (rel.st e1) (hg sh H 0 [] []).go (fun g0 F σ H τ Q R rel h q => q true H (.refl rel.pk) h) h1.2 fun l a vs H' e n1 n2 h3 il r => ?_
  by_cases hl : i < σ.length
  · exact ag.nx _ _ H' _ (rel.takes (e1.trans e) n1 (fun o t z => n2 o t (e1.kp a o n1 t z)) h3 il hl) r
  · have e1' : τ.set i (some (.own l)) = τ := List.set_eq_of_length_le (by rw [rel.len]; omega)
    have e2' : σ.set i (some (V.ref a)) = σ := List.set_eq_of_length_le (by omega)
    rw [e1'] at r
    show E.nx (σ.set i (some (V.ref a))) H'
    rw [e2']
    exact ag.nx _ _ H' _ (rel.st (e1.trans e)) r
/-- x.append(e) -/
def dApp (i : Nat) (d : DE) : DS := fun E τ => match τ[i]? with
  | some (some (.own l)) => d τ fun x => l.length ≤ 1000000 ∧ E.nx (τ.set i (some (.own (l ++ [x]))))
  | _ => False
theorem pds_app {i : Nat} {x : Str} {px apos cpos : Pos} {e : Expr} {d : DE} (he : PD X p e d) (hN : X.N[i]? = some x := by rfl) (hv : Vis X.env.scope x := by first | exact Or.inl rfl | exact Or.inr (Or.inl rfl) | exact Or.inr (Or.inr rfl)) (hd : (x == ("__debug__" : Str)) = false := by decide)
    (hcd : (x == ("__classdict__" : Str)) = false := by decide) (hs : swapsWith (.Call (.Attribute (.Name x px) "append" apos) [e] [] cpos) none pos.line X.env = pure false := by rfl)
    (hbase : attributeBase (.Name x px) "append" X.env (eval (.Name x px) X.env) = eval (.Name x px) X.env := by rfl)
    (hfew : ((backTo cpos (starEach [e] X.env)).all (fun x => !x.1) && (backToKw cpos (keywordEach [] X.env)).all (fun x => x.1.isSome)
      && decide (([e] : List Expr).length + ([] : List Keyword).length + (if ([] : List Keyword).isEmpty then 0 else 1) < 30)) = true := by rfl)
    (hline : (apos.endLine == cpos.line) = true := by rfl) (hst : starEach [e] X.env = (false, eval e X.env) :: starEach [] X.env := by rfl) (hplain : (backTo cpos (starEach [] X.env)).any (·.1) = false := by rfl) :
    PDS X p (.Expr (.Call (.Attribute (.Name x px) "append" apos) [e] [] cpos) pos) (dApp i d) := by
  obtain ⟨t, h1, h2⟩ := (pda_cons he pda_nil hst).run
  refine ⟨_, ps_expr (pe_bm PySem.F.plainAttrs_list PySem.F.slot_list_append PySem.F.type_list_append mt_append (pe_var hN hv hd hcd) h1 hbase hfew hline hst hplain) hs, fun g0 F σ H τ E E' rel h ag => ?_⟩
  unfold dApp at h
  split at h
  · rename_i l ht
    obtain ⟨a, vs, s1, s2, s3, s4, s5⟩ := rel.ow i l ht
    refine ⟨.ref a, s1, .inl ⟨rfl, vs, .inl (.inl s2)⟩, ?_⟩
    refine h2 g0 F σ H τ _ (fun xs => match xs with | [x] => l.length ≤ 1000000 ∧ E'.nx (τ.set i (some (.own (l ++ [x])))) | _ => False) rel h fun xs ws H1 e1 i1 l1 h1 => ?_
    cases i1 with
    | nil => exact h1.elim
    | cons i1 i2 =>
      cases i2 with
      | cons _ _ => exact h1.elim
      | nil =>
        have s2' := e1.kp a (.lst vs) (rel.al a s3).1 (fun _ z => nomatch z) s2
        have len := s5.len
        refine ⟨a, vs, _, rfl, rfl, s2', by have : sizeLine = 16777216 := sizeLine_eq; omega, ?_⟩
        exact ag.nx F σ _ _ ((rel.st e1).puts ht s1 ((s5.mono e1.kp).app (.cons i1 .nil))).1 h1.2
  · exact h.elim
/-- x.extend([..]) -/
def dExt (i : Nat) (d : DA) : DS := fun E τ => match τ[i]? with
  | some (some (.own l)) => d τ fun m => l.length + m.length ≤ 1000000 ∧ E.nx (τ.set i (some (.own (l ++ m))))
  | _ => False
theorem pds_ext {i : Nat} {x : Str} {px apos cpos : Pos} {e : Expr} {d : DA} (he : PDF X p e d) (hN : X.N[i]? = some x := by rfl) (hv : Vis X.env.scope x := by first | exact Or.inl rfl | exact Or.inr (Or.inl rfl) | exact Or.inr (Or.inr rfl)) (hd : (x == ("__debug__" : Str)) = false := by decide)
    (hcd : (x == ("__classdict__" : Str)) = false := by decide) (hs : swapsWith (.Call (.Attribute (.Name x px) "extend" apos) [e] [] cpos) none pos.line X.env = pure false := by rfl)
    (hbase : attributeBase (.Name x px) "extend" X.env (eval (.Name x px) X.env) = eval (.Name x px) X.env := by rfl)
    (hfew : ((backTo cpos (starEach [e] X.env)).all (fun x => !x.1) && (backToKw cpos (keywordEach [] X.env)).all (fun x => x.1.isSome)
      && decide (([e] : List Expr).length + ([] : List Keyword).length + (if ([] : List Keyword).isEmpty then 0 else 1) < 30)) = true := by rfl)
    (hline : (apos.endLine == cpos.line) = true := by rfl) (hst : starEach [e] X.env = (false, eval e X.env) :: starEach [] X.env := by rfl) (hplain : (backTo cpos (starEach [] X.env)).any (·.1) = false := by rfl) :
    PDS X p (.Expr (.Call (.Attribute (.Name x px) "extend" apos) [e] [] cpos) pos) (dExt i d) := by
  obtain ⟨t, h1, h2⟩ := he.run
  refine ⟨_, ps_expr (pe_bm PySem.F.plainAttrs_list PySem.F.slot_list_extend PySem.F.type_list_extend mt_extend (pe_var hN hv hd hcd) (pa_cons h1 pa_nil hst) hbase hfew hline hst hplain) hs, fun g0 F σ H τ E E' rel h ag => ?_⟩
  unfold dExt at h
  split at h
  · rename_i l ht
    obtain ⟨a, vs, s1, s2, s3, s4, s5⟩ := rel.ow i l ht
    refine ⟨.ref a, s1, .inl ⟨rfl, vs, .inl (.inl s2)⟩, ?_⟩
    refine h2 g0 F σ H τ _ _ rel h fun m b ws H1 e1 nP hn hD il h1 => ?_
    have s2' := e1.kp a (.lst vs) (rel.al a s3).1 (fun _ z => nomatch z) s2
    have len := s5.len
    have len2 := il.len
    refine ⟨a, b, vs, ws, rfl, rfl, s2', hD, by have : sizeLine = 16777216 := sizeLine_eq; omega, ?_⟩
    exact ag.nx F σ _ _ ((rel.st e1).puts ht s1 ((s5.mono e1.kp).app (il.less fun b hb => List.mem_cons_of_mem _ hb))).1 h1.2
  · exact h.elim
/-- a list is no more changed -/
def dFree (i : Nat) (d : DS) : DS := fun E τ => match τ[i]? with
  | some (some (.own l)) => d E (τ.set i (some (.lst l)))
  | _ => d E τ
theorem pds_free {st : Stmt} {d : DS} (i : Nat) (h : PDS X p st d) : PDS X p st (dFree i d) := by
  obtain ⟨t, h1, h2⟩ := h.run
  refine ⟨t, h1, fun g F σ H τ E E' rel hh ag => ?_⟩
  unfold dFree at hh
  split at hh
  · rename_i l ht
    obtain ⟨a, vs, s1, _⟩ := rel.ow i l ht
    exact h2 g _ σ H _ E E' (rel.frees ht s1) hh ag
  · exact h2 g F σ H τ E E' rel hh ag
/-- x[i] = .. -/
def gPutO (i : Nat) (d : DE) : DG := fun x τ R => match τ[i]? with
  | some (some (.own l)) => d τ fun k => match k with
    | .int k => (0 ≤ k ∧ k.toNat < l.length) ∧ R (τ.set i (some (.own (l.set k.toNat x))))
    | _ => False
  | _ => False
theorem IsL.set {K : PySem.W.Frag} {F : List Addr} {H : Hp} {v : V} {d : D} (hv : Is K p F H v d) : ∀ {vs : List V} {l : List D} (j : Nat), IsL K p F H vs l → IsL K p F H (vs.set j v) (l.set j d)
  | _, _, _, .nil => .nil
  | _, _, 0, .cons _ t => .cons hv t
  | _, _, j + 1, .cons h t => .cons h (IsL.set hv j t)
theorem pdg_putO {i : Nat} {x : Str} {px tpos : Pos} {e : Expr} {d : DE} (he : PD X p e d) (hN : X.N[i]? = some x := by rfl) (hv : Vis X.env.scope x := by first | exact Or.inl rfl | exact Or.inr (Or.inl rfl) | exact Or.inr (Or.inr rfl)) (hd : (x == ("__debug__" : Str)) = false := by decide)
    (hcd : (x == ("__classdict__" : Str)) = false := by decide)
    (ha : ∀ v, assign (.Subscript (.Name x px) e tpos) X.env v = (do
      let ov ← holding [v] (eval (.Name x px) X.env)
      let iv ← holding [v, ov] (eval e X.env)
      standAt tpos
      holding [v, ov, iv] (setItem ov iv v)
      release [v, ov, iv] []) := by intro _; rfl) : PDG X p (.Subscript (.Name x px) e tpos) (gPutO i d) := by
  obtain ⟨t, h1, h2⟩ := he.run
  refine ⟨_, pg_sub (pe_var hN hv hd hcd) h1 set_list ha, fun v y g F σ H τ Q R rel iv h q => ?_⟩
  unfold gPutO at h
  split at h
  · rename_i l ht
    obtain ⟨a, vs, s1, s2, s3, s4, s5⟩ := rel.ow i l ht
    refine ⟨.ref a, s1, ?_⟩
    refine h2 g F σ H τ _ _ rel h fun k kv H1 e1 i1 h1 => ?_
    have s2' := e1.kp a (.lst vs) (rel.al a s3).1 (fun _ z => nomatch z) s2
    have len := s5.len
    cases i1 with
    | int k =>
      obtain ⟨⟨k0, k1⟩, h1⟩ := h1
      have hj : ixN vs.length k = some k.toNat := by
        unfold ixN
        rw [if_pos k0, if_pos (by omega)]
      refine ⟨a, vs, k, k.toNat, rfl, rfl, s2', hj, ?_⟩
      obtain ⟨r2, isk⟩ := (rel.st e1).puts ht s1 (IsL.set (iv.mono e1.kp) k.toNat (s5.mono e1.kp))
      exact q σ _ _ r2 (fun w y z => isk w y (z.mono e1.kp)) h1
    | _ => exact (show False from h1).elim
  · exact h.elim
/-! ### looks at a list that is changed -/
/-- x[i] -/
def dIxO (i : Nat) (d : DE) : DE := fun τ R => match τ[i]? with
  | some (some (.own l)) => d τ fun k => match k with
    | .int k => match atD l k with
      | some x => R x
      | none => False
    | _ => False
  | _ => False
theorem pd_ixO {i : Nat} {x : Str} {px : Pos} {e : Expr} {d : DE} (he : PD X p e d) (hN : X.N[i]? = some x := by rfl) (hv : Vis X.env.scope x := by first | exact Or.inl rfl | exact Or.inr (Or.inl rfl) | exact Or.inr (Or.inr rfl)) (hd : (x == ("__debug__" : Str)) = false := by decide)
    (hcd : (x == ("__classdict__" : Str)) = false := by decide) (hn : ∀ lo hi st sp, e ≠ .Slice lo hi st sp := by intros; exact fun z => nomatch z) : PD X p (.Subscript (.Name x px) e pos) (dIxO i d) := by
  obtain ⟨t, h1, h2⟩ := he.run
  refine ⟨_, pe_ix ix_list (pe_var hN hv hd hcd) h1 (fun _ _ => by cases e <;> first | rfl | exact absurd rfl (hn _ _ _ _)), fun g F σ H τ Q R rel h q => ?_⟩
  unfold dIxO at h
  split at h
  · rename_i l ht
    obtain ⟨a, vs, s1, s2, s3, s4, s5⟩ := rel.ow i l ht
    refine ⟨.ref a, s1, ?_⟩
    refine h2 g F σ H τ _ _ rel h fun k kv H1 e1 i1 h1 => ?_
    have s2' := e1.kp a (.lst vs) (rel.al a s3).1 (fun _ z => nomatch z) s2
    cases i1 with
    | int k =>
      have h1' : match atD l k with | some x => R x | none => False := h1
      split at h1'
      · rename_i y ey
        obtain ⟨w, k1, k2⟩ := (s5.mono e1.kp).atI (atD_at ey)
        exact ⟨a, vs, k, w, rfl, rfl, .inl (.inl s2'), k1, q y w H1 e1 k2 h1'⟩
      · exact h1'.elim
    | _ => exact (show False from h1).elim
  · exact h.elim
/-- an expression that looks at it, and whose value holds no list -/
def dLend (i : Nat) (d : DE) : DE := fun τ R => match τ[i]? with
  | some (some (.own l)) => d (τ.set i (some (.lst l))) fun x => noL x = true ∧ R x
  | _ => d τ R
theorem pd_lend {e : Expr} {d : DE} (i : Nat) (he : PD X p e d) : PD X p e (dLend i d) := by
  obtain ⟨t, h1, h2⟩ := he.run
  refine ⟨t, h1, fun g F σ H τ Q R rel h q => ?_⟩
  unfold dLend at h
  split at h
  · rename_i l ht
    obtain ⟨a, vs, s1, s2, s3, s4, s5⟩ := rel.ow i l ht
    exact h2 g _ σ H _ _ _ (rel.frees ht s1) h fun x v H' e i r => q x v H' e (i.noL r.1) r.2
  · exact h2 g F σ H τ Q R rel h q
def dLendT (i : Nat) (d : DT) : DT := fun τ R => match τ[i]? with
  | some (some (.own l)) => d (τ.set i (some (.lst l))) R
  | _ => d τ R
theorem pdt_lend {e : Expr} {d : DT} (i : Nat) (he : PDT X p e d) : PDT X p e (dLendT i d) := by
  obtain ⟨t, h1, h2⟩ := he.run
  refine ⟨t, h1, fun g F σ H τ Q R rel h q => ?_⟩
  unfold dLendT at h
  split at h
  · rename_i l ht
    obtain ⟨a, vs, s1, s2, s3, s4, s5⟩ := rel.ow i l ht
    exact h2 g _ σ H _ _ _ (rel.frees ht s1) h q
  · exact h2 g F σ H τ Q R rel h q
end
end DL
/-! max, min of a tuple; x += .. -/
namespace DL
open PySem PySem.Spec L2
open PyProof.Rows hiding St
open PySem.W (HoldAll Holds maxOf minOf max_tuple_datum min_tuple_datum DatumOrd)

section
variable {X : Cx} {p : Qt}
theorem vals_hold {ns : List Int} : ∀ {us : List Value} (h : Heap), Vals (ns.map V.int) us → HoldAll h us ns := by
  induction ns with
  | nil =>
    intro us h r
    cases r
    exact ⟨[], .nil⟩
  | cons n ns ih =>
    intro us h r
    cases r with
    | cons r1 r2 =>
      obtain ⟨t, rfl⟩ := r1
      obtain ⟨as, q⟩ := ih h r2
      exact ⟨[] ++ as, .cons (.int n t) q⟩
theorem maxOf_eq (n : Int) (ns : List Int) : maxOf n ns = maxL n ns := by
  unfold maxOf
  induction ns generalizing n with
  | nil => rfl
  | cons m ns ih =>
    show List.foldl _ (if DatumOrd.lt n m = true then m else n) ns = maxL (max n m) ns
    have e : (if DatumOrd.lt n m = true then m else n) = max n m := by
      show (if decide (n < m) = true then m else n) = max n m
      by_cases c : n < m
      · rw [if_pos (decide_eq_true c), Int.max_eq_right (by omega)]
      · rw [if_neg (by simpa using c), Int.max_eq_left (by omega)]
    rw [e]
    exact ih _
theorem minOf_eq (n : Int) (ns : List Int) : minOf n ns = minL n ns := by
  unfold minOf
  induction ns generalizing n with
  | nil => rfl
  | cons m ns ih =>
    show List.foldl _ (if DatumOrd.lt m n = true then m else n) ns = minL (min n m) ns
    have e : (if DatumOrd.lt m n = true then m else n) = min n m := by
      show (if decide (m < n) = true then m else n) = min n m
      by_cases c : m < n
      · rw [if_pos (decide_eq_true c), Int.min_eq_right (by omega)]
      · rw [if_neg (by simpa using c), Int.min_eq_left (by omega)]
    rw [e]
    exact ih _
theorem cr_maxT (hc : X.calm = true) (hu : X.A.units + 65 < cLine) : CallR X (.builtin "max") (fun xs H Q => ∃ (a : Addr) (n : Int) (ns : List Int), xs = [V.ref a] ∧ SqT X.K H a ((n :: ns).map V.int) ∧ Q (.int (maxL n ns)) H) := by
  intro pins s σ H vs us Q I r h
  obtain ⟨a, n, ns, rfl, hs, q⟩ := h
  obtain ⟨its, rv, hl, _⟩ := I.tuple hs
  rw [Vals.ref1 r]
  refine max_tuple_datum (α := Int) (I.ok.hd hc) hl (vals_hold s.heap rv) (by show X.A.units + 1 + 0 < cLine; omega) fun i v h' tk _ hv hk => ?_
  obtain ⟨as, hv⟩ := hv
  cases hv
  exact ⟨.int _, H, I.kept hk, ⟨_, rfl⟩, by rw [maxOf_eq]; exact q⟩
theorem cr_minT (hc : X.calm = true) (hu : X.A.units + 65 < cLine) : CallR X (.builtin "min") (fun xs H Q => ∃ (a : Addr) (n : Int) (ns : List Int), xs = [V.ref a] ∧ SqT X.K H a ((n :: ns).map V.int) ∧ Q (.int (minL n ns)) H) := by
  intro pins s σ H vs us Q I r h
  obtain ⟨a, n, ns, rfl, hs, q⟩ := h
  obtain ⟨its, rv, hl, _⟩ := I.tuple hs
  rw [Vals.ref1 r]
  refine min_tuple_datum (α := Int) (I.ok.hd hc) hl (vals_hold s.heap rv) (by show X.A.units + 1 + 0 < cLine; omega) fun i v h' tk _ hv hk => ?_
  obtain ⟨as, hv⟩ := hv
  cases hv
  exact ⟨.int _, H, I.kept hk, ⟨_, rfl⟩, by rw [minOf_eq]; exact q⟩
def cMaxT : List D → (D → Prop) → Prop := fun xs R => match xs with
  | [.int i, .int j] => R (.int (max i j))
  | [.lst l] => match intsOf l with
    | some (n :: ns) => R (.int (maxL n ns))
    | _ => False
  | [.tup l] => match intsOf l with
    | some (n :: ns) => R (.int (maxL n ns))
    | _ => False
  | _ => False
def cMinT : List D → (D → Prop) → Prop := fun xs R => match xs with
  | [.int i, .int j] => R (.int (min i j))
  | [.lst l] => match intsOf l with
    | some (n :: ns) => R (.int (minL n ns))
    | _ => False
  | [.tup l] => match intsOf l with
    | some (n :: ns) => R (.int (minL n ns))
    | _ => False
  | _ => False
theorem cd_maxT (hc : X.calm = true) (hu : X.A.units + 65 < cLine) : CallD X p (.builtin "max") cMaxT := by
  obtain ⟨r, h1, h2⟩ := cd_max (X := X) (p := p) hc
  refine ⟨_, h1.or (cr_maxT hc hu), fun F H xs vs Q R pk ix hh q => ?_⟩
  unfold cMaxT at hh
  split at hh
  · exact .inl (h2 F H _ vs Q R pk ix hh q)
  · exact .inl (h2 F H _ vs Q R pk ix hh q)
  · split at hh
    · rename_i l n ns e
      cases ix with
      | cons i1 i2 =>
        cases i2
        cases i1 with
        | tup hs hn hl =>
          rw [intsOf_eq e] at hl
          rw [hl.ints] at hs
          exact .inr ⟨_, n, ns, rfl, hs, q _ _ H (.refl pk.pk) (.int _) hh⟩
    · exact hh.elim
  · exact hh.elim
theorem cd_minT (hc : X.calm = true) (hu : X.A.units + 65 < cLine) : CallD X p (.builtin "min") cMinT := by
  obtain ⟨r, h1, h2⟩ := cd_min (X := X) (p := p) hc
  refine ⟨_, h1.or (cr_minT hc hu), fun F H xs vs Q R pk ix hh q => ?_⟩
  unfold cMinT at hh
  split at hh
  · exact .inl (h2 F H _ vs Q R pk ix hh q)
  · exact .inl (h2 F H _ vs Q R pk ix hh q)
  · split at hh
    · rename_i l n ns e
      cases ix with
      | cons i1 i2 =>
        cases i2
        cases i1 with
        | tup hs hn hl =>
          rw [intsOf_eq e] at hl
          rw [hl.ints] at hs
          exact .inr ⟨_, n, ns, rfl, hs, q _ _ H (.refl pk.pk) (.int _) hh⟩
    · exact hh.elim
  · exact hh.elim
abbrev gModN := gIIc (fun _ j => j ≠ 0) fun i j => .int (i.fmod j)
theorem opd_modN : OpD X p (binaryOp .Mod) gModN := opd_I op_modN (fun _ _ h => h) fun _ _ _ _ _ => .int _
/-- x += e, x -= e, of ints -/
def dAug (i : Nat) (f : Int → Int → Int) (d : DE) : DS := fun E τ => match τ[i]? with
  | some (some (.int a)) => d τ fun y => match y with
    | .int b => E.nx (τ.set i (some (.int (f a b))))
    | _ => False
  | _ => False
theorem pds_aug {i : Nat} {x : Str} {e : Expr} {d : DE} {op : Operator} {f : Int → Int → Int} {pos pos' : Pos} (hN : X.N.Nodup) (hi : X.N[i]? = some x) (hx : Loc X.env.scope x) (ho : PIp X op (ipI f)) (he : PD X p e d) (hf : X.fn x = true ∨ X.env.scope.names.lookup x = some .local := by first | exact .inl rfl | exact .inr rfl | assumption) :
    PDS X p (.AugAssign (.Name x pos') op e pos) (dAug i f d) := by
  obtain ⟨t, h1, h2⟩ := he.run
  refine ⟨_, ps_aug hN hi hx h1 ho hf, fun g F σ H τ E E' rel h ag => ?_⟩
  unfold dAug at h
  split at h
  · rename_i a ht
    obtain ⟨v, s1, s2⟩ := rel.sl i _ ht rfl
    cases s2
    refine ⟨_, s1, h2 g F σ H τ _ _ rel h fun y w H1 e1 i1 h1 => ?_⟩
    cases i1 with
    | int b => exact ⟨_, _, rfl, rfl, ag.nx F _ H1 _ ((rel.st e1).set (.int _)) h1⟩
    | _ => exact (show False from h1).elim
  · exact h.elim
end
end DL
/-! The top's functions as values: read, compared, called by a local name; range with a step. -/
namespace DL
open PySem PySem.Spec L2
open PyProof.Rows hiding St

/-! ### functions compared -/
theorem fnSlot : Slot "function" "__eq__" "object.__eq__" := by
  refine Slot.of (owner := "object") (n := "__eq__") ?_ (by decide +kernel) (by decide +kernel) (by decide +kernel) ?_ ?_
  · rw [typeLookup_type, builtinLookup_eq_fast]
    kernel_rfl
  · first
      | exact .inl (by decide +kernel)
      | exact .inr (by decide +kernel)
  · rw [isSubtype_type]
    kernel_rfl
theorem fnIsObj {M : Model} {h : Heap} : PySem.W.Looks M h (isSubtype (.type "function") (.type "object")) true := by
  rw [isSubtype_type]
  exact PySem.W.Looks.of_pure (by kernel_rfl)
section
variable {prog : Program} {w : World} {A : Around} {E : Value → Shared → Prop} {s : Shared} {f g : Addr} {of og : Obj}
theorem fnCallEq (hf : s.heap.get? f = some of) (cf : of.cls = .type "function") (hg : s.heap.get? g = some og) {Q : Value → Shared → Prop}
    (q : Q (if f = g then .bool true else .notImplemented) s) : wpAny (model prog w) A (call (.builtin "object.__eq__") [.ref f, .ref g]) Q E s := by
  have lt : PySem.W.Looks (model prog w) s.heap (typeOf (.ref f)) (.type "function") := fun A Q E s' k q' => wpAny_typeOf_ref (k _ _ hf) (by rw [cf]; exact q')
  refine wpAny_call (codeAny_call_builtin fnSlot.plain F.cmpEntry_eq ?_)
  refine @PySem.W.check_slot (model prog w) _ _ s "object.__eq__" "object" "__eq__" (.ref f) [.ref g] [] _ F.cmpKind_eq F.cmpSplit_eq (lt.andThen fnIsObj) (F.cmpArgs_eq _ _) ?_
  by_cases e : f = g
  · subst e
    rw [if_pos rfl] at q
    exact objEq_entry_same q
  · rw [if_neg e] at q
    exact objEq_entry_other e hf hg (by rw [cf]; intro z; injection z with z; exact absurd z (by decide)) q
theorem fnEq (hf : s.heap.get? f = some of) (cf : of.cls = .type "function") (hg : s.heap.get? g = some og) (cg : og.cls = .type "function") (hu : A.units < cLine) {Q : Value → Shared → Prop}
    (q : Q (.bool (decide (f = g))) s) : wpAny (model prog w) A (richCompare .Eq (.ref f) (.ref g)) Q E s := by
  have ta : s.TypeIs (.ref f) "function" := ⟨_, hf, cf⟩
  have tb : s.TypeIs (.ref g) "function" := ⟨_, hg, cg⟩
  have sl := fnSlot
  simp only [richCompare, cmpInfo_Eq, ta.oneThing_none]
  try with_reducible refine wpAny_holding ?_
  refine wpAny_bind (wpAny_cRoomFor hu ?_)
  refine wpAny_bind (wpAny_typeOf ta (wpAny_bind (wpAny_typeOf tb ?_)))
  rw [if_neg (by simp)]
  refine wpAny_bind (wpAny_pure ?_)
  simp only [Bool.false_eq_true, if_false, Bool.not_false, if_true]
  by_cases e : f = g
  · rw [decide_eq_true e] at q
    refine wpAny_bind (wpAny_tryCompare_slot ta sl (fnCallEq hf cf hg ?_))
    rw [if_pos e]
    exact ⟨fun z => (nomatch z), wpAny_pure q⟩
  · rw [decide_eq_false e] at q
    refine wpAny_bind (wpAny_tryCompare_declines ta sl (fnCallEq hf cf hg ?_))
    rw [if_neg e]
    refine ⟨rfl, ?_⟩
    refine wpAny_bind (wpAny_tryCompare_declines tb sl (fnCallEq hg cg hf ?_))
    rw [if_neg (fun z => e z.symm)]
    refine ⟨rfl, ?_⟩
    exact wpAny_bind (wpAny_rule (wpAny_bind (wpAny_isSame_ref_other e hf hg (by rw [cf]; intro z; injection z with z; exact absurd z (by decide)) (wpAny_pure q))))
end
/-- x is a def of the top -/
def FnAt (K : PySem.W.Frag) (tf : Tf) (x : Str) : Prop := ∃ (f : Addr) (od : Option Addr) (fd : FuncData) (sl : Array (Option Value)), tf.fns x = some (.ref f) ∧ K.lookup f = some ⟨.type "function", od, .func fd, sl⟩ ∧ fd.name = x
/-- x == y: defs of the top, and all that gEq has -/
def gEqF (L : List Str) : D → D → (D → Prop) → Prop := fun x y R => match x, y with
  | .fn x, .fn y => (x ∈ L ∧ y ∈ L) ∧ R (.bl (decide (x = y)))
  | x, y => gEq x y R
section
variable {X : Cx} {p : Qt}
def rFnEq (K : PySem.W.Frag) : R2 := fun v u H Q => ∃ (f g : Addr) (of og : Obj), v = .ref f ∧ u = .ref g ∧ K.lookup f = some of ∧ of.cls = .type "function" ∧ K.lookup g = some og ∧ og.cls = .type "function" ∧ Q (.bl (decide (f = g))) H
theorem op_fnEq (hu : X.A.units + 64 < cLine) : OpR X (compareOp .Eq) (rFnEq X.K) := by
  intro pins s σ H x y v u Q I rx ry h
  obtain ⟨f, g, of, og, rfl, rfl, lf, cf, lg, cg, q⟩ := h
  cases rx
  cases ry
  exact fnEq (I.kIn _ _ lf) cf (I.kIn _ _ lg) cg (by omega) ⟨.bl _, H, I, rfl, q⟩
theorem opd_eqF {L : List Str} (hL : ∀ x ∈ L, FnAt X.K p.tf x) (hu : X.A.units + 64 < cLine) : OpD X p (compareOp .Eq) (gEqF L) := by
  obtain ⟨r, h1, h2⟩ := opd_eq (X := X) (p := p) hu
  refine ⟨_, h1.or (op_fnEq hu), fun F H x y v u Q R pk ix iy hh q => ?_⟩
  unfold gEqF at hh
  split at hh
  · rename_i a b
    obtain ⟨⟨ha, hb⟩, hR⟩ := hh
    obtain ⟨f, od, fd, sl, f1, f2, f3⟩ := hL _ ha
    obtain ⟨g, od', fd', sl', g1, g2, g3⟩ := hL _ hb
    cases ix with
    | fn e1 =>
      cases iy with
      | fn e2 =>
        rw [f1] at e1
        rw [g1] at e2
        cases e1
        cases e2
        refine .inr ⟨f, g, _, _, rfl, rfl, f2, rfl, g2, rfl, ?_⟩
        have e : decide (f = g) = decide (a = b) := by
          by_cases c : a = b
          · subst c
            rw [f1] at g1
            cases g1
            simp
          · rw [decide_eq_false c]
            refine decide_eq_false fun z => ?_
            subst z
            rw [f2] at g2
            cases g2
            exact c (f3.symm.trans g3)
        rw [e]
        exact q _ _ H (.refl pk.pk) (.bl _) hR
  · exact .inl (h2 F H _ _ v u Q R pk ix iy hh q)
/-- a def's name as a value -/
theorem pd_fn {x : Str} {f : Addr} {pos : Pos} (hf : p.tf.fns = X.mg) (hm : X.mg x = some (.ref f)) (hg : Gl X x := by rfl) (hd : (x == ("__debug__" : Str)) = false := by decide) : PD X p (.Name x pos) (dC (.fn x)) :=
  ⟨_, pe_glob (v := .ref f) hg hm rfl hd, fun g0 F σ H τ Q R rel h q => q _ _ H (.refl rel.pk) (.fn (by rw [hf]; exact hm)) h⟩
theorem pd_fnC {x : Str} {j n : Nat} {ps : List Str} {kb : List (List Str × Nat × List Nat)} {sp : SpD} {pos : Pos} (C : Cal X.prog X.w X.K X.mg X.base p.tf x j n ps kb sp) (hf : p.tf.fns = X.mg) (hg : Gl X x := by rfl) (hd : (x == ("__debug__" : Str)) = false := by decide) : PD X p (.Name x pos) (dC (.fn x)) := by
  obtain ⟨f, fd, F, hm, _⟩ := C.ex
  exact pd_fn hf hm hg hd

/-! ### a local name that holds a def, called -/
inductive CalT (P : Program) (w : World) (K : PySem.W.Frag) (mg : Str → Option Value) (base : Heap) (tf : Tf) (k n : Nat) : List (Str × SpD) → Prop
  | nil : CalT P w K mg base tf k n []
  | cons {x : Str} {j : Nat} {ps : List Str} {kb : List (List Str × Nat × List Nat)} {sp : SpD} {l : List (Str × SpD)} (C : Cal P w K mg base tf x j n ps kb sp) (hj : j ≤ k) (r : CalT P w K mg base tf k n l) : CalT P w K mg base tf k n ((x, sp) :: l)
/-- what is promised of the def named x -/
def spOf (S : List (Str × SpD)) (x : Str) : SpD := fun ds R => match S with
  | [] => False
  | (y, sp) :: l => if x = y then sp ds R else spOf l x ds R
def dCallV (i : Nat) (S : List (Str × SpD)) (t : DA) : DE := fun τ R => match τ[i]? with
  | some (some (.fn x)) => x ∈ S.map (·.1) ∧ t τ fun xs => spOf S x xs R
  | _ => False
theorem CalT.run {S : List (Str × SpD)} {k n : Nat} (C : CalT X.prog X.w X.K X.mg X.base p.tf k n S) (hf : p.tf.fns = X.mg) (hgu : X.A.guards = some []) (hr : Room k X.A) {x : Str} {f : Addr} (ht : p.tf.fns x = some (.ref f)) {pins : List (Addr × Obj)} {σ : L2.St} {H : Hp} {s : Shared} {Q : VK} {us : List Value} {vs : List V}
    (I : Inv X pins σ H s) (r : Vals vs us) (h : toSp X.K p.tf n (spOf S x) vs H Q fun _ _ _ => False) : PySem.W.keepIn X.K (.ref f) = true ∧ wpAny (model X.prog X.w) X.A (call (.ref f) us []) (EP X pins σ Q) X.xe s := by
  induction C with
  | nil =>
    obtain ⟨_, _, _, _, _, _, _, z, _⟩ := h
    exact z.elim
  | @cons y j ps kb sp l C hj _ ih =>
    by_cases e : x = y
    · subst e
      obtain ⟨g, fd, F, hm, hk, hb, _⟩ := C.ex
      rw [hf, hm] at ht
      cases ht
      have h' : toSp X.K p.tf n sp vs H Q fun _ _ _ => False := by
        obtain ⟨hl, pot, Fb, ds, R, pk, is, z, q⟩ := h
        refine ⟨hl, pot, Fb, ds, R, pk, is, ?_, q⟩
        unfold spOf at z
        rw [if_pos rfl] at z
        exact z
      refine ⟨hk, ?_⟩
      have hl : (us ++ []).length = ps.length := by rw [List.append_nil, ← r.length]; exact F.len _ _ _ _ h'
      have b := hb s us I.kIn hl
      rw [List.append_nil] at b
      exact goG (args := ⟨us, []⟩) (F.weak hj) hgu hr pass0 I b r h'
    · refine ih ?_
      obtain ⟨hl, pot, Fb, ds, R, pk, is, z, q⟩ := h
      refine ⟨hl, pot, Fb, ds, R, pk, is, ?_, q⟩
      unfold spOf at z
      rw [if_neg e] at z
      exact z
/-- the defs of the table stand in the written part -/
theorem CalT.keepN {S : List (Str × SpD)} {k n : Nat} (C : CalT X.prog X.w X.K X.mg X.base p.tf k n S) (hf : p.tf.fns = X.mg) {x : Str} {f : Addr} (ht : p.tf.fns x = some (.ref f)) (h : x ∈ S.map (·.1)) : PySem.W.keepIn X.K (.ref f) = true := by
  induction C with
  | nil => cases h
  | @cons y j ps kb sp l C hj _ ih =>
    by_cases e : x = y
    · subst e
      obtain ⟨g, fd, F, hm, hk, hb, _⟩ := C.ex
      rw [hf, hm] at ht
      cases ht
      exact hk
    · refine ih ?_
      rcases List.mem_cons.mp h with z | z
      · exact absurd z e
      · exact z
theorem pd_callV {S : List (Str × SpD)} {k n i : Nat} {x : Str} {q pos : Pos} {e : Expr} {es : List Expr} {ds : DA} (C : CalT X.prog X.w X.K X.mg X.base p.tf k n S) (hf : p.tf.fns = X.mg) (hgu : X.A.guards = some []) (hr : Room k X.A) (ha : PDA X p (e :: es) ds)
    (hN : X.N[i]? = some x := by rfl) (hv : Vis X.env.scope x := by first | exact Or.inl rfl | exact Or.inr (Or.inl rfl) | exact Or.inr (Or.inr rfl)) (hn : (e :: es).length = n := by rfl) (hd : (x == ("__debug__" : Str)) = false := by decide) (hcd : (x == ("__classdict__" : Str)) = false := by decide)
    (he : starEach (e :: es) X.env = (false, eval e X.env) :: starEach es X.env := by rfl) (hpl : (backTo pos (starEach es X.env)).any (·.1) = false := by rfl) : PD X p (.Call (.Name x q) (e :: es) [] pos) (dCallV i S ds) := by
  obtain ⟨t, h1, h2⟩ := ha.run
  refine ⟨fun σ H Q => ∃ (y : Str) (f : Addr), σ[i]? = some (some (.ref f)) ∧ p.tf.fns y = some (.ref f) ∧ y ∈ S.map (·.1) ∧ t σ H fun vs H1 => toSp X.K p.tf n (spOf S y) vs H1 Q fun _ _ _ => False, ⟨fun pins s σ H Q I h => ?_⟩, fun g0 F σ H τ Q R rel h qq => ?_⟩
  · obtain ⟨y, f, hs, ht, hy, hq⟩ := h
    refine wpAny_Call_Name_kw (thn ((pe_var (pos := q) hN hv hd hcd).run pins s σ H (fun v H1 => v = .ref f ∧ H1 = H) I ⟨.ref f, hs, rfl, rfl⟩) ?_)
    rintro u s1 ⟨v, H1, I1, r1, rfl, rfl⟩
    cases r1
    refine PySem.W.callWith_K (h₀ := X.base) I.ok.mod.kin (C.keepN hf ht hy) (thn (h1.run pos pins s1 σ _ _ I1 hq) ?_) he hpl
    rintro us s2 ⟨vs, H2, I2, r, z⟩
    exact ⟨I2.kIn, (C.run hf hgu hr ht I2 r z).2⟩
  · unfold dCallV at h
    split at h
    · rename_i y hy
      obtain ⟨v, s1, s2⟩ := rel.sl i _ hy rfl
      cases s2 with
      | fn e =>
        refine ⟨y, _, s1, e, h.1, h2 g0 F σ H τ _ _ rel h.2 fun xs vs H1 e1 i1 l1 z => ?_⟩
        exact ⟨by rw [l1]; exact hn, p.pot, F, xs, R, (rel.st e1).pkf, i1, z, fun z v' H' e i r => qq z v' H' (e1.trans e) i r⟩
    · exact h.elim

/-! ### range with a step -/
/-- lo, lo + c, .. -/
def rngC (lo c : Int) (n : Nat) : List D := (List.range n).map fun (k : Nat) => D.int (lo + (k : Int) * c)
theorem rngC_get {lo c : Int} {n i : Nat} (h : i < n) : (rngC lo c n)[i]? = some (.int (lo + i * c)) := by simp [rngC, h]
theorem wd_rngC {K : PySem.W.Frag} {F : List Addr} {H : Hp} {lo c : Int} {n : Nat} : WD K p F (Itc lo c n) H (rngC lo c n) := by
  have hl : (rngC lo c n).length = n := by simp [rngC]
  refine ⟨fun i H' F' e k pk hi => ?_, fun H' e => by rw [hl]; exact Nat.le_refl _⟩
  rw [hl] at hi
  refine ⟨hi, fun x H2 y => ?_⟩
  obtain ⟨rfl, rfl⟩ := y
  exact ⟨.refl e.pk, _, rngC_get hi, .int _⟩
/-- downwards -/
def dRgN (d : DA) : DI := fun τ R => d τ fun xs => match xs with
  | [.int i, .int j, .int (-1)] => (-(2 ^ 62) ≤ i ∧ i < 2 ^ 62 ∧ -(2 ^ 62) ≤ j ∧ j < 2 ^ 62) ∧ R (rngC i (-1) (i - j).toNat)
  | _ => False
theorem pdi_rgN {tg a b c : Expr} {q pos : Pos} {d : DA} (hm : X.mg "range" = none) (ha : PDA X p [a, b, c] d) (hg : Gl X "range" := by rfl) (he : starEach [a, b, c] X.env = (false, eval a X.env) :: starEach [b, c] X.env := by rfl) (hpl : (backTo pos (starEach [b, c] X.env)).any (·.1) = false := by rfl) : PDI X p tg (.Call (.Name "range" q) [a, b, c] [] pos) (dRgN d) := by
  obtain ⟨t, h1, h2⟩ := ha.run
  refine ⟨_, pi_range3 hg hm h1 he hpl, fun g F σ H τ Rw R rel hd q => ?_⟩
  refine h2 g F σ H τ _ _ rel hd fun xs vs H1 e1 i1 l1 h1 => ?_
  split at h1
  · cases i1 with
    | cons i1 i2 =>
      cases i2 with
      | cons i2 i3 =>
        cases i3 with
        | cons i3 i4 =>
          cases i4
          cases i1
          cases i2
          cases i3
          exact ⟨_, _, _, _, rfl, RgC.neg h1.1.1 h1.1.2.1 h1.1.2.2.1 h1.1.2.2.2, q _ H1 _ e1 wd_rngC h1.2⟩
  · exact h1.elim
end
end DL
/-! Ratios in lowest terms as rational numbers; sizes by bits. -/
namespace DL
open PySem PySem.Spec L2
open PyProof.Rows hiding St

/-! ### sizes -/
structure Big (a : Nat) (i : Int) : Prop where
  lt : i.natAbs < 2 ^ a
section
variable {a b : Nat} {i j : Int}
theorem Big.mono (h : Big a i) (l : a ≤ b) : Big b i := ⟨Nat.lt_of_lt_of_le h.lt (Nat.pow_le_pow_right (by decide) l)⟩
theorem Big.neg (h : Big a i) : Big a (-i) := ⟨by rw [Int.natAbs_neg]; exact h.lt⟩
theorem Big.abs (h : Big a i) : Big a (i.natAbs : Int) := ⟨by rw [Int.natAbs_natCast]; exact h.lt⟩
theorem Big.mul (h : Big a i) (k : Big b j) : Big (a + b) (i * j) := ⟨by
  rw [Int.natAbs_mul, Nat.pow_add]
  exact Nat.mul_lt_mul'' h.lt k.lt⟩
theorem Big.add (h : Big a i) (k : Big b j) : Big (max a b + 1) (i + j) := ⟨by
  have h1 := (h.mono (Nat.le_max_left a b)).lt
  have h2 := (k.mono (Nat.le_max_right a b)).lt
  have h3 := Int.natAbs_add_le i j
  rw [Nat.pow_succ]
  omega⟩
theorem Big.sub (h : Big a i) (k : Big b j) : Big (max a b + 1) (i - j) := by
  rw [Int.sub_eq_add_neg]
  exact h.add k.neg
theorem Big.div (h : Big a i) : Big a (i / j) := ⟨Nat.lt_of_le_of_lt (Int.natAbs_ediv_le_natAbs i j) h.lt⟩
theorem Big.of_le (h : Big a i) (l : j.natAbs ≤ i.natAbs) : Big a j := ⟨Nat.lt_of_le_of_lt l h.lt⟩
theorem Big.one : Big 1 1 := ⟨by decide⟩
theorem Big.zero : Big a 0 := ⟨Nat.two_pow_pos a⟩
theorem Big.of (h : i.natAbs < 2 ^ a) : Big a i := ⟨h⟩
theorem Big.pow (h : Big a i) : ∀ n : Nat, Big (a * n + 1) (i ^ n)
  | 0 => by rw [Int.pow_zero]; exact Big.one.mono (by omega)
  | n + 1 => by
    rw [Int.pow_succ]
    refine ⟨?_⟩
    have h1 := (Big.pow h n).lt
    have h2 := h.lt
    rw [Int.natAbs_mul]
    have e : 2 ^ (a * (n + 1) + 1) = 2 ^ (a * n + 1) * 2 ^ a := by rw [← Nat.pow_add]; congr 1; rw [Nat.mul_succ]; omega
    rw [e]
    exact Nat.mul_lt_mul'' h1 h2
theorem MulC.big (h : Big a i) (k : Big b j) (l : a + b ≤ 900000) : MulC i j := by
  refine ⟨CMulW.ok (wide_mul (h.mono (Nat.le_succ a)).lt (k.mono (Nat.le_succ b)).lt (by omega) (by omega) (by omega))⟩
theorem BD.big (h0 : 0 < j) (h : Big a j) (l : a ≤ 8980) : BD j := ⟨h0, Nat.lt_of_lt_of_le (PySem.Flt.log2_lt_of (by omega) (h.mono (Nat.le_succ a)).lt) (by omega)⟩
theorem Big.log (h : Big a i) : i.natAbs.log2 < a + 1 := PySem.Flt.log2_lt_of (by omega) (h.mono (Nat.le_succ a)).lt
end

/-! ### ratios -/
/-- a ratio in lowest terms, by its value -/
def rd (x : Rat) : D := .tup [.int x.num, .int (x.den : Int)]
structure Sz (a : Nat) (x : Rat) : Prop where
  n : Big a x.num
  d : Big a (x.den : Int)
theorem den_pos (x : Rat) : 0 < (x.den : Int) := by have := x.den_pos; omega
theorem val_eq (x : Rat) : x = (x.num : Rat) / ((x.den : Int) : Rat) := by
  rw [← Rat.divInt_eq_div]
  exact (Rat.num_divInt_den x).symm
theorem rd_inj {x y : Rat} (h : rd x = rd y) : x = y := by
  unfold rd at h
  injection h with h
  injection h with h1 h
  injection h with h2 _
  injection h1 with h1
  injection h2 with h2
  exact Rat.ext h1 (by omega)
/-- a fraction, in lowest terms -/
theorem frac_num {n u : Int} (h : 0 < u) : ((n : Rat) / (u : Rat)).num = n / (Nat.gcd n.natAbs u.natAbs : Int) := by
  rw [← Rat.divInt_eq_div, Rat.num_divInt, Int.sign_eq_one_of_pos h, Int.one_mul, Int.gcd_comm]
  rfl
theorem frac_den {n u : Int} (h : 0 < u) : (((n : Rat) / (u : Rat)).den : Int) = u / (Nat.gcd n.natAbs u.natAbs : Int) := by
  rw [← Rat.divInt_eq_div, Rat.den_divInt, if_neg (by omega), Int.gcd_comm]
  show ((u.natAbs / Nat.gcd n.natAbs u.natAbs : Nat) : Int) = _
  rw [Int.natCast_ediv]
  congr 1
  omega
theorem frac_flip (n u : Int) : ((-n : Int) : Rat) / ((-u : Int) : Rat) = (n : Rat) / (u : Rat) := by
  rw [← Rat.divInt_eq_div, ← Rat.divInt_eq_div, Rat.neg_divInt_neg]
theorem gcdBD {n u : Int} {a : Nat} (h : u ≠ 0) (k : Big a u) (c : a ≤ 8900) : BD (Nat.gcd n.natAbs u.natAbs : Int) := by
  refine BD.big ?_ (k.of_le ?_) (show a ≤ 8980 by omega)
  · have := Nat.gcd_pos_of_pos_right n.natAbs (show 0 < u.natAbs by omega)
    omega
  · rw [Int.natAbs_natCast]
    exact Nat.gcd_le_right _ (by omega)
theorem rd_frac {n u : Int} (h : 0 < u) : rd ((n : Rat) / (u : Rat)) = .tup [.int (n / (Nat.gcd n.natAbs u.natAbs : Int)), .int (u / (Nat.gcd n.natAbs u.natAbs : Int))] := by
  unfold rd
  rw [frac_num h, frac_den h]
section
variable {a b : Nat} {x y : Rat}
theorem Sz.mono (h : Sz a x) (l : a ≤ b) : Sz b x := ⟨h.n.mono l, h.d.mono l⟩
theorem Sz.of_frac {n u : Int} (h : 0 < u) (hn : Big a n) (hu : Big a u) : Sz a ((n : Rat) / (u : Rat)) := ⟨by rw [frac_num h]; exact hn.div, by rw [frac_den h]; exact hu.div⟩
theorem add_frac (x y : Rat) : x + y = ((x.num * y.den + y.num * x.den : Int) : Rat) / ((x.den * y.den : Int) : Rat) := by
  have h1 : ((x.den : Int) : Rat) ≠ 0 := by have := den_pos x; exact_mod_cast (show (x.den : Int) ≠ 0 by omega)
  have h2 : ((y.den : Int) : Rat) ≠ 0 := by have := den_pos y; exact_mod_cast (show (y.den : Int) ≠ 0 by omega)
  have e1 := val_eq x
  have e2 := val_eq y
  rw [Rat.intCast_add, Rat.intCast_mul, Rat.intCast_mul, Rat.intCast_mul]
  grind
theorem mul_frac (x y : Rat) : x * y = ((x.num * y.num : Int) : Rat) / ((x.den * y.den : Int) : Rat) := by
  have h1 : ((x.den : Int) : Rat) ≠ 0 := by have := den_pos x; exact_mod_cast (show (x.den : Int) ≠ 0 by omega)
  have h2 : ((y.den : Int) : Rat) ≠ 0 := by have := den_pos y; exact_mod_cast (show (y.den : Int) ≠ 0 by omega)
  have e1 := val_eq x
  have e2 := val_eq y
  rw [Rat.intCast_mul, Rat.intCast_mul]
  grind
theorem div_frac (x y : Rat) (h : y ≠ 0) : x / y = ((x.num * y.den : Int) : Rat) / ((x.den * y.num : Int) : Rat) := by
  have h1 : ((x.den : Int) : Rat) ≠ 0 := by have := den_pos x; exact_mod_cast (show (x.den : Int) ≠ 0 by omega)
  have h2 : ((y.den : Int) : Rat) ≠ 0 := by have := den_pos y; exact_mod_cast (show (y.den : Int) ≠ 0 by omega)
  have h3 : ((y.num : Int) : Rat) ≠ 0 := by
    intro z
    apply h
    have : y.num = 0 := by exact_mod_cast z
    exact Rat.num_eq_zero.mp this
  have e1 := val_eq x
  have e2 := val_eq y
  rw [Rat.intCast_mul, Rat.intCast_mul]
  grind
theorem Sz.add (h : Sz a x) (k : Sz b y) : Sz (a + b + 1) (x + y) := by
  rw [add_frac]
  refine Sz.of_frac (Int.mul_pos (den_pos x) (den_pos y)) ?_ ((h.d.mul k.d).mono (by omega))
  exact ((h.n.mul k.d).add (k.n.mul h.d)).mono (by omega)
theorem Sz.neg (h : Sz a x) : Sz a (-x) := ⟨by rw [Rat.neg_num]; exact h.n.neg, by rw [Rat.neg_den]; exact h.d⟩
theorem Sz.sub (h : Sz a x) (k : Sz b y) : Sz (a + b + 1) (x - y) := by
  rw [Rat.sub_eq_add_neg]
  exact h.add k.neg
theorem Sz.mul (h : Sz a x) (k : Sz b y) : Sz (a + b) (x * y) := by
  rw [mul_frac]
  exact Sz.of_frac (Int.mul_pos (den_pos x) (den_pos y)) (h.n.mul k.n) (h.d.mul k.d)
theorem Sz.zero : Sz 1 0 := ⟨Big.zero, Big.one⟩
theorem Sz.one : Sz 1 1 := ⟨Big.one, Big.one⟩
end
/-- of whole numbers -/
theorem rat_int (x : Rat) (h : (x.den : Int) = 1) : x = (x.num : Rat) := by
  have e := val_eq x
  rw [h] at e
  have e1 : ((1 : Int) : Rat) = 1 := rfl
  rw [e1] at e
  grind
theorem rd_of_int (n : Int) : rd (n : Rat) = .tup [.int n, .int 1] := rfl
/-- the value of a pair -/
def vl (q : Int × Int) : Rat := (q.1 : Rat) / (q.2 : Rat)
theorem vl_rd (x : Rat) : vl (x.num, (x.den : Int)) = x := (val_eq x).symm
theorem vl_eq {p q : Int × Int} (hp : 0 < p.2) (hq : 0 < q.2) : vl p = vl q ↔ p.1 * q.2 = q.1 * p.2 := by
  unfold vl
  rw [← Rat.divInt_eq_div, ← Rat.divInt_eq_div, Rat.divInt_eq_divInt_iff (by omega) (by omega)]
theorem vl_nonneg {p : Int × Int} (hp : 0 < p.2) : 0 ≤ vl p ↔ 0 ≤ p.1 := by
  unfold vl
  rw [← Rat.divInt_eq_div, Rat.divInt_nonneg_iff_of_pos_right hp]
section
variable {p q : Int × Int}
theorem ratNe {d : Int} (h : 0 < d) : (d : Rat) ≠ 0 := by exact_mod_cast (show d ≠ 0 by omega)
theorem vl_add (hp : 0 < p.2) (hq : 0 < q.2) : vl (p.1 * q.2 + q.1 * p.2, p.2 * q.2) = vl p + vl q := by
  have h1 := ratNe hp
  have h2 := ratNe hq
  unfold vl
  show (((p.1 * q.2 + q.1 * p.2 : Int) : Rat)) / ((p.2 * q.2 : Int) : Rat) = _
  rw [Rat.intCast_add, Rat.intCast_mul, Rat.intCast_mul, Rat.intCast_mul]
  grind
theorem vl_sub (hp : 0 < p.2) (hq : 0 < q.2) : vl (p.1 * q.2 - q.1 * p.2, p.2 * q.2) = vl p - vl q := by
  have h1 := ratNe hp
  have h2 := ratNe hq
  unfold vl
  show (((p.1 * q.2 - q.1 * p.2 : Int) : Rat)) / ((p.2 * q.2 : Int) : Rat) = _
  rw [Rat.intCast_sub, Rat.intCast_mul, Rat.intCast_mul, Rat.intCast_mul]
  grind
theorem vl_mul (hp : 0 < p.2) (hq : 0 < q.2) : vl (p.1 * q.1, p.2 * q.2) = vl p * vl q := by
  have h1 := ratNe hp
  have h2 := ratNe hq
  unfold vl
  show (((p.1 * q.1 : Int) : Rat)) / ((p.2 * q.2 : Int) : Rat) = _
  rw [Rat.intCast_mul, Rat.intCast_mul]
  grind
end
end DL
namespace LW
open PySem PySem.Spec L2 DL
open PyProof.Rows hiding St
def top (i : Nat) : Stmt := PySem.Challenge.pw_truecourse_k31_whole_sums_with_rests.main.body.getD i (.Pass ⟨0, 0, 0, 0⟩)
abbrev s_ratio_of : Stmt := top 10
theorem sc_ratio_of : FnScope ["number", "under", "part"] ["number", "under"] (defScope s_ratio_of) := ⟨rfl, rfl, rfl, by decide +kernel, rfl, by decide +kernel, by decide +kernel⟩
abbrev s_ratio_plus : Stmt := top 11
theorem sc_ratio_plus : FnScope ["one", "other"] ["one", "other"] (defScope s_ratio_plus) := ⟨rfl, rfl, rfl, by decide +kernel, rfl, by decide +kernel, by decide +kernel⟩
abbrev s_ratio_minus : Stmt := top 12
theorem sc_ratio_minus : FnScope ["one", "other"] ["one", "other"] (defScope s_ratio_minus) := ⟨rfl, rfl, rfl, by decide +kernel, rfl, by decide +kernel, by decide +kernel⟩
abbrev s_ratio_times : Stmt := top 13
theorem sc_ratio_times : FnScope ["one", "other"] ["one", "other"] (defScope s_ratio_times) := ⟨rfl, rfl, rfl, by decide +kernel, rfl, by decide +kernel, by decide +kernel⟩
abbrev s_ratio_over : Stmt := top 14
theorem sc_ratio_over : FnScope ["one", "other"] ["one", "other"] (defScope s_ratio_over) := ⟨rfl, rfl, rfl, by decide +kernel, rfl, by decide +kernel, by decide +kernel⟩
abbrev s_integer_power : Stmt := top 15
theorem sc_integer_power : FnScope ["base", "many", "result", "_"] ["base", "many"] (defScope s_integer_power) := ⟨rfl, rfl, rfl, by decide +kernel, rfl, by decide +kernel, by decide +kernel⟩
abbrev s_is_integer : Stmt := top 18
theorem sc_is_integer : FnScope ["value"] ["value"] (defScope s_is_integer) := ⟨rfl, rfl, rfl, by decide +kernel, rfl, by decide +kernel, by decide +kernel⟩
abbrev s_is_from_to : Stmt := top 19
theorem sc_is_from_to : FnScope ["value", "least", "most"] ["value", "least", "most"] (defScope s_is_from_to) := ⟨rfl, rfl, rfl, by decide +kernel, rfl, by decide +kernel, by decide +kernel⟩
abbrev s_is_ratio : Stmt := top 21
theorem sc_is_ratio : FnScope ["value", "number", "under"] ["value"] (defScope s_is_ratio) := ⟨rfl, rfl, rfl, by decide +kernel, rfl, by decide +kernel, by decide +kernel⟩
abbrev s__law_draw : Stmt := top 42
theorem sc__law_draw : FnScope ["_law_pot_here", "_law_many", "_law_digit"] ["_law_pot_here", "_law_many"] (defScope s__law_draw) := ⟨rfl, rfl, rfl, by decide +kernel, rfl, by decide +kernel, by decide +kernel⟩
abbrev s__law_pick : Stmt := top 43
theorem sc__law_pick : FnScope ["_law_pot_here", "_law_some"] ["_law_pot_here", "_law_some"] (defScope s__law_pick) := ⟨rfl, rfl, rfl, by decide +kernel, rfl, by decide +kernel, by decide +kernel⟩
abbrev s_check_ratio : Stmt := top 22
theorem sc_check_ratio : FnScope ["ratio"] ["ratio"] (defScope s_check_ratio) := ⟨rfl, rfl, rfl, by decide +kernel, rfl, by decide +kernel, by decide +kernel⟩
abbrev s_check_sum : Stmt := top 25
theorem sc_check_sum : FnScope ["ratio", "many"] ["ratio", "many"] (defScope s_check_sum) := ⟨rfl, rfl, rfl, by decide +kernel, rfl, by decide +kernel, by decide +kernel⟩
abbrev s_check_near : Stmt := top 26
theorem sc_check_near : FnScope ["ratio"] ["ratio"] (defScope s_check_near) := ⟨rfl, rfl, rfl, by decide +kernel, rfl, by decide +kernel, by decide +kernel⟩
abbrev s__size : Stmt := top 27
theorem sc__size : FnScope ["ratio"] ["ratio"] (defScope s__size) := ⟨rfl, rfl, rfl, by decide +kernel, rfl, by decide +kernel, by decide +kernel⟩
abbrev s__apart : Stmt := top 28
theorem sc__apart : FnScope ["total", "rest"] ["total", "rest"] (defScope s__apart) := ⟨rfl, rfl, rfl, by decide +kernel, rfl, by decide +kernel, by decide +kernel⟩
abbrev s_exp_sum : Stmt := top 29
theorem sc_exp_sum : FnScope ["ratio", "many", "total", "term", "k"] ["ratio", "many"] (defScope s_exp_sum) := ⟨rfl, rfl, rfl, by decide +kernel, rfl, by decide +kernel, by decide +kernel⟩
abbrev s_ratio_power : Stmt := top 16
theorem sc_ratio_power : FnScope ["ratio", "many"] ["ratio", "many"] (defScope s_ratio_power) := ⟨rfl, rfl, rfl, by decide +kernel, rfl, by decide +kernel, by decide +kernel⟩
abbrev s__circle_sum : Stmt := top 30
theorem sc__circle_sum : FnScope ["ratio", "many", "first", "below", "total", "term", "square", "k", "step"] ["ratio", "many", "first", "below"] (defScope s__circle_sum) := ⟨rfl, rfl, rfl, by decide +kernel, rfl, by decide +kernel, by decide +kernel⟩
abbrev s_sine_sum : Stmt := top 31
theorem sc_sine_sum : FnScope ["ratio", "many"] ["ratio", "many"] (defScope s_sine_sum) := ⟨rfl, rfl, rfl, by decide +kernel, rfl, by decide +kernel, by decide +kernel⟩
abbrev s_cosine_sum : Stmt := top 32
theorem sc_cosine_sum : FnScope ["ratio", "many"] ["ratio", "many"] (defScope s_cosine_sum) := ⟨rfl, rfl, rfl, by decide +kernel, rfl, by decide +kernel, by decide +kernel⟩
abbrev s_log_sum : Stmt := top 33
theorem sc_log_sum : FnScope ["ratio", "many", "part", "square", "total", "power", "k", "rest"] ["ratio", "many"] (defScope s_log_sum) := ⟨rfl, rfl, rfl, by decide +kernel, rfl, by decide +kernel, by decide +kernel⟩
abbrev s_exp_between : Stmt := top 35
theorem sc_exp_between : FnScope ["ratio", "many"] ["ratio", "many"] (defScope s_exp_between) := ⟨rfl, rfl, rfl, by decide +kernel, rfl, by decide +kernel, by decide +kernel⟩
abbrev s_sine_between : Stmt := top 38
theorem sc_sine_between : FnScope ["ratio", "many"] ["ratio", "many"] (defScope s_sine_between) := ⟨rfl, rfl, rfl, by decide +kernel, rfl, by decide +kernel, by decide +kernel⟩
abbrev s_cosine_between : Stmt := top 39
theorem sc_cosine_between : FnScope ["ratio", "many"] ["ratio", "many"] (defScope s_cosine_between) := ⟨rfl, rfl, rfl, by decide +kernel, rfl, by decide +kernel, by decide +kernel⟩
abbrev s_log_between : Stmt := top 36
theorem sc_log_between : FnScope ["ratio", "many", "number", "under"] ["ratio", "many"] (defScope s_log_between) := ⟨rfl, rfl, rfl, by decide +kernel, rfl, by decide +kernel, by decide +kernel⟩
abbrev s__law_less : Stmt := top 44
theorem sc__law_less : FnScope ["_law_one", "_law_other"] ["_law_one", "_law_other"] (defScope s__law_less) := ⟨rfl, rfl, rfl, by decide +kernel, rfl, by decide +kernel, by decide +kernel⟩
abbrev s__law_more : Stmt := top 45
theorem sc__law_more : FnScope ["_law_one", "_law_other"] ["_law_one", "_law_other"] (defScope s__law_more) := ⟨rfl, rfl, rfl, by decide +kernel, rfl, by decide +kernel, by decide +kernel⟩
abbrev s__law_power : Stmt := top 47
theorem sc__law_power : FnScope ["_law_number", "_law_often", "_law_found", "_law_turn"] ["_law_number", "_law_often"] (defScope s__law_power) := ⟨rfl, rfl, rfl, by decide +kernel, rfl, by decide +kernel, by decide +kernel⟩
abbrev s__law_factorial : Stmt := top 48
theorem sc__law_factorial : FnScope ["_law_many", "_law_found", "_law_number"] ["_law_many"] (defScope s__law_factorial) := ⟨rfl, rfl, rfl, by decide +kernel, rfl, by decide +kernel, by decide +kernel⟩
abbrev s__law_is_same : Stmt := top 46
theorem sc__law_is_same : FnScope ["_law_one", "_law_told", "_law_near", "_law_far", "_law_late"] ["_law_one", "_law_told"] (defScope s__law_is_same) := ⟨rfl, rfl, rfl, by decide +kernel, rfl, by decide +kernel, by decide +kernel⟩
abbrev s__law_row : Stmt := top 49
theorem sc__law_row : FnScope ["_law_ratio_here", "_law_rows", "_law_last", "_law_often", "_law_total", "_law_sign", "_law_exponent", "_law_under"] ["_law_ratio_here", "_law_rows", "_law_last", "_law_often"] (defScope s__law_row) := ⟨rfl, rfl, rfl, by decide +kernel, rfl, by decide +kernel, by decide +kernel⟩
abbrev s__law_exp : Stmt := top 50
theorem sc__law_exp : FnScope ["_law_ratio_here", "_law_many", "_law_rows", "_law_at"] ["_law_ratio_here", "_law_many"] (defScope s__law_exp) := ⟨rfl, rfl, rfl, by decide +kernel, rfl, by decide +kernel, by decide +kernel⟩
abbrev s__law_sine : Stmt := top 51
theorem sc__law_sine : FnScope ["_law_ratio_here", "_law_many", "_law_rows", "_law_at"] ["_law_ratio_here", "_law_many"] (defScope s__law_sine) := ⟨rfl, rfl, rfl, by decide +kernel, rfl, by decide +kernel, by decide +kernel⟩
abbrev s__law_cosine : Stmt := top 52
theorem sc__law_cosine : FnScope ["_law_ratio_here", "_law_many", "_law_rows", "_law_at"] ["_law_ratio_here", "_law_many"] (defScope s__law_cosine) := ⟨rfl, rfl, rfl, by decide +kernel, rfl, by decide +kernel, by decide +kernel⟩
abbrev s__law_log : Stmt := top 53
theorem sc__law_log : FnScope ["_law_ratio_here", "_law_many", "_law_under", "_law_part", "_law_rows", "_law_at"] ["_law_ratio_here", "_law_many"] (defScope s__law_log) := ⟨rfl, rfl, rfl, by decide +kernel, rfl, by decide +kernel, by decide +kernel⟩
abbrev s__law_told_right : Stmt := top 54
theorem sc__law_told_right : FnScope ["_law_told", "_law_own", "_law_total", "_law_rest"] ["_law_told", "_law_own"] (defScope s__law_told_right) := ⟨rfl, rfl, rfl, by decide +kernel, rfl, by decide +kernel, by decide +kernel⟩
abbrev s__law_do_meet : Stmt := top 55
theorem sc__law_do_meet : FnScope ["_law_one", "_law_other", "_law_near", "_law_far"] ["_law_one", "_law_other"] (defScope s__law_do_meet) := ⟨rfl, rfl, rfl, by decide +kernel, rfl, by decide +kernel, by decide +kernel⟩
abbrev s__law_product : Stmt := top 58
theorem sc__law_product : FnScope ["_law_one", "_law_other", "_law_some", "_law_near", "_law_least_here", "_law_greatest", "_law_late", "_law_far"] ["_law_one", "_law_other"] (defScope s__law_product) := ⟨rfl, rfl, rfl, by decide +kernel, rfl, by decide +kernel, by decide +kernel⟩
abbrev s__law_least : Stmt := top 56
theorem sc__law_least : FnScope ["_law_number", "_law_under", "_law_part"] ["_law_number", "_law_under"] (defScope s__law_least) := ⟨rfl, rfl, rfl, by decide +kernel, rfl, by decide +kernel, by decide +kernel⟩
abbrev s__law_ratio : Stmt := top 57
theorem sc__law_ratio : FnScope ["_law_pot_here", "_law_is_log", "_law_under", "_law_least_here"] ["_law_pot_here", "_law_is_log"] (defScope s__law_ratio) := ⟨rfl, rfl, rfl, by decide +kernel, rfl, by decide +kernel, by decide +kernel⟩
abbrev s__law_right : Stmt := top 59
theorem sc__law_right : FnScope ["_law_pot_here", "_law_told", "_law_own", "_law_ratio_here", "_law_many", "_law_here", "_law_late", "_law_one", "_law_both", "_law_sine_here", "_law_cosine_here", "_law_near", "_law_far", "_law_whole"] ["_law_pot_here"] (defScope s__law_right) := ⟨rfl, rfl, rfl, by decide +kernel, rfl, by decide +kernel, by decide +kernel⟩
abbrev s__law_pot : Stmt := top 41
theorem sc__law_pot : FnScope ["_law_script", "_law_k", "_law_cell"] ["_law_script", "_law_k"] (defScope s__law_pot) := ⟨rfl, rfl, rfl, by decide +kernel, rfl, by decide +kernel, by decide +kernel⟩
abbrev s_law : Stmt := top 60
theorem sc_law : FnScope ["_law_script"] ["_law_script"] (defScope s_law) := ⟨rfl, rfl, rfl, by decide +kernel, rfl, by decide +kernel, by decide +kernel⟩
/-- what else the top has left -/
structure Txt (K : PySem.W.Frag) (mg : Str → Option Value) where
  b_abs : mg "abs" = none
  b_all : mg "all" = none
  b_bool : mg "bool" = none
  b_divmod : mg "divmod" = none
  b_int : mg "int" = none
  b_isinstance : mg "isinstance" = none
  b_len : mg "len" = none
  b_max : mg "max" = none
  b_min : mg "min" = none
  b_range : mg "range" = none
  b_tuple : mg "tuple" = none
  a_NOUGHT : Addr
  o_NOUGHT : Obj
  m_NOUGHT : mg "NOUGHT" = some (.ref a_NOUGHT)
  l_NOUGHT : K.lookup a_NOUGHT = some o_NOUGHT
  k_NOUGHT : KTup K a_NOUGHT (.tup [.int 0, .int 1])
  a_UNIT : Addr
  o_UNIT : Obj
  m_UNIT : mg "UNIT" = some (.ref a_UNIT)
  l_UNIT : K.lookup a_UNIT = some o_UNIT
  k_UNIT : KTup K a_UNIT (.tup [.int 1, .int 1])
  t__MOST_MANY : Tok
  m__MOST_MANY : mg "_MOST_MANY" = some (.int 12 t__MOST_MANY)
  m_gcd : mg "gcd" = some (.builtin "math.gcd")
theorem rd_whole {x y : Rat} (h1 : (x.den : Int) = 1) (h2 : (y.den : Int) = 1) : rd (x + y) = .tup [.int (x.num + y.num), .int 1] := by
  have e : x + y = ((x.num + y.num : Int) : Rat) := by
    rw [Rat.intCast_add, ← rat_int x h1, ← rat_int y h2]
  rw [e]
  rfl
theorem rd_whole_mul {x y : Rat} (h1 : (x.den : Int) = 1) (h2 : (y.den : Int) = 1) : rd (x * y) = .tup [.int (x.num * y.num), .int 1] := by
  have e : x * y = ((x.num * y.num : Int) : Rat) := by
    rw [Rat.intCast_mul, ← rat_int x h1, ← rat_int y h2]
  rw [e]
  rfl
/-- an interval of grains -/
structure Iv (q : Int × Int) : Prop where
  lo : -1180591620717411303424 ≤ q.1
  le : q.1 ≤ q.2
  hi : q.2 ≤ 1180591620717411303424
/-- a ratio in lowest terms, no wider than needed -/
structure Rt (q : Int × Int) : Prop where
  pos : 1 ≤ q.2
  cop : Nat.gcd q.1.natAbs q.2.natAbs = 1
  few : q.2 < 1606938044258990275541962092341162602522202993782792835301376
structure Bx (b : List (Int × Int)) : Prop where
  one : 1 ≤ b.length
  few : b.length ≤ 8
  iv : ∀ q ∈ b, Iv q
structure Pt (b : List (Int × Int)) : Prop where
  one : 1 ≤ b.length
  few : b.length ≤ 8
  rt : ∀ q ∈ b, Rt q
theorem lenOk_map {α : Type} {c : α → D} {l : List α} (h : l.length ≤ 1000000) : LenOk (l.map c) := .of l.length (List.length_map _) h
theorem lenOk_zip {α β : Type} {c : α × β → D} {l : List α} {m : List β} (h : l.length ≤ 1000000) : LenOk ((l.zip m).map c) := by
  refine lenOk_map ?_
  rw [List.length_zip]
  omega
theorem all_tt {α : Type} (l : List α) : (l.all fun _ => true) = true := by induction l with
  | nil => rfl
  | cons x l ih => rw [List.all_cons, ih]; rfl
theorem of_zip {α β : Type} {l : List α} {m : List β} {q : α × β} (h : q ∈ l.zip m) : q.1 ∈ l ∧ q.2 ∈ m := List.of_mem_zip h
def mtD (q : (Int × Int) × (Int × Int)) : D := if max q.1.1 q.2.1 ≤ min q.1.2 q.2.2 then ivD (max q.1.1 q.2.1, min q.1.2 q.2.2) else .non
/-- what box_meet answers -/
def meetD (b o : List (Int × Int)) : D := if ((b.zip o).all fun q => decide (max q.1.1 q.2.1 ≤ min q.1.2 q.2.2)) = true then .tup ((b.zip o).map fun q => ivD (max q.1.1 q.2.1, min q.1.2 q.2.2)) else .non
theorem widths_ne {α : Type} {b : List α} (h : 1 ≤ b.length) : ∃ q r, b = q :: r := by
  cases b with
  | nil => simp at h
  | cons q r => exact ⟨q, r, rfl⟩
theorem nat_get {α : Type} {b : List α} {c : α → D} {i : Int} {q : α} (h0 : 0 ≤ i) (h : b[i.toNat]? = some q) : atD (b.map c) i = some (c q) := by
  unfold atD
  rw [if_pos h0, List.getElem?_map, h]
  rfl
theorem sIx_none (n d : Nat) : HT.sIx n d none = d := rfl
theorem cut_lo {l : List D} {i : Int} (h0 : 0 ≤ i) (h1 : i.toNat ≤ l.length) : DL.cutD l none (some i) = l.take i.toNat := by
  have e : HT.sIx l.length l.length (some i) = i.toNat := by
    unfold HT.sIx
    simp only []
    split <;> omega
  unfold DL.cutD
  rw [e, sIx_none]
  simp
theorem cut_hi {l : List D} {i : Int} (h0 : 0 ≤ i) (h1 : i.toNat ≤ l.length) : DL.cutD l (some i) none = l.drop i.toNat := by
  have e : HT.sIx l.length 0 (some i) = i.toNat := by
    unfold HT.sIx
    simp only []
    split <;> omega
  unfold DL.cutD
  rw [e, sIx_none]
  rw [List.take_of_length_le]
  simp
/-! ### sums with rests -/
/-- the size of a ratio -/
def ra (x : Rat) : Rat := ⟨(x.num.natAbs : Int), x.den, x.den_nz, by rw [Int.natAbs_natCast]; exact x.reduced⟩
theorem ra_or (x : Rat) : ra x = x ∨ ra x = -x := by
  by_cases h : 0 ≤ x.num
  · exact .inl (Rat.ext (by show (x.num.natAbs : Int) = x.num; omega) rfl)
  · exact .inr (Rat.ext (by show (x.num.natAbs : Int) = -x.num; omega) rfl)
theorem ra_nonneg (x : Rat) : 0 ≤ ra x := by
  rw [← Rat.num_nonneg]
  show 0 ≤ (x.num.natAbs : Int)
  omega
theorem ra_le (x : Rat) : x ≤ ra x ∧ -x ≤ ra x := by
  have h := ra_nonneg x
  rcases ra_or x with e | e <;> grind
theorem sz_ra {a : Nat} {x : Rat} (h : Sz a x) : Sz a (ra x) := ⟨h.n.abs, h.d⟩
theorem ra_mul (x y : Rat) : ra (x * y) = ra x * ra y := by
  have h1 := ra_nonneg (x * y)
  have h2 := Rat.mul_nonneg (ra_nonneg x) (ra_nonneg y)
  rcases ra_or (x * y) with e | e <;> rcases ra_or x with e1 | e1 <;> rcases ra_or y with e2 | e2 <;> rw [e1, e2] at h2 ⊢ <;> rw [e] at h1 ⊢ <;> grind
theorem ra_of_nonneg {x : Rat} (h : 0 ≤ x) : ra x = x := by
  have h1 := ra_nonneg x
  rcases ra_or x with e | e
  · exact e
  · rw [e] at h1 ⊢
    grind
theorem ra_pow (x : Rat) : ∀ n : Nat, ra (x ^ n) = ra x ^ n
  | 0 => by rw [Rat.pow_zero, Rat.pow_zero]; rfl
  | n + 1 => by rw [Rat.pow_succ, Rat.pow_succ, ra_mul, ra_pow x n]
def expT (x : Rat) : Nat → Rat
  | 0 => 1
  | k + 1 => expT x k * ((x.num : Rat) / (((x.den : Int) * (0 + (k : Int) + 1) : Int) : Rat))
def expS (x : Rat) : Nat → Rat
  | 0 => 0
  | k + 1 => expS x k + expT x k
def cStep (b : Int) (k : Nat) : Int := (b + 2 * (0 + (k : Int)) + 1) * (b + 2 * (0 + (k : Int)) + 2)
def cT (x f : Rat) (b : Int) : Nat → Rat
  | 0 => f
  | k + 1 => cT x f b k * (((-(x.num ^ 2) : Int) : Rat) / ((((x.den : Int) ^ 2) * cStep b k : Int) : Rat))
def cS (x f : Rat) (b : Int) : Nat → Rat
  | 0 => 0
  | k + 1 => cS x f b k + cT x f b k
def lP (p : Rat) : Nat → Rat
  | 0 => p
  | k + 1 => lP p k * p ^ 2
def lS (p : Rat) : Nat → Rat
  | 0 => 0
  | k + 1 => lS p k + lP p k * (1 / ((2 * (0 + (k : Int)) + 1 : Int) : Rat))
theorem big_small {n : Nat} {i : Int} (h : i.natAbs < 2 ^ n) : Big n i := ⟨h⟩
theorem big_four {k : Nat} (h : k ≤ 14) : Big 4 (0 + (k : Int) + 1) := ⟨by show _ < 16; omega⟩
theorem expT_sz {x : Rat} (h : Sz 8 x) : ∀ {k : Nat}, k ≤ 12 → Sz (1 + 12 * k) (expT x k)
  | 0, _ => Sz.one
  | k + 1, hk => by
    have h1 : Sz 12 ((x.num : Rat) / (((x.den : Int) * (0 + (k : Int) + 1) : Int) : Rat)) :=
      Sz.of_frac (Int.mul_pos (den_pos x) (by omega)) (h.n.mono (by decide)) ((h.d.mul (big_four (k := k) (by omega))).mono (by decide))
    exact ((expT_sz h (k := k) (by omega)).mul h1).mono (by omega)
theorem expS_sz {x : Rat} (h : Sz 8 x) : ∀ {k : Nat}, k ≤ 12 → Sz (1 + 150 * k) (expS x k)
  | 0, _ => Sz.zero
  | k + 1, hk => ((expS_sz h (k := k) (by omega)).add (expT_sz h (k := k) (by omega))).mono (by omega)
theorem cStep_pos {b : Int} {k : Nat} (h0 : 0 ≤ b) : 0 < cStep b k := Int.mul_pos (by omega) (by omega)
theorem cStep_big {b : Int} {k : Nat} (h0 : 0 ≤ b) (h1 : b ≤ 1) (hk : k ≤ 12) : Big 10 (cStep b k) := by
  have e1 : Big 5 (b + 2 * (0 + (k : Int)) + 1) := ⟨by show _ < 32; omega⟩
  have e2 : Big 5 (b + 2 * (0 + (k : Int)) + 2) := ⟨by show _ < 32; omega⟩
  exact e1.mul e2
theorem sq_sz {a : Nat} {x : Rat} (h : Sz a x) : Sz (2 * a + 1) (x ^ 2) := ⟨(h.n.pow 2).mono (by omega), by
  have := h.d.pow 2
  refine Big.mono ?_ (show a * 2 + 1 ≤ 2 * a + 1 by omega)
  rw [Rat.den_pow]
  exact_mod_cast this⟩
theorem cT_sz {x f : Rat} {b : Int} (h : Sz 8 x) (hf : Sz 8 f) (h0 : 0 ≤ b) (h1 : b ≤ 1) : ∀ {k : Nat}, k ≤ 12 → Sz (8 + 27 * k) (cT x f b k)
  | 0, _ => hf
  | k + 1, hk => by
    have p2 : 0 < (x.den : Int) ^ 2 := Int.pow_pos (den_pos x)
    have e : Sz 27 (((-(x.num ^ 2) : Int) : Rat) / ((((x.den : Int) ^ 2) * cStep b k : Int) : Rat)) :=
      Sz.of_frac (Int.mul_pos p2 (cStep_pos h0)) ((h.n.pow 2).neg.mono (by decide)) (((h.d.pow 2).mul (cStep_big h0 h1 (k := k) (by omega))).mono (by decide))
    exact ((cT_sz h hf h0 h1 (k := k) (by omega)).mul e).mono (by omega)
theorem cS_sz {x f : Rat} {b : Int} (h : Sz 8 x) (hf : Sz 8 f) (h0 : 0 ≤ b) (h1 : b ≤ 1) : ∀ {k : Nat}, k ≤ 12 → Sz (1 + 340 * k) (cS x f b k)
  | 0, _ => Sz.zero
  | k + 1, hk => ((cS_sz h hf h0 h1 (k := k) (by omega)).add (cT_sz h hf h0 h1 (k := k) (by omega))).mono (by omega)
theorem lP_sz {p : Rat} (h : Sz 20 p) : ∀ {k : Nat}, Sz (20 + 41 * k) (lP p k)
  | 0 => h
  | k + 1 => ((lP_sz h (k := k)).mul (sq_sz h)).mono (by omega)
theorem odd_rd (k : Nat) : rd (1 / ((2 * (0 + (k : Int)) + 1 : Int) : Rat)) = .tup [.int 1, .int (2 * (0 + (k : Int)) + 1)] := by
  have h := rd_frac (n := 1) (u := 2 * (0 + (k : Int)) + 1) (by omega)
  have e : Nat.gcd (1 : Int).natAbs (2 * (0 + (k : Int)) + 1).natAbs = 1 := Nat.gcd_one_left _
  rw [e] at h
  simpa using h
theorem odd_sz {k : Nat} (hk : k ≤ 12) : Sz 5 (1 / ((2 * (0 + (k : Int)) + 1 : Int) : Rat)) := by
  have h : Sz 5 (((1 : Int) : Rat) / ((2 * (0 + (k : Int)) + 1 : Int) : Rat)) := Sz.of_frac (by omega) (Big.one.mono (by decide)) ⟨by show _ < 32; omega⟩
  exact h
theorem lS_sz {p : Rat} (h : Sz 20 p) : ∀ {k : Nat}, k ≤ 12 → Sz (1 + 520 * k) (lS p k)
  | 0, _ => Sz.zero
  | k + 1, hk => ((lS_sz h (k := k) (by omega)).add ((lP_sz h (k := k)).mul (odd_sz (k := k) (by omega)))).mono (by omega)
theorem rng_at {lo : Int} {n i : Nat} {x : D} (h : (rng lo n)[i]? = some x) : i < n ∧ x = .int (lo + i) := by
  have hl : i < n := by
    have := (List.getElem?_eq_some_iff.mp h).1
    rw [rng_len] at this
    exact this
  rw [rng_get hl] at h
  cases h
  exact ⟨hl, rfl⟩
theorem nn_num {x : Rat} (h : (x.den : Int) ≤ 2 * x.num) : 0 < x := by
  have := den_pos x
  rw [Rat.lt_iff]
  show 0 * _ < x.num * 1
  omega
/-! ### the law's own sums -/
structure Pr (a : Nat) (q : Int × Int) : Prop where
  n : Big a q.1
  d : Big a q.2
  pos : 0 < q.2
theorem pr_mono {a b : Nat} {q : Int × Int} (h : Pr a q) (l : a ≤ b) : Pr b q := ⟨h.n.mono l, h.d.mono l, h.pos⟩
theorem pr_rd {a : Nat} {x : Rat} (h : Sz a x) : Pr a (x.num, (x.den : Int)) := ⟨h.n, h.d, den_pos x⟩
def pSub (p q : Int × Int) : Int × Int := (p.1 * q.2 - q.1 * p.2, p.2 * q.2)
def pAdd (p q : Int × Int) : Int × Int := (p.1 * q.2 + q.1 * p.2, p.2 * q.2)
theorem pr_sub {a b : Nat} {p q : Int × Int} (h : Pr a p) (k : Pr b q) : Pr (a + b + 1) (pSub p q) := ⟨((h.n.mul k.d).sub (k.n.mul h.d)).mono (by omega), (h.d.mul k.d).mono (by omega), Int.mul_pos h.pos k.pos⟩
theorem pr_add {a b : Nat} {p q : Int × Int} (h : Pr a p) (k : Pr b q) : Pr (a + b + 1) (pAdd p q) := ⟨((h.n.mul k.d).add (k.n.mul h.d)).mono (by omega), (h.d.mul k.d).mono (by omega), Int.mul_pos h.pos k.pos⟩
theorem vl_pSub {a b : Nat} {p q : Int × Int} (h : Pr a p) (k : Pr b q) : vl (pSub p q) = vl p - vl q := vl_sub h.pos k.pos
theorem vl_pAdd {a b : Nat} {p q : Int × Int} (h : Pr a p) (k : Pr b q) : vl (pAdd p q) = vl p + vl q := vl_add h.pos k.pos
def fac : Nat → Int
  | 0 => 1
  | k + 1 => fac k * ((k : Int) + 1)
theorem fac_pos : ∀ k : Nat, 0 < fac k
  | 0 => by decide
  | k + 1 => Int.mul_pos (fac_pos k) (by omega)
theorem fac_big : ∀ {k : Nat}, k ≤ 30 → Big (5 * k + 1) (fac k)
  | 0, _ => Big.one
  | k + 1, h => ((fac_big (k := k) (by omega)).mul (b := 5) (j := (k : Int) + 1) ⟨by show _ < 32; omega⟩).mono (by omega)
/-- a row: sign, exponent, under -/
abbrev Row := Int × Nat × Int
def rowD (r : Row) : D := .tup [.int r.1, .int (r.2.1 : Int), .int r.2.2]
structure RowOk (r : Row) : Prop where
  s : Big 2 r.1
  e : r.2.1 ≤ 25
  u : Big 140 r.2.2
  pos : 0 < r.2.2
def rowF (x : Int × Int) (T : Int × Int) (r : Row) : Int × Int := pAdd T (r.1 * x.1 ^ r.2.1, x.2 ^ r.2.1 * r.2.2)
def rowV (x : Rat) (r : Row) : Rat := (r.1 : Rat) * x ^ r.2.1 / (r.2.2 : Rat)
def sumV (x : Rat) : List Row → Rat
  | [] => 0
  | r :: l => rowV x r + sumV x l
theorem sumV_app (x : Rat) : ∀ l m : List Row, sumV x (l ++ m) = sumV x l + sumV x m
  | [], m => by simp [sumV, Rat.zero_add]
  | r :: l, m => by simp only [List.cons_append, sumV, sumV_app x l m, Rat.add_assoc]
theorem vl_pow (x : Int × Int) (hx : 0 < x.2) : ∀ n : Nat, vl (x.1 ^ n, x.2 ^ n) = vl x ^ n
  | 0 => by simp only [Int.pow_zero, Rat.pow_zero]; decide +kernel
  | n + 1 => by
    have h := vl_mul (p := (x.1 ^ n, x.2 ^ n)) (q := x) (Int.pow_pos hx) hx
    simp only [Int.pow_succ, Rat.pow_succ]
    rw [← vl_pow x hx n]
    exact h
theorem row_pr {x : Int × Int} (hx : Pr 8 x) {r : Row} (hr : RowOk r) : Pr 360 (r.1 * x.1 ^ r.2.1, x.2 ^ r.2.1 * r.2.2) := by
  have e1 : 8 * r.2.1 ≤ 8 * 25 := Nat.mul_le_mul_left 8 hr.e
  refine ⟨(hr.s.mul (hx.n.pow r.2.1)).mono (by omega), ((hx.d.pow r.2.1).mul hr.u).mono (by omega), Int.mul_pos (Int.pow_pos hx.pos) hr.pos⟩
theorem row_vl {x : Int × Int} (hx : Pr 8 x) {r : Row} (hr : RowOk r) : vl (r.1 * x.1 ^ r.2.1, x.2 ^ r.2.1 * r.2.2) = rowV (vl x) r := by
  have h := vl_mul (p := (x.1 ^ r.2.1, x.2 ^ r.2.1)) (q := (r.1, r.2.2)) (Int.pow_pos hx.pos) hr.pos
  rw [vl_pow x hx.pos] at h
  have e : r.1 * x.1 ^ r.2.1 = x.1 ^ r.2.1 * r.1 := Int.mul_comm _ _
  rw [e, h]
  unfold vl rowV
  simp only []
  grind
theorem fold_ok {x : Int × Int} (hx : Pr 8 x) : ∀ (l : List Row) (T : Int × Int) (a : Nat), (∀ r ∈ l, RowOk r) → Pr a T → Pr (a + 361 * l.length) (l.foldl (rowF x) T) ∧ vl (l.foldl (rowF x) T) = vl T + sumV (vl x) l
  | [], T, a, _, hT => ⟨by simpa using hT, by simp [sumV, Rat.add_zero]⟩
  | r :: l, T, a, h, hT => by
    have hr := h r List.mem_cons_self
    have h1 := pr_add hT (row_pr hx hr)
    have h2 := vl_pAdd hT (row_pr hx hr)
    obtain ⟨k1, k2⟩ := fold_ok hx l (rowF x T r) (a + 360 + 1) (fun q hq => h q (List.mem_cons_of_mem _ hq)) h1
    refine ⟨pr_mono k1 (by rw [List.length_cons]; omega), ?_⟩
    show vl (l.foldl (rowF x) (rowF x T r)) = _
    rw [k2]
    unfold rowF
    rw [h2, row_vl hx hr]
    simp only [sumV, Rat.add_assoc]
def ownT (x : Int × Int) (rows : List Row) : Int × Int := rows.foldl (rowF x) (0, 1)
def ownR (x o : Int × Int) (e : Nat) (u : Int) : Int × Int := (o.1 * (x.1.natAbs : Int) ^ e, o.2 * x.2 ^ e * u)
def eRow (k : Nat) : Row := (1, k, fac k)
def sRow (k : Nat) : Row := (1 - 2 * ((k : Int) % 2), 2 * k + 1, fac (2 * k + 1))
def cRow (k : Nat) : Row := (1 - 2 * ((k : Int) % 2), 2 * k, fac (2 * k))
def lRow (k : Nat) : Row := (2, 2 * k + 1, 2 * (k : Int) + 1)
theorem sgn_big (k : Nat) : Big 2 (1 - 2 * ((k : Int) % 2)) := ⟨by show _ < 4; omega⟩
theorem eRow_ok {k : Nat} (h : k ≤ 12) : RowOk (eRow k) := ⟨⟨(by decide : (1 : Int).natAbs < 2 ^ 2)⟩, by show k ≤ 25; omega, (fac_big (by omega)).mono (by omega), fac_pos k⟩
theorem sRow_ok {k : Nat} (h : k ≤ 12) : RowOk (sRow k) := ⟨sgn_big k, by show 2 * k + 1 ≤ 25; omega, (fac_big (k := 2 * k + 1) (by omega)).mono (by omega), fac_pos _⟩
theorem cRow_ok {k : Nat} (h : k ≤ 12) : RowOk (cRow k) := ⟨sgn_big k, by show 2 * k ≤ 25; omega, (fac_big (k := 2 * k) (by omega)).mono (by omega), fac_pos _⟩
theorem lRow_ok {k : Nat} (h : k ≤ 12) : RowOk (lRow k) := ⟨⟨(by decide : (2 : Int).natAbs < 2 ^ 2)⟩, by show 2 * k + 1 ≤ 25; omega, Big.mono (a := 5) ⟨by show _ < 32; show (2 * (k : Int) + 1).natAbs < 32; omega⟩ (by decide), by show 0 < 2 * (k : Int) + 1; omega⟩
theorem rows_ok {f : Nat → Row} {m : Nat} (hf : ∀ k, k ≤ 12 → RowOk (f k)) (hm : m ≤ 12) : ((List.range m).map f).length ≤ 12 ∧ ∀ r ∈ (List.range m).map f, RowOk r := by
  refine ⟨by rw [List.length_map, List.length_range]; exact hm, fun r hr => ?_⟩
  obtain ⟨k, hk, rfl⟩ := List.mem_map.mp hr
  exact hf k (by have := List.mem_range.mp hk; omega)
theorem lenRng (m : Nat) (h : m ≤ 1000000) : LenOk (rng 0 m) := .of m (rng_len 0 m) h
/-! ### the two sums are one -/
theorem ra_inv_pos {u : Int} (h : 0 < u) : ra (1 / (u : Rat)) = 1 / (u : Rat) := by
  refine ra_of_nonneg ?_
  have := Rat.inv_pos (a := (u : Rat)) |>.mpr (by exact_mod_cast h)
  rw [Rat.div_def, Rat.one_mul]
  exact Rat.le_of_lt this
theorem ra_over {x : Rat} {u : Int} (h : 0 < u) : ra (x / (u : Rat)) = ra x / (u : Rat) := by
  have e : x / (u : Rat) = x * (1 / (u : Rat)) := by grind
  rw [e, ra_mul, ra_inv_pos h]
  grind
theorem expT_eq (x : Rat) : ∀ k : Nat, expT x k = x ^ k / (fac k : Rat)
  | 0 => by show (1 : Rat) = x ^ 0 / ((1 : Int) : Rat); rw [Rat.pow_zero]; decide +kernel
  | k + 1 => by
    have h1 := ratNe (den_pos x)
    have h2 := ratNe (fac_pos k)
    have h3 := ratNe (show 0 < (k : Int) + 1 by omega)
    have e := val_eq x
    have e0 : (0 : Int) + (k : Int) + 1 = (k : Int) + 1 := by omega
    show expT x k * ((x.num : Rat) / (((x.den : Int) * (0 + (k : Int) + 1) : Int) : Rat)) = x ^ (k + 1) / ((fac k * ((k : Int) + 1) : Int) : Rat)
    rw [expT_eq x k, e0, Rat.pow_succ, Rat.intCast_mul, Rat.intCast_mul]
    generalize x ^ k = y
    grind
theorem eRow_v (x : Rat) (k : Nat) : rowV x (eRow k) = expT x k := by
  rw [expT_eq]
  unfold rowV eRow
  simp only [Rat.intCast_one, Rat.one_mul]
theorem sumV_range (x : Rat) (f : Nat → Row) (S : Nat → Rat) (h0 : S 0 = 0) (h : ∀ k, S (k + 1) = S k + rowV x (f k)) : ∀ m : Nat, sumV x ((List.range m).map f) = S m
  | 0 => by rw [h0]; rfl
  | m + 1 => by
    rw [List.range_succ, List.map_append, sumV_app, sumV_range x f S h0 h m, h m]
    simp [sumV, Rat.add_zero]
theorem exp_sum_eq (x : Rat) (m : Nat) : sumV x ((List.range m).map eRow) = expS x m := sumV_range x eRow (expS x) rfl (fun k => by rw [eRow_v]; rfl) m
theorem sgn_succ (k : Nat) : (1 - 2 * (((k + 1 : Nat) : Int) % 2)) = -(1 - 2 * ((k : Int) % 2)) := by omega
theorem cT_step (x f : Rat) (b : Int) (k : Nat) (h : 0 ≤ b) : cT x f b (k + 1) = cT x f b k * (-(x * x) / (cStep b k : Rat)) := by
  have h1 := ratNe (den_pos x)
  have h2 := ratNe (cStep_pos (k := k) h)
  have e := val_eq x
  show cT x f b k * (((-(x.num ^ 2) : Int) : Rat) / ((((x.den : Int) ^ 2) * cStep b k : Int) : Rat)) = _
  have e1 : x.num ^ 2 = x.num * x.num := by rw [Int.pow_succ, Int.pow_succ, Int.pow_zero, Int.one_mul]
  have e2 : (x.den : Int) ^ 2 = (x.den : Int) * (x.den : Int) := by rw [Int.pow_succ, Int.pow_succ, Int.pow_zero, Int.one_mul]
  rw [e1, e2, Rat.intCast_mul, Rat.intCast_neg, Rat.intCast_mul, Rat.intCast_mul]
  grind
theorem sRow_v (x : Rat) : ∀ k : Nat, rowV x (sRow k) = cT x x 1 k
  | 0 => by
    show ((1 : Int) : Rat) * x ^ 1 / ((1 * ((0 : Int) + 1) : Int) : Rat) = x
    rw [Rat.pow_one]
    have : ((1 * ((0 : Int) + 1) : Int) : Rat) = 1 := by decide +kernel
    rw [this]
    have : ((1 : Int) : Rat) = 1 := by decide +kernel
    rw [this]
    grind
  | k + 1 => by
    rw [cT_step x x 1 k (by decide), ← sRow_v x k]
    have h1 := ratNe (fac_pos (2 * k + 1))
    have h2 : (((2 * k + 1 : Nat) : Int) + 1 : Int) = 2 * (k : Int) + 2 := by omega
    have h3 : (((2 * k + 1 + 1 : Nat) : Int) + 1 : Int) = 2 * (k : Int) + 3 := by omega
    have h4 : cStep 1 k = (2 * (k : Int) + 2) * (2 * (k : Int) + 3) := by
      unfold cStep
      have e1 : (1 : Int) + 2 * (0 + (k : Int)) + 1 = 2 * (k : Int) + 2 := by omega
      have e2 : (1 : Int) + 2 * (0 + (k : Int)) + 2 = 2 * (k : Int) + 3 := by omega
      rw [e1, e2]
    have h5 := ratNe (show 0 < 2 * (k : Int) + 2 by omega)
    have h6 := ratNe (show 0 < 2 * (k : Int) + 3 by omega)
    unfold rowV sRow
    simp only []
    rw [sgn_succ, show fac (2 * (k + 1) + 1) = fac (2 * k + 1) * (((2 * k + 1 : Nat) : Int) + 1) * (((2 * k + 1 + 1 : Nat) : Int) + 1) from rfl, h2, h3, h4]
    rw [show 2 * (k + 1) + 1 = 2 * k + 1 + 1 + 1 by omega, Rat.pow_succ, Rat.pow_succ]
    generalize x ^ (2 * k + 1) = y
    generalize fac (2 * k + 1) = z at *
    generalize 1 - 2 * ((k : Int) % 2) = t
    rw [Rat.intCast_neg, Rat.intCast_mul, Rat.intCast_mul, Rat.intCast_mul]
    grind
theorem cRow_v (x : Rat) : ∀ k : Nat, rowV x (cRow k) = cT x 1 0 k
  | 0 => by
    show ((1 : Int) : Rat) * x ^ 0 / ((1 : Int) : Rat) = 1
    rw [Rat.pow_zero]
    decide +kernel
  | k + 1 => by
    rw [cT_step x 1 0 k (by decide), ← cRow_v x k]
    have h1 := ratNe (fac_pos (2 * k))
    have h2 : (((2 * k : Nat) : Int) + 1 : Int) = 2 * (k : Int) + 1 := by omega
    have h3 : (((2 * k + 1 : Nat) : Int) + 1 : Int) = 2 * (k : Int) + 2 := by omega
    have h4 : cStep 0 k = (2 * (k : Int) + 1) * (2 * (k : Int) + 2) := by
      unfold cStep
      have e1 : (0 : Int) + 2 * (0 + (k : Int)) + 1 = 2 * (k : Int) + 1 := by omega
      have e2 : (0 : Int) + 2 * (0 + (k : Int)) + 2 = 2 * (k : Int) + 2 := by omega
      rw [e1, e2]
    have h5 := ratNe (show 0 < 2 * (k : Int) + 1 by omega)
    have h6 := ratNe (show 0 < 2 * (k : Int) + 2 by omega)
    unfold rowV cRow
    simp only []
    rw [sgn_succ, show fac (2 * (k + 1)) = fac (2 * k) * (((2 * k : Nat) : Int) + 1) * (((2 * k + 1 : Nat) : Int) + 1) from rfl, h2, h3, h4]
    rw [show 2 * (k + 1) = 2 * k + 1 + 1 by omega, Rat.pow_succ, Rat.pow_succ]
    generalize x ^ (2 * k) = y
    generalize fac (2 * k) = z at *
    generalize 1 - 2 * ((k : Int) % 2) = t
    rw [Rat.intCast_neg, Rat.intCast_mul, Rat.intCast_mul, Rat.intCast_mul]
    grind
theorem sine_sum_eq (x : Rat) (m : Nat) : sumV x ((List.range m).map sRow) = cS x x 1 m := sumV_range x sRow (cS x x 1) rfl (fun k => by rw [sRow_v]; rfl) m
theorem cos_sum_eq (x : Rat) (m : Nat) : sumV x ((List.range m).map cRow) = cS x 1 0 m := sumV_range x cRow (cS x 1 0) rfl (fun k => by rw [cRow_v]; rfl) m
theorem lP_eq (p : Rat) : ∀ k : Nat, lP p k = p ^ (2 * k + 1)
  | 0 => by rw [show 2 * 0 + 1 = 1 from rfl, Rat.pow_one]; rfl
  | k + 1 => by
    show lP p k * p ^ 2 = _
    rw [lP_eq p k, show 2 * (k + 1) + 1 = 2 * k + 1 + 1 + 1 by omega]
    simp only [Rat.pow_succ, Rat.pow_zero]
    generalize p ^ (2 * k) = y
    grind
theorem lRow_v (p : Rat) (k : Nat) : rowV p (lRow k) = 2 * (lP p k * (1 / ((2 * (0 + (k : Int)) + 1 : Int) : Rat))) := by
  rw [lP_eq]
  unfold rowV lRow
  simp only []
  have e0 : (2 * (0 + (k : Int)) + 1 : Int) = 2 * (k : Int) + 1 := by omega
  rw [e0]
  have h5 := ratNe (show 0 < 2 * (k : Int) + 1 by omega)
  generalize p ^ (2 * k + 1) = y
  have : ((2 : Int) : Rat) = 2 := by decide +kernel
  rw [this]
  grind
theorem log_sum_eq (p : Rat) (m : Nat) : sumV p ((List.range m).map lRow) = 2 * lS p m := sumV_range p lRow (fun m => 2 * lS p m) (by show 2 * (0 : Rat) = 0; decide +kernel) (fun k => by
  rw [lRow_v]
  show 2 * (lS p k + _) = _
  rw [Rat.mul_add]) m
/-! ### the rests -/
theorem own_ok {x : Int × Int} (hx : Pr 8 x) {f : Nat → Row} {m : Nat} (hf : ∀ k, k ≤ 12 → RowOk (f k)) (hm : m ≤ 12) : Pr 4400 (ownT x ((List.range m).map f)) ∧ vl (ownT x ((List.range m).map f)) = sumV (vl x) ((List.range m).map f) := by
  obtain ⟨h1, h2⟩ := rows_ok hf hm
  obtain ⟨k1, k2⟩ := fold_ok hx ((List.range m).map f) (0, 1) 1 h2 ⟨Big.zero, Big.one, by decide⟩
  refine ⟨pr_mono k1 (by omega), ?_⟩
  rw [show vl (0, 1) = 0 by decide +kernel, Rat.zero_add] at k2
  exact k2
theorem ra_vl {x : Int × Int} (hx : 0 < x.2) : vl ((x.1.natAbs : Int), x.2) = ra (vl x) := by
  have h1 := ratNe hx
  have e1 : vl x = (x.1 : Rat) / (x.2 : Rat) := rfl
  rw [e1, ra_over hx]
  have e2 : ra (x.1 : Rat) = ((x.1.natAbs : Int) : Rat) := Rat.ext rfl rfl
  rw [e2]
  rfl
theorem ownR_ok {x o : Int × Int} {e : Nat} {u : Int} (hx : Pr 8 x) (ho : Pr 4 o) (he : e ≤ 26) (hu : Big 140 u) (hp : 0 < u) : Pr 400 (ownR x o e u) ∧ vl (ownR x o e u) = vl o * ra (vl x) ^ e / (u : Rat) := by
  have e1 : 8 * e ≤ 8 * 26 := Nat.mul_le_mul_left 8 he
  refine ⟨⟨(ho.n.mul (hx.n.abs.pow e)).mono (by omega), ((ho.d.mul (hx.d.pow e)).mul hu).mono (by omega), Int.mul_pos (Int.mul_pos ho.pos (Int.pow_pos hx.pos)) hp⟩, ?_⟩
  have h1 := vl_mul (p := o) (q := ((x.1.natAbs : Int) ^ e, x.2 ^ e)) ho.pos (Int.pow_pos hx.pos)
  have h2 := vl_mul (p := (o.1 * (x.1.natAbs : Int) ^ e, o.2 * x.2 ^ e)) (q := (1, u)) (Int.mul_pos ho.pos (Int.pow_pos hx.pos)) hp
  rw [Int.mul_one, h1, vl_pow ((x.1.natAbs : Int), x.2) hx.pos, ra_vl hx.pos] at h2
  show vl (o.1 * (x.1.natAbs : Int) ^ e, o.2 * x.2 ^ e * u) = _
  rw [h2]
  have h3 : vl (1, u) = 1 / (u : Rat) := rfl
  rw [h3]
  have h4 := ratNe hp
  grind
theorem ra_row (x : Rat) (s : Int) (e : Nat) {u : Int} (h : 0 < u) (hs : s = 1 ∨ s = -1) : ra (rowV x (s, e, u)) = ra x ^ e / (u : Rat) := by
  unfold rowV
  simp only []
  rw [ra_over h, ra_mul, ra_pow]
  have : ra (s : Rat) = 1 := by rcases hs with rfl | rfl <;> decide +kernel
  rw [this, Rat.one_mul]
theorem sgn_or (k : Nat) : 1 - 2 * ((k : Int) % 2) = 1 ∨ 1 - 2 * ((k : Int) % 2) = -1 := by omega
/-- what the law reckons of a sum and its rest -/
structure Own (S r : Rat) (T Q : Int × Int) : Prop where
  t : Pr 4400 T
  q : Pr 400 Q
  vt : vl T = S
  vq : vl Q = r
theorem exp_own {x : Rat} (hx : Sz 8 x) {m : Nat} (hm : m ≤ 12) : Own (expS x m) (2 * ra (expT x m)) (ownT (x.num, (x.den : Int)) ((List.range m).map eRow)) (ownR (x.num, (x.den : Int)) (2, 1) m (fac m)) := by
  obtain ⟨h1, h2⟩ := own_ok (pr_rd hx) (fun k => eRow_ok (k := k)) hm
  obtain ⟨h3, h4⟩ := ownR_ok (e := m) (u := fac m) (pr_rd hx) (show Pr 4 (2, 1) from ⟨⟨by decide⟩, ⟨by decide⟩, by decide⟩) (by omega) ((fac_big (by omega)).mono (by omega)) (fac_pos m)
  rw [vl_rd] at h2 h4
  refine ⟨h1, h3, h2.trans (exp_sum_eq x m), ?_⟩
  rw [h4, expT_eq, ra_over (fac_pos m), ra_pow, show vl (2, 1) = 2 by decide +kernel]
  have := ratNe (fac_pos m)
  grind
theorem sine_own {x : Rat} (hx : Sz 8 x) {m : Nat} (hm : m ≤ 12) : Own (cS x x 1 m) (ra (cT x x 1 m)) (ownT (x.num, (x.den : Int)) ((List.range m).map sRow)) (ownR (x.num, (x.den : Int)) (1, 1) (2 * m + 1) (fac (2 * m + 1))) := by
  obtain ⟨h1, h2⟩ := own_ok (pr_rd hx) (fun k => sRow_ok (k := k)) hm
  obtain ⟨h3, h4⟩ := ownR_ok (e := 2 * m + 1) (u := fac (2 * m + 1)) (pr_rd hx) (show Pr 4 (1, 1) from ⟨⟨by decide⟩, ⟨by decide⟩, by decide⟩) (by omega) ((fac_big (by omega)).mono (by omega)) (fac_pos _)
  rw [vl_rd] at h2 h4
  refine ⟨h1, h3, h2.trans (sine_sum_eq x m), ?_⟩
  rw [h4, ← sRow_v, show sRow m = (1 - 2 * ((m : Int) % 2), 2 * m + 1, fac (2 * m + 1)) from rfl, ra_row x _ _ (fac_pos _) (sgn_or m), show vl (1, 1) = 1 by decide +kernel, Rat.one_mul]
theorem cos_own {x : Rat} (hx : Sz 8 x) {m : Nat} (hm : m ≤ 12) : Own (cS x 1 0 m) (ra (cT x 1 0 m)) (ownT (x.num, (x.den : Int)) ((List.range m).map cRow)) (ownR (x.num, (x.den : Int)) (1, 1) (2 * m) (fac (2 * m))) := by
  obtain ⟨h1, h2⟩ := own_ok (pr_rd hx) (fun k => cRow_ok (k := k)) hm
  obtain ⟨h3, h4⟩ := ownR_ok (e := 2 * m) (u := fac (2 * m)) (pr_rd hx) (show Pr 4 (1, 1) from ⟨⟨by decide⟩, ⟨by decide⟩, by decide⟩) (by omega) ((fac_big (by omega)).mono (by omega)) (fac_pos _)
  rw [vl_rd] at h2 h4
  refine ⟨h1, h3, h2.trans (cos_sum_eq x m), ?_⟩
  rw [h4, ← cRow_v, show cRow m = (1 - 2 * ((m : Int) % 2), 2 * m, fac (2 * m)) from rfl, ra_row x _ _ (fac_pos _) (sgn_or m), show vl (1, 1) = 1 by decide +kernel, Rat.one_mul]
theorem part_vl (x : Rat) (h : 0 < x.num) : vl (x.num - (x.den : Int), x.num + (x.den : Int)) = (x - 1) / (x + 1) := by
  have h0 := den_pos x
  have h1 := ratNe h0
  have h2 := ratNe (show 0 < x.num + (x.den : Int) by omega)
  have e := val_eq x
  have h3 : (0 : Rat) < x := by
    rw [Rat.lt_iff]
    show 0 * (x.den : Int) < x.num * 1
    omega
  unfold vl
  simp only []
  rw [Rat.intCast_add, Rat.intCast_sub] at *
  grind
theorem log_own {x : Rat} (hx : Pr 8 (x.num - (x.den : Int), x.num + (x.den : Int))) (h0 : 0 < x.num) {m : Nat} (hm : m ≤ 12) : Own (2 * lS ((x - 1) / (x + 1)) m) (ra (lP ((x - 1) / (x + 1)) m) * (((9 : Int) : Rat) / ((4 * (2 * (m : Int) + 1) : Int) : Rat)))
    (ownT (x.num - (x.den : Int), x.num + (x.den : Int)) ((List.range m).map lRow)) (ownR (x.num - (x.den : Int), x.num + (x.den : Int)) (9, 4) (2 * m + 1) (2 * (m : Int) + 1)) := by
  obtain ⟨h1, h2⟩ := own_ok hx (fun k => lRow_ok (k := k)) hm
  have hu : Big 140 (2 * (m : Int) + 1) := Big.mono (a := 5) ⟨by show _ < 32; omega⟩ (by decide)
  have hq : 0 < 2 * (m : Int) + 1 := by omega
  obtain ⟨h3, h4⟩ := ownR_ok (e := 2 * m + 1) hx (show Pr 4 (9, 4) from ⟨⟨by decide⟩, ⟨by decide⟩, by decide⟩) (by omega) hu hq
  rw [part_vl x h0] at h2 h4
  refine ⟨h1, h3, h2.trans (log_sum_eq _ m), ?_⟩
  rw [h4, lP_eq, ra_pow, show vl (9, 4) = 9 / 4 by decide +kernel, Rat.intCast_mul]
  have h5 := ratNe hq
  generalize ra ((x - 1) / (x + 1)) ^ (2 * m + 1) = y
  have e9 : ((9 : Int) : Rat) = 9 := by decide +kernel
  have e4 : ((4 : Int) : Rat) = 4 := by decide +kernel
  rw [e9, e4]
  grind
/-! ### they meet -/
theorem exp_meet (x : Rat) (m : Nat) : expS x (m + 1) - 2 * ra (expT x (m + 1)) ≤ expS x m + 2 * ra (expT x m) ∧ expS x m - 2 * ra (expT x m) ≤ expS x (m + 1) + 2 * ra (expT x (m + 1)) := by
  have h1 := ra_le (expT x m)
  have h2 := ra_nonneg (expT x m)
  have h3 := ra_nonneg (expT x (m + 1))
  have e : expS x (m + 1) = expS x m + expT x m := rfl
  rw [e]
  constructor <;> grind
theorem circ_meet (x f : Rat) (b : Int) (m : Nat) : cS x f b (m + 1) - ra (cT x f b (m + 1)) ≤ cS x f b m + ra (cT x f b m) ∧ cS x f b m - ra (cT x f b m) ≤ cS x f b (m + 1) + ra (cT x f b (m + 1)) := by
  have h1 := ra_le (cT x f b m)
  have h3 := ra_nonneg (cT x f b (m + 1))
  have e : cS x f b (m + 1) = cS x f b m + cT x f b m := rfl
  rw [e]
  constructor <;> grind
theorem log_meet (p : Rat) (m : Nat) : 2 * lS p (m + 1) - ra (lP p (m + 1)) * (((9 : Int) : Rat) / ((4 * (2 * ((m + 1 : Nat) : Int) + 1) : Int) : Rat)) ≤ 2 * lS p m + ra (lP p m) * (((9 : Int) : Rat) / ((4 * (2 * (m : Int) + 1) : Int) : Rat)) ∧
    2 * lS p m - ra (lP p m) * (((9 : Int) : Rat) / ((4 * (2 * (m : Int) + 1) : Int) : Rat)) ≤ 2 * lS p (m + 1) + ra (lP p (m + 1)) * (((9 : Int) : Rat) / ((4 * (2 * ((m + 1 : Nat) : Int) + 1) : Int) : Rat)) := by
  have h1 := ra_le (lP p m)
  have q : ∀ k : Nat, ∃ z : Rat, 0 ≤ z ∧ ((9 : Int) : Rat) / ((4 * (2 * (k : Int) + 1) : Int) : Rat) = 9 / 4 * z ∧ 1 / ((2 * (0 + (k : Int)) + 1 : Int) : Rat) = z := fun k => by
    have hq : 0 < 2 * (k : Int) + 1 := by omega
    have h5 := ratNe hq
    have e0 : (2 * (0 + (k : Int)) + 1 : Int) = 2 * (k : Int) + 1 := by omega
    refine ⟨1 / ((2 * (k : Int) + 1 : Int) : Rat), ?_, ?_, by rw [e0]⟩
    · have := Rat.inv_pos (a := ((2 * (k : Int) + 1 : Int) : Rat)) |>.mpr (by exact_mod_cast hq)
      rw [Rat.div_def, Rat.one_mul]
      exact Rat.le_of_lt this
    · rw [Rat.intCast_mul]
      have e9 : ((9 : Int) : Rat) = 9 := by decide +kernel
      have e4 : ((4 : Int) : Rat) = 4 := by decide +kernel
      rw [e9, e4]
      grind
  obtain ⟨z, hz, e1, e2⟩ := q m
  obtain ⟨z', hz', e1', _⟩ := q (m + 1)
  have e : lS p (m + 1) = lS p m + lP p m * (1 / ((2 * (0 + (m : Int)) + 1 : Int) : Rat)) := rfl
  rw [e, e1, e2, e1']
  have a1 := Rat.mul_nonneg (ra_nonneg (lP p (m + 1))) hz'
  have a2 := Rat.mul_nonneg (ra_nonneg (lP p m)) hz
  have a3 := Rat.mul_le_mul_of_nonneg_right h1.1 hz
  have a4 := Rat.mul_le_mul_of_nonneg_right h1.2 hz
  constructor <;> grind
/-! ### products and squares about 1 -/
theorem ra_one {x : Rat} (h1 : -1 ≤ x) (h2 : x ≤ 1) : ra x ≤ 1 := by rcases ra_or x with e | e <;> rw [e] <;> grind
theorem ra_neg (x : Rat) : ra (-x) = ra x := Rat.ext (by show ((-x).num.natAbs : Int) = (x.num.natAbs : Int); rw [Rat.neg_num, Int.natAbs_neg]) rfl
/-- the powers of a number from 0 to 1 -/
theorem pows {a : Rat} (h0 : 0 ≤ a) (h1 : a ≤ 1) : ∀ n : Nat, 0 ≤ a ^ n ∧ a ^ (n + 1) ≤ a ^ n := fun n => by
  have h := Rat.pow_nonneg (n := n) h0
  refine ⟨h, ?_⟩
  rw [Rat.pow_succ]
  have := Rat.mul_le_mul_of_nonneg_left h1 h
  rw [Rat.mul_one] at this
  exact this
theorem expS_1 (x : Rat) : expS x 1 = 1 := by show (0 : Rat) + 1 = 1; decide +kernel
theorem expS_2 (x : Rat) : expS x 2 = 1 + x := by
  show expS x 1 + expT x 1 = _
  rw [expS_1, expT_eq, show (fac 1 : Rat) = 1 by decide +kernel]
  grind
theorem expS_3 (x : Rat) : expS x 3 = 1 + x + x ^ 2 / 2 := by
  show expS x 2 + expT x 2 = _
  rw [expS_2, expT_eq, show (fac 2 : Rat) = 2 by decide +kernel]
theorem expS_4 (x : Rat) : expS x 4 = 1 + x + x ^ 2 / 2 + x ^ 3 / 6 := by
  show expS x 3 + expT x 3 = _
  rw [expS_3, expT_eq, show (fac 3 : Rat) = 6 by decide +kernel]
theorem ra_expT (x : Rat) (m : Nat) : ra (expT x m) = ra x ^ m / (fac m : Rat) := by rw [expT_eq, ra_over (fac_pos m), ra_pow]
/-- exp of x times that of -x, of x and -x alike -/
theorem exp_about {a : Rat} (h0 : 0 ≤ a) (h1 : a ≤ 1) {m : Nat} (hm : 1 ≤ m ∧ m ≤ 4) :
    (expS a m - 2 * (a ^ m / (fac m : Rat))) * (expS (-a) m - 2 * (a ^ m / (fac m : Rat))) ≤ 1 ∧ 1 ≤ (expS a m + 2 * (a ^ m / (fac m : Rat))) * (expS (-a) m + 2 * (a ^ m / (fac m : Rat))) := by
  have p := pows h0 h1
  have p1 := p 1
  have p2 := p 2
  have p3 := p 3
  have p4 := p 4
  have p5 := p 5
  have p6 := p 6
  have p7 := p 7
  have p8 := p 8
  have hm' : m = 1 ∨ m = 2 ∨ m = 3 ∨ m = 4 := by omega
  rcases hm' with rfl | rfl | rfl | rfl
  · rw [expS_1, expS_1, show (fac 1 : Rat) = 1 by decide +kernel]
    constructor <;> grind
  · rw [expS_2, expS_2, show (fac 2 : Rat) = 2 by decide +kernel]
    constructor <;> grind
  · rw [expS_3, expS_3, show (fac 3 : Rat) = 6 by decide +kernel]
    constructor <;> grind
  · rw [expS_4, expS_4, show (fac 4 : Rat) = 24 by decide +kernel]
    constructor <;> grind
theorem exp_one {x : Rat} (h1 : -1 ≤ x) (h2 : x ≤ 1) {m : Nat} (hm : 1 ≤ m ∧ m ≤ 4) :
    (expS x m - 2 * ra (expT x m)) * (expS (-x) m - 2 * ra (expT (-x) m)) ≤ 1 ∧ 1 ≤ (expS x m + 2 * ra (expT x m)) * (expS (-x) m + 2 * ra (expT (-x) m)) := by
  rw [ra_expT, ra_expT, ra_neg]
  have ha := ra_nonneg x
  have hb := ra_one h1 h2
  have h := exp_about ha hb hm
  rcases ra_or x with e | e
  · rw [e] at h ⊢
    exact h
  · rw [e] at h ⊢
    rw [Rat.neg_neg] at h
    rw [Rat.mul_comm (expS x m - _), Rat.mul_comm (expS x m + _)]
    exact h
theorem sS_1 (x : Rat) : cS x x 1 1 = x := by show 0 + x = x; rw [Rat.zero_add]
theorem sT_v (x : Rat) (k : Nat) : cT x x 1 k = ((1 - 2 * ((k : Int) % 2) : Int) : Rat) * x ^ (2 * k + 1) / (fac (2 * k + 1) : Rat) := (sRow_v x k).symm
theorem cT_v (x : Rat) (k : Nat) : cT x 1 0 k = ((1 - 2 * ((k : Int) % 2) : Int) : Rat) * x ^ (2 * k) / (fac (2 * k) : Rat) := (cRow_v x k).symm
theorem sS_2 (x : Rat) : cS x x 1 2 = x - x ^ 3 / 6 := by
  show cS x x 1 1 + cT x x 1 1 = _
  rw [sS_1, sT_v, show (fac (2 * 1 + 1) : Rat) = 6 by decide +kernel, show ((1 - 2 * (((1 : Nat) : Int) % 2) : Int) : Rat) = -1 by decide +kernel]
  grind
theorem sS_3 (x : Rat) : cS x x 1 3 = x - x ^ 3 / 6 + x ^ 5 / 120 := by
  show cS x x 1 2 + cT x x 1 2 = _
  rw [sS_2, sT_v, show (fac (2 * 2 + 1) : Rat) = 120 by decide +kernel, show ((1 - 2 * (((2 : Nat) : Int) % 2) : Int) : Rat) = 1 by decide +kernel]
  grind
theorem sS_4 (x : Rat) : cS x x 1 4 = x - x ^ 3 / 6 + x ^ 5 / 120 - x ^ 7 / 5040 := by
  show cS x x 1 3 + cT x x 1 3 = _
  rw [sS_3, sT_v, show (fac (2 * 3 + 1) : Rat) = 5040 by decide +kernel, show ((1 - 2 * (((3 : Nat) : Int) % 2) : Int) : Rat) = -1 by decide +kernel]
  grind
theorem cS_1 (x : Rat) : cS x 1 0 1 = 1 := by show (0 : Rat) + 1 = 1; decide +kernel
theorem cS_2 (x : Rat) : cS x 1 0 2 = 1 - x ^ 2 / 2 := by
  show cS x 1 0 1 + cT x 1 0 1 = _
  rw [cS_1, cT_v, show (fac (2 * 1) : Rat) = 2 by decide +kernel, show ((1 - 2 * (((1 : Nat) : Int) % 2) : Int) : Rat) = -1 by decide +kernel]
  grind
theorem cS_3 (x : Rat) : cS x 1 0 3 = 1 - x ^ 2 / 2 + x ^ 4 / 24 := by
  show cS x 1 0 2 + cT x 1 0 2 = _
  rw [cS_2, cT_v, show (fac (2 * 2) : Rat) = 24 by decide +kernel, show ((1 - 2 * (((2 : Nat) : Int) % 2) : Int) : Rat) = 1 by decide +kernel]
  grind
theorem cS_4 (x : Rat) : cS x 1 0 4 = 1 - x ^ 2 / 2 + x ^ 4 / 24 - x ^ 6 / 720 := by
  show cS x 1 0 3 + cT x 1 0 3 = _
  rw [cS_3, cT_v, show (fac (2 * 3) : Rat) = 720 by decide +kernel, show ((1 - 2 * (((3 : Nat) : Int) % 2) : Int) : Rat) = -1 by decide +kernel]
  grind
theorem ra_sT (x : Rat) (m : Nat) : ra (cT x x 1 m) = ra x ^ (2 * m + 1) / (fac (2 * m + 1) : Rat) := by rw [← sRow_v]; exact ra_row x _ _ (fac_pos _) (sgn_or m)
theorem ra_cT (x : Rat) (m : Nat) : ra (cT x 1 0 m) = ra x ^ (2 * m) / (fac (2 * m) : Rat) := by rw [← cRow_v]; exact ra_row x _ _ (fac_pos _) (sgn_or m)
theorem circ_about {a : Rat} (h0 : 0 ≤ a) (h1 : a ≤ 1) {m : Nat} (hm : 1 ≤ m ∧ m ≤ 4) :
    (cS a a 1 m - a ^ (2 * m + 1) / (fac (2 * m + 1) : Rat)) * (cS a a 1 m - a ^ (2 * m + 1) / (fac (2 * m + 1) : Rat)) + (cS a 1 0 m - a ^ (2 * m) / (fac (2 * m) : Rat)) * (cS a 1 0 m - a ^ (2 * m) / (fac (2 * m) : Rat)) ≤ 1 ∧
    1 ≤ (cS a a 1 m + a ^ (2 * m + 1) / (fac (2 * m + 1) : Rat)) * (cS a a 1 m + a ^ (2 * m + 1) / (fac (2 * m + 1) : Rat)) + (cS a 1 0 m + a ^ (2 * m) / (fac (2 * m) : Rat)) * (cS a 1 0 m + a ^ (2 * m) / (fac (2 * m) : Rat)) := by
  have p := pows h0 h1
  have p1 := p 1
  have p2 := p 2
  have p3 := p 3
  have p4 := p 4
  have p5 := p 5
  have p6 := p 6
  have p7 := p 7
  have p8 := p 8
  have p9 := p 9
  have p10 := p 10
  have p11 := p 11
  have p12 := p 12
  have p13 := p 13
  have p14 := p 14
  have p15 := p 15
  have p16 := p 16
  have p17 := p 17
  have hm' : m = 1 ∨ m = 2 ∨ m = 3 ∨ m = 4 := by omega
  rcases hm' with rfl | rfl | rfl | rfl
  · rw [sS_1, cS_1, show (fac (2 * 1 + 1) : Rat) = 6 by decide +kernel, show (fac (2 * 1) : Rat) = 2 by decide +kernel]
    constructor <;> grind
  · rw [sS_2, cS_2, show (fac (2 * 2 + 1) : Rat) = 120 by decide +kernel, show (fac (2 * 2) : Rat) = 24 by decide +kernel]
    constructor <;> grind
  · rw [sS_3, cS_3, show (fac (2 * 3 + 1) : Rat) = 5040 by decide +kernel, show (fac (2 * 3) : Rat) = 720 by decide +kernel]
    constructor <;> grind
  · rw [sS_4, cS_4, show (fac (2 * 4 + 1) : Rat) = 362880 by decide +kernel, show (fac (2 * 4) : Rat) = 40320 by decide +kernel]
    constructor <;> grind
theorem odd_even (a : Rat) {m : Nat} (hm : 1 ≤ m ∧ m ≤ 4) : cS (-a) (-a) 1 m = -cS a a 1 m ∧ cS (-a) 1 0 m = cS a 1 0 m := by
  have hm' : m = 1 ∨ m = 2 ∨ m = 3 ∨ m = 4 := by omega
  rcases hm' with rfl | rfl | rfl | rfl
  · rw [sS_1, sS_1, cS_1, cS_1]
    exact ⟨rfl, rfl⟩
  · rw [sS_2, sS_2, cS_2, cS_2]
    constructor <;> grind
  · rw [sS_3, sS_3, cS_3, cS_3]
    constructor <;> grind
  · rw [sS_4, sS_4, cS_4, cS_4]
    constructor <;> grind
theorem circ_one {x : Rat} (h1 : -1 ≤ x) (h2 : x ≤ 1) {m : Nat} (hm : 1 ≤ m ∧ m ≤ 4) :
    ((cS x x 1 m - ra (cT x x 1 m)) * (cS x x 1 m - ra (cT x x 1 m)) + (cS x 1 0 m - ra (cT x 1 0 m)) * (cS x 1 0 m - ra (cT x 1 0 m)) ≤ 1 ∨ (cS x x 1 m + ra (cT x x 1 m)) * (cS x x 1 m + ra (cT x x 1 m)) + (cS x 1 0 m - ra (cT x 1 0 m)) * (cS x 1 0 m - ra (cT x 1 0 m)) ≤ 1) ∧
    (1 ≤ (cS x x 1 m - ra (cT x x 1 m)) * (cS x x 1 m - ra (cT x x 1 m)) + (cS x 1 0 m + ra (cT x 1 0 m)) * (cS x 1 0 m + ra (cT x 1 0 m)) ∨ 1 ≤ (cS x x 1 m + ra (cT x x 1 m)) * (cS x x 1 m + ra (cT x x 1 m)) + (cS x 1 0 m + ra (cT x 1 0 m)) * (cS x 1 0 m + ra (cT x 1 0 m))) := by
  rw [ra_sT, ra_cT]
  have h := circ_about (ra_nonneg x) (ra_one h1 h2) hm
  rcases ra_or x with e | e
  · rw [e] at h ⊢
    exact ⟨.inl h.1, .inr h.2⟩
  · have o := odd_even x hm
    rw [e] at h ⊢
    rw [o.1, o.2] at h
    generalize (-x) ^ (2 * m + 1) / (fac (2 * m + 1) : Rat) = q at *
    generalize (-x) ^ (2 * m) / (fac (2 * m) : Rat) = d at *
    generalize cS x x 1 m = u at *
    generalize cS x 1 0 m = c at *
    exact ⟨.inr (by grind), .inl (by grind)⟩
theorem le_of_vl {p q : Int × Int} {a b : Nat} (hp : Pr a p) (hq : Pr b q) (h : vl q ≤ vl p) : 0 ≤ (pSub p q).1 := by
  have e := vl_pSub hp hq
  refine (vl_nonneg (p := pSub p q) (pr_sub hp hq).pos).mp ?_
  rw [e]
  grind
def pMul (p q : Int × Int) : Int × Int := (p.1 * q.1, p.2 * q.2)
theorem pr_mul {a b : Nat} {p q : Int × Int} (h : Pr a p) (k : Pr b q) : Pr (a + b) (pMul p q) := ⟨h.n.mul k.n, h.d.mul k.d, Int.mul_pos h.pos k.pos⟩
theorem lt_of_vl {p q : Int × Int} {a b : Nat} (hp : Pr a p) (hq : Pr b q) : (pSub p q).1 < 0 ↔ vl p < vl q := by
  have e := vl_pSub hp hq
  have h := vl_nonneg (p := pSub p q) (pr_sub hp hq).pos
  rw [e] at h
  constructor
  · intro c
    refine Rat.not_le.mp fun z => ?_
    have := h.mp (by grind)
    omega
  · intro c
    refine Int.not_le.mp fun z => ?_
    have := h.mpr z
    grind
theorem gt_of_vl {p q : Int × Int} {a b : Nat} (hp : Pr a p) (hq : Pr b q) : 0 < (pSub p q).1 ↔ vl q < vl p := by
  have e := vl_pSub hp hq
  have h1 := (vl_nonneg (p := pSub p q) (pr_sub hp hq).pos)
  have h2 := lt_of_vl hp hq
  have h3 : (pSub p q).1 = 0 ↔ vl p = vl q := by
    rw [vl_eq hp.pos hq.pos]
    show p.1 * q.2 - q.1 * p.2 = 0 ↔ _
    omega
  constructor
  · intro c
    refine Rat.not_le.mp fun z => ?_
    rcases Rat.le_iff_lt_or_eq.mp z with w | w
    · have := h2.mpr w
      omega
    · have := h3.mpr w
      omega
  · intro c
    refine Int.not_le.mp fun z => ?_
    rcases Int.lt_or_eq_of_le z with w | w
    · have := h2.mp w
      grind
    · have := h3.mp w
      grind
theorem q_le_iff {n u : Int} {c : Rat} (h : 0 < u) : (n : Rat) / (u : Rat) ≤ c ↔ (n : Rat) ≤ c * (u : Rat) := by
  have hu : (0 : Rat) < (u : Rat) := by exact_mod_cast h
  have e : (n : Rat) / (u : Rat) * (u : Rat) = n := Rat.div_mul_cancel (ratNe h)
  constructor
  · intro z
    have := Rat.mul_le_mul_of_nonneg_right z (Rat.le_of_lt hu)
    rw [e] at this
    exact this
  · intro z
    refine Rat.le_of_mul_le_mul_right (c := (u : Rat)) ?_ hu
    rw [e]
    exact z
theorem le_q_iff {n u : Int} {c : Rat} (h : 0 < u) : c ≤ (n : Rat) / (u : Rat) ↔ c * (u : Rat) ≤ (n : Rat) := by
  have hu : (0 : Rat) < (u : Rat) := by exact_mod_cast h
  have e : (n : Rat) / (u : Rat) * (u : Rat) = n := Rat.div_mul_cancel (ratNe h)
  constructor
  · intro z
    have := Rat.mul_le_mul_of_nonneg_right z (Rat.le_of_lt hu)
    rw [e] at this
    exact this
  · intro z
    refine Rat.le_of_mul_le_mul_right (c := (u : Rat)) ?_ hu
    rw [e]
    exact z
/-- the ratios that are drawn: near 0, or near 1 -/
structure Near (x : Rat) : Prop where
  lo : -1 ≤ x
  hi : x ≤ 1
  den : (x.den : Int) ≤ 40
structure Mid (x : Rat) : Prop where
  lo : 1 ≤ 2 * x
  hi : x ≤ 2
  den : (x.den : Int) ≤ 40
theorem frac_den_le {n u : Int} (h : 0 < u) (l : u ≤ 40) : ((((n : Rat) / (u : Rat)).den : Nat) : Int) ≤ 40 := by
  rw [frac_den h]
  have := Int.ediv_le_self (a := u) (Nat.gcd n.natAbs u.natAbs : Int) (by omega)
  omega
theorem near_of {n u : Int} (h : 0 < u) (l : u ≤ 40) (h1 : -u ≤ n) (h2 : n ≤ u) : Near ((n : Rat) / (u : Rat)) := by
  refine ⟨(le_q_iff h).mpr ?_, (q_le_iff h).mpr ?_, frac_den_le h l⟩
  · have : ((-u : Int) : Rat) ≤ (n : Rat) := by exact_mod_cast h1
    rw [Rat.intCast_neg] at this
    grind
  · have : (n : Rat) ≤ (u : Rat) := by exact_mod_cast h2
    grind
theorem mid_of {n u : Int} (h : 0 < u) (l : u ≤ 40) (h1 : u ≤ 2 * n) (h2 : n ≤ 2 * u) : Mid ((n : Rat) / (u : Rat)) := by
  refine ⟨?_, (q_le_iff h).mpr ?_, frac_den_le h l⟩
  · have e : (1 / 2 : Rat) ≤ (n : Rat) / (u : Rat) := by
      refine (le_q_iff h).mpr ?_
      have : (u : Rat) ≤ ((2 * n : Int) : Rat) := by exact_mod_cast h1
      rw [Rat.intCast_mul, show ((2 : Int) : Rat) = 2 by decide +kernel] at this
      grind
    grind
  · have : (n : Rat) ≤ ((2 * u : Int) : Rat) := by exact_mod_cast h2
    rw [Rat.intCast_mul, show ((2 : Int) : Rat) = 2 by decide +kernel] at this
    exact this
theorem near_num {x : Rat} (h : Near x) : (x.num.natAbs : Int) ≤ x.den ∧ Sz 8 x := by
  have h0 := den_pos x
  have h1 := h.lo
  have h2 := h.hi
  rw [Rat.le_iff] at h1 h2
  have e1 : (-1 : Int) * (x.den : Int) ≤ x.num * 1 := h1
  have e2 : x.num * 1 ≤ 1 * (x.den : Int) := h2
  have h3 := h.den
  exact ⟨by omega, ⟨by show _ < 256; omega⟩, ⟨by show _ < 256; omega⟩⟩
theorem mid_num {x : Rat} (h : Mid x) : (x.den : Int) ≤ 2 * x.num ∧ x.num ≤ 2 * (x.den : Int) ∧ Sz 8 x ∧ Pr 8 (x.num - (x.den : Int), x.num + (x.den : Int)) := by
  have h0 := den_pos x
  have h2 := h.hi
  have h1 : (1 / 2 : Rat) ≤ x := by have := h.lo; grind
  rw [Rat.le_iff] at h1 h2
  rw [show ((1 / 2 : Rat)).num = 1 by decide +kernel, show (1 / 2 : Rat).den = 2 by decide +kernel] at h1
  have e1 : (1 : Int) * (x.den : Int) ≤ x.num * 2 := h1
  have e2 : x.num * 1 ≤ 2 * (x.den : Int) := h2
  have h3 := h.den
  exact ⟨by omega, by omega, ⟨⟨by show _ < 256; omega⟩, ⟨by show _ < 256; omega⟩⟩, ⟨by show _ < 256; omega⟩, ⟨by show _ < 256; omega⟩, by show 0 < x.num + (x.den : Int); omega⟩
theorem ne_exp_between_sine_between : (Str.ofString "exp_between" = Str.ofString "sine_between") = False := by decide
theorem ne_exp_between_cosine_between : (Str.ofString "exp_between" = Str.ofString "cosine_between") = False := by decide
theorem ne_exp_between_log_between : (Str.ofString "exp_between" = Str.ofString "log_between") = False := by decide
theorem ne_sine_between_exp_between : (Str.ofString "sine_between" = Str.ofString "exp_between") = False := by decide
theorem ne_sine_between_cosine_between : (Str.ofString "sine_between" = Str.ofString "cosine_between") = False := by decide
theorem ne_sine_between_log_between : (Str.ofString "sine_between" = Str.ofString "log_between") = False := by decide
theorem ne_cosine_between_exp_between : (Str.ofString "cosine_between" = Str.ofString "exp_between") = False := by decide
theorem ne_cosine_between_sine_between : (Str.ofString "cosine_between" = Str.ofString "sine_between") = False := by decide
theorem ne_cosine_between_log_between : (Str.ofString "cosine_between" = Str.ofString "log_between") = False := by decide
theorem ne_log_between_exp_between : (Str.ofString "log_between" = Str.ofString "exp_between") = False := by decide
theorem ne_log_between_sine_between : (Str.ofString "log_between" = Str.ofString "sine_between") = False := by decide
theorem ne_log_between_cosine_between : (Str.ofString "log_between" = Str.ofString "cosine_between") = False := by decide
theorem ne__law_exp__law_sine : (Str.ofString "_law_exp" = Str.ofString "_law_sine") = False := by decide
theorem ne__law_exp__law_cosine : (Str.ofString "_law_exp" = Str.ofString "_law_cosine") = False := by decide
theorem ne__law_exp__law_log : (Str.ofString "_law_exp" = Str.ofString "_law_log") = False := by decide
theorem ne__law_sine__law_exp : (Str.ofString "_law_sine" = Str.ofString "_law_exp") = False := by decide
theorem ne__law_sine__law_cosine : (Str.ofString "_law_sine" = Str.ofString "_law_cosine") = False := by decide
theorem ne__law_sine__law_log : (Str.ofString "_law_sine" = Str.ofString "_law_log") = False := by decide
theorem ne__law_cosine__law_exp : (Str.ofString "_law_cosine" = Str.ofString "_law_exp") = False := by decide
theorem ne__law_cosine__law_sine : (Str.ofString "_law_cosine" = Str.ofString "_law_sine") = False := by decide
theorem ne__law_cosine__law_log : (Str.ofString "_law_cosine" = Str.ofString "_law_log") = False := by decide
theorem ne__law_log__law_exp : (Str.ofString "_law_log" = Str.ofString "_law_exp") = False := by decide
theorem ne__law_log__law_sine : (Str.ofString "_law_log" = Str.ofString "_law_sine") = False := by decide
theorem ne__law_log__law_cosine : (Str.ofString "_law_log" = Str.ofString "_law_cosine") = False := by decide
theorem exp_ends {x : Rat} (h : Sz 8 x) {m : Nat} (hm : m ≤ 12) : Sz (200 + 170 * m) (expS x m - 2 * ra (expT x m)) ∧ Sz (200 + 170 * m) (expS x m + 2 * ra (expT x m)) := by
  have s2 : Sz 2 2 := ⟨⟨by decide⟩, ⟨by decide⟩⟩
  have a := expS_sz h hm
  have b := s2.mul (sz_ra (expT_sz h hm))
  exact ⟨(a.sub b).mono (by omega), (a.add b).mono (by omega)⟩
theorem circ_ends {x f : Rat} {b : Int} (h : Sz 8 x) (hf : Sz 8 f) (h0 : 0 ≤ b) (h1 : b ≤ 1) {m : Nat} (hm : m ≤ 12) : Sz (200 + 380 * m) (cS x f b m - ra (cT x f b m)) ∧ Sz (200 + 380 * m) (cS x f b m + ra (cT x f b m)) := by
  have a := cS_sz h hf h0 h1 hm
  have b := sz_ra (cT_sz h hf h0 h1 hm)
  exact ⟨(a.sub b).mono (by omega), (a.add b).mono (by omega)⟩
theorem log_ends {p : Rat} (h : Sz 20 p) {m : Nat} (hm : m ≤ 12) : Sz 9000 (2 * lS p m - ra (lP p m) * (((9 : Int) : Rat) / ((4 * (2 * (m : Int) + 1) : Int) : Rat))) ∧ Sz 9000 (2 * lS p m + ra (lP p m) * (((9 : Int) : Rat) / ((4 * (2 * (m : Int) + 1) : Int) : Rat))) := by
  have s2 : Sz 2 2 := ⟨⟨by decide⟩, ⟨by decide⟩⟩
  have b1 : Big 8 (4 * (2 * (m : Int) + 1)) := ⟨by show _ < 256; omega⟩
  have s9 : Sz 8 (((9 : Int) : Rat) / ((4 * (2 * (m : Int) + 1) : Int) : Rat)) := Sz.of_frac (by omega) ⟨by decide⟩ b1
  have a := s2.mul (lS_sz h hm)
  have b := (sz_ra (lP_sz h (k := m))).mul s9
  exact ⟨(a.sub b).mono (by omega), (a.add b).mono (by omega)⟩
theorem part_sz {x : Rat} (hx : Sz 8 x) (h0 : 0 < x) : Sz 20 ((x - 1) / (x + 1)) := by
  have n1 : x + 1 ≠ 0 := by grind
  have p1 : 0 < (x + 1).num := by
    have : 0 < x + 1 := by grind
    rw [Rat.lt_iff] at this
    have t : 0 * ((x + 1).den : Int) < (x + 1).num * 1 := this
    omega
  have s1 := hx.sub Sz.one
  have s2 := hx.add Sz.one
  rw [div_frac _ _ n1]
  exact Sz.of_frac (Int.mul_pos (den_pos _) p1) (s1.n.mul s2.d) (s1.d.mul s2.n)
theorem prd {a : Nat} {x : Rat} (h : Sz a x) (b : Nat) (l : a ≤ b) : Pr b (x.num, (x.den : Int)) := pr_mono (pr_rd h) l
theorem s_refl (x : Str) : (x = x) = True := eq_self x
section
variable {P : Program} {w : World} {K : PySem.W.Frag} {mg : Str → Option Value} {base : Heap} {tabs : Tf}
def sp_ratio_of : SpD :=
  fun ds R => match ds with
  | [.int n, .int u] => (∃ a, a ≤ 8900 ∧ Big a n ∧ Big a u) ∧ u ≠ 0 ∧ R (rd ((n : Rat) / (u : Rat)))
  | _ => False
set_option maxHeartbeats 0 in
theorem ok_ratio_of (T : Txt K mg) (D0 : Dfn K mg "ratio_of" "ratio_of" s_ratio_of ["number", "under"] [])  : Cal P w K mg base tabs "ratio_of" 1 2 ["number", "under"] [] sp_ratio_of := by
  refine cal_of D0 sc_ratio_of fun f cdv A outer s H E p ht hg hk hr => ⟨_, (pdss_cons (pds_if (pdt_cmp opd_lt (pd_var 1) pd_int) (pdss_cons (pds_set (i := 0) sc_ratio_of.nd rfl (Or.inl rfl) (pd_un und_neg (pd_var 0)))
      (pdss_one (pds_set (i := 1) sc_ratio_of.nd rfl (Or.inl rfl) (pd_un und_neg (pd_var 1))))) pdss_nil)
      (pdss_cons (pds_set (i := 2) sc_ratio_of.nd rfl (Or.inl rfl) (pd_callFun cd_gcd rfl T.m_gcd (pda_cons (pd_var 0) (pda_cons (pd_var 1) pda_nil))))
      (pdss_one (pds_ret (pd_tup (pda_cons (pd_bin opd_div (pd_var 0) (pd_var 2)) (pda_cons (pd_bin opd_div (pd_var 1) (pd_var 2)) pda_nil))))))), ?_⟩
  intro ds R hl h; unfold sp_ratio_of at h; split at h
  all_goals (try exact False.elim h)
  all_goals clear hl hg hr hk ht
  rename_i n u
  obtain ⟨⟨a, ha, hn, hu⟩, h0, h⟩ := h
  simp (implicitDefEqProofs := false) (maxSteps := 3000000) only [startD, List.map_cons, List.map_nil, List.length_cons, List.length_nil, List.replicate, List.cons_append, List.nil_append, Nat.reduceAdd, Nat.reduceSub, Nat.zero_add, dSeq, dIfS, dOr, dAnd, dNot, dTst, dOp, dUn, dVar, dC, dB, dBK, dCons, dNil, dTup, dLst, dRet, dRetN, dNext, dNever, dAsg, dPar, dPar3, dIf, dAndV, dOrV, dNotV, dCh, dCt, cLast, cLink, tLast, tLink, dDrop, dFor, dBrk, dCnt, dOwn, dApp, dExt, dFree, gPutO, dIxO, dLend, dLendT, dLcF, gN, gTu, gCn, gNl, gP0, gP1, gII, gIIc, gAdd, gNeg, gIx, gEq, gNe, gIs, gIsNot, gIn, gNotIn, gSl, oNone, oSome, gMt, gIndex, cTuple, cList, cI1, cI2, cLen, cMax, cMin, cMaxT, cMinT, dAug, cAll, cAny, cRepr, cSqrt, cIsi, tyN, isNon, kb_tt, kb_ii, kb_ib, kb_bi, kb_bb, kb_it, kb_bt, kb_nt, kb_ni, kb_lt, kb_li, kb_ti, kb_si, kb_st, kb_ss, rd, dRgN, gEqF, dCallV, spOf, atD, ordD, dSq, dZip, zipD_map, ivD, dRg1, dRg2, dLc, dYes, dLcGo, dGen, dGenGo, wipeD, boolsOf, intsOf, maxL, minL, noL, noLs, Option.map_some, Option.bind_some, List.all_cons, List.all_nil, List.any_cons, List.any_nil, id_eq, List.set_cons_zero, List.set_cons_succ, List.getElem?_cons_zero, List.getElem?_cons_succ, List.getElem?_nil, List.getD_cons_zero, List.getD_cons_succ, decide_eq_true_eq, decide_eq_false_iff_not, Bool.not_eq_true', Bool.not_true, Bool.not_false, Bool.and_true, Bool.true_and, Bool.and_false, Bool.false_and, Bool.false_eq_true, if_true, if_false, reduceIte, ite_true, ite_false, true_and, and_true, reduceCtorEq, Int.toNat_zero, Int.toNat_one, Int.cast_ofNat_Int, Int.reduceLT, Int.reduceLE, Int.reduceNeg, Int.reduceToNat, Int.reducePow, Int.reduceMul, Int.reduceAdd, Int.reduceSub, decide_true, decide_false]
  refine ite2P (fun c => ?_) (fun c => ?_)
  · have e := rd_frac (n := -n) (u := -u) (by omega)
    rw [frac_flip] at e
    rw [e] at h
    exact ⟨gcdBD (by omega) hu.neg ha, gcdBD (by omega) hu.neg ha, h⟩
  · rw [rd_frac (by omega)] at h
    exact ⟨gcdBD h0 hu ha, gcdBD h0 hu ha, h⟩
def sp_ratio_plus : SpD :=
  fun ds R => ∃ (x y : Rat) (a b : Nat), ds = [rd x, rd y] ∧ Sz a x ∧ Sz b y ∧ a + b ≤ 8800 ∧ R (rd (x + y))
set_option maxHeartbeats 0 in
theorem ok_ratio_plus (T : Txt K mg) (D0 : Dfn K mg "ratio_plus" "ratio_plus" s_ratio_plus ["one", "other"] []) (C_ratio_of : Cal P w K mg base tabs "ratio_of" 1 2 ["number", "under"] [] sp_ratio_of) : Cal P w K mg base tabs "ratio_plus" 2 2 ["one", "other"] [] sp_ratio_plus := by
  refine cal_of D0 sc_ratio_plus fun f cdv A outer s H E p ht hg hk hr => ⟨_, (pdss_cons (pds_if (pdw_t (pdw_and (pdt_cmp (opd_eq hr.units) (pd_ix (pd_var 0) pd_int) pd_int) (pdw_and1 (pdt_cmp (opd_eq hr.units) (pd_ix (pd_var 1) pd_int) pd_int)))) (pdss_one (pds_ret (pd_tup (pda_cons (pd_bin opd_add (pd_ix (pd_var 0) pd_int) (pd_ix (pd_var 1) pd_int)) (pda_cons pd_int pda_nil))))) pdss_nil)
      (pdss_one (pds_ret (pdcC (C_ratio_of.cal ht) hg hr (pda_cons (pd_bin opd_add (pd_bin opd_mul (pd_ix (pd_var 0) pd_int) (pd_ix (pd_var 1) pd_int)) (pd_bin opd_mul (pd_ix (pd_var 1) pd_int) (pd_ix (pd_var 0) pd_int))) (pda_cons (pd_bin opd_mul (pd_ix (pd_var 0) pd_int) (pd_ix (pd_var 1) pd_int)) pda_nil)))))), ?_⟩
  intro ds R hl h; unfold sp_ratio_plus at h
  clear hl hg hr hk ht
  obtain ⟨x, y, a, b, rfl, hx, hy, hl, h⟩ := h
  have px := den_pos x
  have py := den_pos y
  have rest : MulC x.num (y.den : Int) ∧ MulC y.num (x.den : Int) ∧ MulC (x.den : Int) (y.den : Int) ∧ (∃ a, a ≤ 8900 ∧ Big a (x.num * (y.den : Int) + y.num * (x.den : Int)) ∧ Big a ((x.den : Int) * (y.den : Int))) ∧ (x.den : Int) * (y.den : Int) ≠ 0 ∧ R (rd (((x.num * (y.den : Int) + y.num * (x.den : Int) : Int) : Rat) / (((x.den : Int) * (y.den : Int) : Int) : Rat))) := by
    refine ⟨.big hx.n hy.d (by omega), .big hy.n hx.d (by omega), .big hx.d hy.d (by omega), ⟨a + b + 1, by omega, ((hx.n.mul hy.d).add (hy.n.mul hx.d)).mono (by omega), (hx.d.mul hy.d).mono (by omega)⟩, ?_, ?_⟩
    · have := Int.mul_pos px py
      omega
    · rw [← add_frac]
      exact h
  simp (implicitDefEqProofs := false) (maxSteps := 3000000) only [startD, List.map_cons, List.map_nil, List.length_cons, List.length_nil, List.replicate, List.cons_append, List.nil_append, Nat.reduceAdd, Nat.reduceSub, Nat.zero_add, dSeq, dIfS, dOr, dAnd, dNot, dTst, dOp, dUn, dVar, dC, dB, dBK, dCons, dNil, dTup, dLst, dRet, dRetN, dNext, dNever, dAsg, dPar, dPar3, dIf, dAndV, dOrV, dNotV, dCh, dCt, cLast, cLink, tLast, tLink, dDrop, dFor, dBrk, dCnt, dOwn, dApp, dExt, dFree, gPutO, dIxO, dLend, dLendT, dLcF, gN, gTu, gCn, gNl, gP0, gP1, gII, gIIc, gAdd, gNeg, gIx, gEq, gNe, gIs, gIsNot, gIn, gNotIn, gSl, oNone, oSome, gMt, gIndex, cTuple, cList, cI1, cI2, cLen, cMax, cMin, cMaxT, cMinT, dAug, cAll, cAny, cRepr, cSqrt, cIsi, tyN, isNon, kb_tt, kb_ii, kb_ib, kb_bi, kb_bb, kb_it, kb_bt, kb_nt, kb_ni, kb_lt, kb_li, kb_ti, kb_si, kb_st, kb_ss, rd, dRgN, gEqF, dCallV, spOf, atD, ordD, dSq, dZip, zipD_map, ivD, dRg1, dRg2, dLc, dYes, dLcGo, dGen, dGenGo, wipeD, boolsOf, intsOf, maxL, minL, noL, noLs, Option.map_some, Option.bind_some, List.all_cons, List.all_nil, List.any_cons, List.any_nil, id_eq, List.set_cons_zero, List.set_cons_succ, List.getElem?_cons_zero, List.getElem?_cons_succ, List.getElem?_nil, List.getD_cons_zero, List.getD_cons_succ, decide_eq_true_eq, decide_eq_false_iff_not, Bool.not_eq_true', Bool.not_true, Bool.not_false, Bool.and_true, Bool.true_and, Bool.and_false, Bool.false_and, Bool.false_eq_true, if_true, if_false, reduceIte, ite_true, ite_false, true_and, and_true, reduceCtorEq, Int.toNat_zero, Int.toNat_one, Int.cast_ofNat_Int, Int.reduceLT, Int.reduceLE, Int.reduceNeg, Int.reduceToNat, Int.reducePow, Int.reduceMul, Int.reduceAdd, Int.reduceSub, decide_true, decide_false, sp_ratio_of]
  refine ite2P (fun c => ite2P (fun c2 => ?_) (fun c2 => ?_)) (fun c => ?_)
  · rw [rd_whole c c2] at h
    exact h
  · exact rest
  · exact rest
def sp_ratio_minus : SpD :=
  fun ds R => ∃ (x y : Rat) (a b : Nat), ds = [rd x, rd y] ∧ Sz a x ∧ Sz b y ∧ a + b ≤ 8800 ∧ R (rd (x - y))
set_option maxHeartbeats 0 in
theorem ok_ratio_minus (T : Txt K mg) (D0 : Dfn K mg "ratio_minus" "ratio_minus" s_ratio_minus ["one", "other"] []) (C_ratio_plus : Cal P w K mg base tabs "ratio_plus" 2 2 ["one", "other"] [] sp_ratio_plus) : Cal P w K mg base tabs "ratio_minus" 3 2 ["one", "other"] [] sp_ratio_minus := by
  refine cal_of D0 sc_ratio_minus fun f cdv A outer s H E p ht hg hk hr => ⟨_, (pdss_one (pds_ret (pdcC (C_ratio_plus.cal ht) hg hr (pda_cons (pd_var 0) (pda_cons (pd_tup (pda_cons (pd_un und_neg (pd_ix (pd_var 1) pd_int)) (pda_cons (pd_ix (pd_var 1) pd_int) pda_nil))) pda_nil))))), ?_⟩
  intro ds R hl h; unfold sp_ratio_minus at h
  clear hl hg hr hk ht
  obtain ⟨x, y, a, b, rfl, hx, hy, hl, h⟩ := h
  simp (implicitDefEqProofs := false) (maxSteps := 3000000) only [startD, List.map_cons, List.map_nil, List.length_cons, List.length_nil, List.replicate, List.cons_append, List.nil_append, Nat.reduceAdd, Nat.reduceSub, Nat.zero_add, dSeq, dIfS, dOr, dAnd, dNot, dTst, dOp, dUn, dVar, dC, dB, dBK, dCons, dNil, dTup, dLst, dRet, dRetN, dNext, dNever, dAsg, dPar, dPar3, dIf, dAndV, dOrV, dNotV, dCh, dCt, cLast, cLink, tLast, tLink, dDrop, dFor, dBrk, dCnt, dOwn, dApp, dExt, dFree, gPutO, dIxO, dLend, dLendT, dLcF, gN, gTu, gCn, gNl, gP0, gP1, gII, gIIc, gAdd, gNeg, gIx, gEq, gNe, gIs, gIsNot, gIn, gNotIn, gSl, oNone, oSome, gMt, gIndex, cTuple, cList, cI1, cI2, cLen, cMax, cMin, cMaxT, cMinT, dAug, cAll, cAny, cRepr, cSqrt, cIsi, tyN, isNon, kb_tt, kb_ii, kb_ib, kb_bi, kb_bb, kb_it, kb_bt, kb_nt, kb_ni, kb_lt, kb_li, kb_ti, kb_si, kb_st, kb_ss, rd, dRgN, gEqF, dCallV, spOf, atD, ordD, dSq, dZip, zipD_map, ivD, dRg1, dRg2, dLc, dYes, dLcGo, dGen, dGenGo, wipeD, boolsOf, intsOf, maxL, minL, noL, noLs, Option.map_some, Option.bind_some, List.all_cons, List.all_nil, List.any_cons, List.any_nil, id_eq, List.set_cons_zero, List.set_cons_succ, List.getElem?_cons_zero, List.getElem?_cons_succ, List.getElem?_nil, List.getD_cons_zero, List.getD_cons_succ, decide_eq_true_eq, decide_eq_false_iff_not, Bool.not_eq_true', Bool.not_true, Bool.not_false, Bool.and_true, Bool.true_and, Bool.and_false, Bool.false_and, Bool.false_eq_true, if_true, if_false, reduceIte, ite_true, ite_false, true_and, and_true, reduceCtorEq, Int.toNat_zero, Int.toNat_one, Int.cast_ofNat_Int, Int.reduceLT, Int.reduceLE, Int.reduceNeg, Int.reduceToNat, Int.reducePow, Int.reduceMul, Int.reduceAdd, Int.reduceSub, decide_true, decide_false, sp_ratio_plus]
  exact ⟨x, -y, a, b, rfl, hx, hy.neg, hl, by rw [← Rat.sub_eq_add_neg]; exact h⟩
def sp_ratio_times : SpD :=
  fun ds R => ∃ (x y : Rat) (a b : Nat), ds = [rd x, rd y] ∧ Sz a x ∧ Sz b y ∧ a + b ≤ 8800 ∧ R (rd (x * y))
set_option maxHeartbeats 0 in
theorem ok_ratio_times (T : Txt K mg) (D0 : Dfn K mg "ratio_times" "ratio_times" s_ratio_times ["one", "other"] []) (C_ratio_of : Cal P w K mg base tabs "ratio_of" 1 2 ["number", "under"] [] sp_ratio_of) : Cal P w K mg base tabs "ratio_times" 2 2 ["one", "other"] [] sp_ratio_times := by
  refine cal_of D0 sc_ratio_times fun f cdv A outer s H E p ht hg hk hr => ⟨_, (pdss_cons (pds_if (pdw_t (pdw_and (pdt_cmp (opd_eq hr.units) (pd_ix (pd_var 0) pd_int) pd_int) (pdw_and1 (pdt_cmp (opd_eq hr.units) (pd_ix (pd_var 1) pd_int) pd_int)))) (pdss_one (pds_ret (pd_tup (pda_cons (pd_bin opd_mul (pd_ix (pd_var 0) pd_int) (pd_ix (pd_var 1) pd_int)) (pda_cons pd_int pda_nil))))) pdss_nil)
      (pdss_one (pds_ret (pdcC (C_ratio_of.cal ht) hg hr (pda_cons (pd_bin opd_mul (pd_ix (pd_var 0) pd_int) (pd_ix (pd_var 1) pd_int)) (pda_cons (pd_bin opd_mul (pd_ix (pd_var 0) pd_int) (pd_ix (pd_var 1) pd_int)) pda_nil)))))), ?_⟩
  intro ds R hl h; unfold sp_ratio_times at h
  clear hl hg hr hk ht
  obtain ⟨x, y, a, b, rfl, hx, hy, hl, h⟩ := h
  have px := den_pos x
  have py := den_pos y
  have m1 : MulC x.num y.num := .big hx.n hy.n (by omega)
  have m2 : MulC (x.den : Int) (y.den : Int) := .big hx.d hy.d (by omega)
  simp (implicitDefEqProofs := false) (maxSteps := 3000000) only [startD, List.map_cons, List.map_nil, List.length_cons, List.length_nil, List.replicate, List.cons_append, List.nil_append, Nat.reduceAdd, Nat.reduceSub, Nat.zero_add, dSeq, dIfS, dOr, dAnd, dNot, dTst, dOp, dUn, dVar, dC, dB, dBK, dCons, dNil, dTup, dLst, dRet, dRetN, dNext, dNever, dAsg, dPar, dPar3, dIf, dAndV, dOrV, dNotV, dCh, dCt, cLast, cLink, tLast, tLink, dDrop, dFor, dBrk, dCnt, dOwn, dApp, dExt, dFree, gPutO, dIxO, dLend, dLendT, dLcF, gN, gTu, gCn, gNl, gP0, gP1, gII, gIIc, gAdd, gNeg, gIx, gEq, gNe, gIs, gIsNot, gIn, gNotIn, gSl, oNone, oSome, gMt, gIndex, cTuple, cList, cI1, cI2, cLen, cMax, cMin, cMaxT, cMinT, dAug, cAll, cAny, cRepr, cSqrt, cIsi, tyN, isNon, kb_tt, kb_ii, kb_ib, kb_bi, kb_bb, kb_it, kb_bt, kb_nt, kb_ni, kb_lt, kb_li, kb_ti, kb_si, kb_st, kb_ss, rd, dRgN, gEqF, dCallV, spOf, atD, ordD, dSq, dZip, zipD_map, ivD, dRg1, dRg2, dLc, dYes, dLcGo, dGen, dGenGo, wipeD, boolsOf, intsOf, maxL, minL, noL, noLs, Option.map_some, Option.bind_some, List.all_cons, List.all_nil, List.any_cons, List.any_nil, id_eq, List.set_cons_zero, List.set_cons_succ, List.getElem?_cons_zero, List.getElem?_cons_succ, List.getElem?_nil, List.getD_cons_zero, List.getD_cons_succ, decide_eq_true_eq, decide_eq_false_iff_not, Bool.not_eq_true', Bool.not_true, Bool.not_false, Bool.and_true, Bool.true_and, Bool.and_false, Bool.false_and, Bool.false_eq_true, if_true, if_false, reduceIte, ite_true, ite_false, true_and, and_true, reduceCtorEq, Int.toNat_zero, Int.toNat_one, Int.cast_ofNat_Int, Int.reduceLT, Int.reduceLE, Int.reduceNeg, Int.reduceToNat, Int.reducePow, Int.reduceMul, Int.reduceAdd, Int.reduceSub, decide_true, decide_false, sp_ratio_of]
  have rest : (∃ a, a ≤ 8900 ∧ Big a (x.num * y.num) ∧ Big a ((x.den : Int) * (y.den : Int))) ∧ (x.den : Int) * (y.den : Int) ≠ 0 ∧ R (rd (((x.num * y.num : Int) : Rat) / (((x.den : Int) * (y.den : Int) : Int) : Rat))) := by
    refine ⟨⟨a + b, by omega, hx.n.mul hy.n, hx.d.mul hy.d⟩, ?_, ?_⟩
    · have := Int.mul_pos px py
      omega
    · rw [← mul_frac]
      exact h
  refine ite2P (fun c => ite2P (fun c2 => ⟨m1, ?_⟩) (fun c2 => ⟨m1, m2, rest⟩)) (fun c => ⟨m1, m2, rest⟩)
  rw [rd_whole_mul c c2] at h
  exact h
def sp_ratio_over : SpD :=
  fun ds R => ∃ (x y : Rat) (a b : Nat), ds = [rd x, rd y] ∧ Sz a x ∧ Sz b y ∧ a + b ≤ 8800 ∧ y ≠ 0 ∧ R (rd (x / y))
set_option maxHeartbeats 0 in
theorem ok_ratio_over (T : Txt K mg) (D0 : Dfn K mg "ratio_over" "ratio_over" s_ratio_over ["one", "other"] []) (C_ratio_of : Cal P w K mg base tabs "ratio_of" 1 2 ["number", "under"] [] sp_ratio_of) : Cal P w K mg base tabs "ratio_over" 2 2 ["one", "other"] [] sp_ratio_over := by
  refine cal_of D0 sc_ratio_over fun f cdv A outer s H E p ht hg hk hr => ⟨_, (pdss_one (pds_ret (pdcC (C_ratio_of.cal ht) hg hr (pda_cons (pd_bin opd_mul (pd_ix (pd_var 0) pd_int) (pd_ix (pd_var 1) pd_int)) (pda_cons (pd_bin opd_mul (pd_ix (pd_var 0) pd_int) (pd_ix (pd_var 1) pd_int)) pda_nil))))), ?_⟩
  intro ds R hl h; unfold sp_ratio_over at h
  clear hl hg hr hk ht
  obtain ⟨x, y, a, b, rfl, hx, hy, hl, h0, h⟩ := h
  have px := den_pos x
  have hn : y.num ≠ 0 := fun z => h0 (Rat.num_eq_zero.mp z)
  simp (implicitDefEqProofs := false) (maxSteps := 3000000) only [startD, List.map_cons, List.map_nil, List.length_cons, List.length_nil, List.replicate, List.cons_append, List.nil_append, Nat.reduceAdd, Nat.reduceSub, Nat.zero_add, dSeq, dIfS, dOr, dAnd, dNot, dTst, dOp, dUn, dVar, dC, dB, dBK, dCons, dNil, dTup, dLst, dRet, dRetN, dNext, dNever, dAsg, dPar, dPar3, dIf, dAndV, dOrV, dNotV, dCh, dCt, cLast, cLink, tLast, tLink, dDrop, dFor, dBrk, dCnt, dOwn, dApp, dExt, dFree, gPutO, dIxO, dLend, dLendT, dLcF, gN, gTu, gCn, gNl, gP0, gP1, gII, gIIc, gAdd, gNeg, gIx, gEq, gNe, gIs, gIsNot, gIn, gNotIn, gSl, oNone, oSome, gMt, gIndex, cTuple, cList, cI1, cI2, cLen, cMax, cMin, cMaxT, cMinT, dAug, cAll, cAny, cRepr, cSqrt, cIsi, tyN, isNon, kb_tt, kb_ii, kb_ib, kb_bi, kb_bb, kb_it, kb_bt, kb_nt, kb_ni, kb_lt, kb_li, kb_ti, kb_si, kb_st, kb_ss, rd, dRgN, gEqF, dCallV, spOf, atD, ordD, dSq, dZip, zipD_map, ivD, dRg1, dRg2, dLc, dYes, dLcGo, dGen, dGenGo, wipeD, boolsOf, intsOf, maxL, minL, noL, noLs, Option.map_some, Option.bind_some, List.all_cons, List.all_nil, List.any_cons, List.any_nil, id_eq, List.set_cons_zero, List.set_cons_succ, List.getElem?_cons_zero, List.getElem?_cons_succ, List.getElem?_nil, List.getD_cons_zero, List.getD_cons_succ, decide_eq_true_eq, decide_eq_false_iff_not, Bool.not_eq_true', Bool.not_true, Bool.not_false, Bool.and_true, Bool.true_and, Bool.and_false, Bool.false_and, Bool.false_eq_true, if_true, if_false, reduceIte, ite_true, ite_false, true_and, and_true, reduceCtorEq, Int.toNat_zero, Int.toNat_one, Int.cast_ofNat_Int, Int.reduceLT, Int.reduceLE, Int.reduceNeg, Int.reduceToNat, Int.reducePow, Int.reduceMul, Int.reduceAdd, Int.reduceSub, decide_true, decide_false, sp_ratio_of]
  refine ⟨.big hx.n hy.d (by omega), .big hx.d hy.n (by omega), ⟨a + b, by omega, hx.n.mul hy.d, hx.d.mul hy.n⟩, ?_, ?_⟩
  · intro z
    rcases Int.mul_eq_zero.mp z with z | z
    · omega
    · exact hn z
  · rw [← div_frac _ _ h0]
    exact h
def sp_integer_power : SpD :=
  fun ds R => match ds with
  | [.int b, .int m] => (∃ a, Big a b ∧ 0 ≤ m ∧ m ≤ 100000 ∧ a * m.toNat + 1 + a ≤ 900000) ∧ R (.int (b ^ m.toNat))
  | _ => False
set_option maxHeartbeats 0 in
theorem ok_integer_power (T : Txt K mg) (D0 : Dfn K mg "integer_power" "integer_power" s_integer_power ["base", "many"] [])  : Cal P w K mg base tabs "integer_power" 1 2 ["base", "many"] [] sp_integer_power := by
  refine cal_of D0 sc_integer_power fun f cdv A outer s H E p ht hg hk hr => ⟨_, (pdss_cons (pds_set (i := 2) sc_integer_power.nd rfl (Or.inl rfl) pd_int)
      (pdss_cons (pds_for rfl PassesOwn.never (pdi_rg1 T.b_range (pda_cons (pd_var 1) pda_nil)) (pdg_name (i := 3) sc_integer_power.nd rfl (Or.inl rfl)) (pdss_one (pds_set (i := 2) sc_integer_power.nd rfl (Or.inl rfl) (pd_bin opd_mul (pd_var 2) (pd_var 0)))))
      (pdss_one (pds_ret (pd_var 2))))), ?_⟩
  intro ds R hl h; unfold sp_integer_power at h; split at h
  all_goals (try exact False.elim h)
  all_goals clear hl hg hr hk ht
  rename_i b m
  obtain ⟨⟨a, h1, h3, h4, h2⟩, h⟩ := h
  simp (implicitDefEqProofs := false) (maxSteps := 3000000) only [startD, List.map_cons, List.map_nil, List.length_cons, List.length_nil, List.replicate, List.cons_append, List.nil_append, Nat.reduceAdd, Nat.reduceSub, Nat.zero_add, dSeq, dIfS, dOr, dAnd, dNot, dTst, dOp, dUn, dVar, dC, dB, dBK, dCons, dNil, dTup, dLst, dRet, dRetN, dNext, dNever, dAsg, dPar, dPar3, dIf, dAndV, dOrV, dNotV, dCh, dCt, cLast, cLink, tLast, tLink, dDrop, dFor, dBrk, dCnt, dOwn, dApp, dExt, dFree, gPutO, dIxO, dLend, dLendT, dLcF, gN, gTu, gCn, gNl, gP0, gP1, gII, gIIc, gAdd, gNeg, gIx, gEq, gNe, gIs, gIsNot, gIn, gNotIn, gSl, oNone, oSome, gMt, gIndex, cTuple, cList, cI1, cI2, cLen, cMax, cMin, cMaxT, cMinT, dAug, cAll, cAny, cRepr, cSqrt, cIsi, tyN, isNon, kb_tt, kb_ii, kb_ib, kb_bi, kb_bb, kb_it, kb_bt, kb_nt, kb_ni, kb_lt, kb_li, kb_ti, kb_si, kb_st, kb_ss, rd, dRgN, gEqF, dCallV, spOf, atD, ordD, dSq, dZip, zipD_map, ivD, dRg1, dRg2, dLc, dYes, dLcGo, dGen, dGenGo, wipeD, boolsOf, intsOf, maxL, minL, noL, noLs, Option.map_some, Option.bind_some, List.all_cons, List.all_nil, List.any_cons, List.any_nil, id_eq, List.set_cons_zero, List.set_cons_succ, List.getElem?_cons_zero, List.getElem?_cons_succ, List.getElem?_nil, List.getD_cons_zero, List.getD_cons_succ, decide_eq_true_eq, decide_eq_false_iff_not, Bool.not_eq_true', Bool.not_true, Bool.not_false, Bool.and_true, Bool.true_and, Bool.and_false, Bool.false_and, Bool.false_eq_true, if_true, if_false, reduceIte, ite_true, ite_false, true_and, and_true, reduceCtorEq, Int.toNat_zero, Int.toNat_one, Int.cast_ofNat_Int, Int.reduceLT, Int.reduceLE, Int.reduceNeg, Int.reduceToNat, Int.reducePow, Int.reduceMul, Int.reduceAdd, Int.reduceSub, decide_true, decide_false]
  refine ⟨⟨by omega, by omega⟩, ?_⟩
  refine forInv (fun i τ => i ≤ m.toNat ∧ ∃ o, τ = [some (.int b), some (.int m), some (.int (b ^ i)), o]) _ _ ⟨by omega, none, by rw [Int.pow_zero]⟩ ?_ ?_
  · rintro k i x τ hx hk ⟨hi, o, rfl⟩
    simp (implicitDefEqProofs := false) (maxSteps := 3000000) only [startD, List.map_cons, List.map_nil, List.length_cons, List.length_nil, List.replicate, List.cons_append, List.nil_append, Nat.reduceAdd, Nat.reduceSub, Nat.zero_add, dSeq, dIfS, dOr, dAnd, dNot, dTst, dOp, dUn, dVar, dC, dB, dBK, dCons, dNil, dTup, dLst, dRet, dRetN, dNext, dNever, dAsg, dPar, dPar3, dIf, dAndV, dOrV, dNotV, dCh, dCt, cLast, cLink, tLast, tLink, dDrop, dFor, dBrk, dCnt, dOwn, dApp, dExt, dFree, gPutO, dIxO, dLend, dLendT, dLcF, gN, gTu, gCn, gNl, gP0, gP1, gII, gIIc, gAdd, gNeg, gIx, gEq, gNe, gIs, gIsNot, gIn, gNotIn, gSl, oNone, oSome, gMt, gIndex, cTuple, cList, cI1, cI2, cLen, cMax, cMin, cMaxT, cMinT, dAug, cAll, cAny, cRepr, cSqrt, cIsi, tyN, isNon, kb_tt, kb_ii, kb_ib, kb_bi, kb_bb, kb_it, kb_bt, kb_nt, kb_ni, kb_lt, kb_li, kb_ti, kb_si, kb_st, kb_ss, rd, dRgN, gEqF, dCallV, spOf, atD, ordD, dSq, dZip, zipD_map, ivD, dRg1, dRg2, dLc, dYes, dLcGo, dGen, dGenGo, wipeD, boolsOf, intsOf, maxL, minL, noL, noLs, Option.map_some, Option.bind_some, List.all_cons, List.all_nil, List.any_cons, List.any_nil, id_eq, List.set_cons_zero, List.set_cons_succ, List.getElem?_cons_zero, List.getElem?_cons_succ, List.getElem?_nil, List.getD_cons_zero, List.getD_cons_succ, decide_eq_true_eq, decide_eq_false_iff_not, Bool.not_eq_true', Bool.not_true, Bool.not_false, Bool.and_true, Bool.true_and, Bool.and_false, Bool.false_and, Bool.false_eq_true, if_true, if_false, reduceIte, ite_true, ite_false, true_and, and_true, reduceCtorEq, Int.toNat_zero, Int.toNat_one, Int.cast_ofNat_Int, Int.reduceLT, Int.reduceLE, Int.reduceNeg, Int.reduceToNat, Int.reducePow, Int.reduceMul, Int.reduceAdd, Int.reduceSub, decide_true, decide_false]
    have hl : i < m.toNat := by
      have := (List.getElem?_eq_some_iff.mp hx).1
      rw [rng_len] at this
      exact this
    have hm : a * i ≤ a * m.toNat := Nat.mul_le_mul_left a hi
    exact ⟨.big (h1.pow i) h1 (by omega), hk _ ⟨hl, _, by rw [Int.pow_succ]⟩⟩
  · rintro τ ⟨_, o, rfl⟩
    rw [rng_len]
    simp (implicitDefEqProofs := false) (maxSteps := 3000000) only [startD, List.map_cons, List.map_nil, List.length_cons, List.length_nil, List.replicate, List.cons_append, List.nil_append, Nat.reduceAdd, Nat.reduceSub, Nat.zero_add, dSeq, dIfS, dOr, dAnd, dNot, dTst, dOp, dUn, dVar, dC, dB, dBK, dCons, dNil, dTup, dLst, dRet, dRetN, dNext, dNever, dAsg, dPar, dPar3, dIf, dAndV, dOrV, dNotV, dCh, dCt, cLast, cLink, tLast, tLink, dDrop, dFor, dBrk, dCnt, dOwn, dApp, dExt, dFree, gPutO, dIxO, dLend, dLendT, dLcF, gN, gTu, gCn, gNl, gP0, gP1, gII, gIIc, gAdd, gNeg, gIx, gEq, gNe, gIs, gIsNot, gIn, gNotIn, gSl, oNone, oSome, gMt, gIndex, cTuple, cList, cI1, cI2, cLen, cMax, cMin, cMaxT, cMinT, dAug, cAll, cAny, cRepr, cSqrt, cIsi, tyN, isNon, kb_tt, kb_ii, kb_ib, kb_bi, kb_bb, kb_it, kb_bt, kb_nt, kb_ni, kb_lt, kb_li, kb_ti, kb_si, kb_st, kb_ss, rd, dRgN, gEqF, dCallV, spOf, atD, ordD, dSq, dZip, zipD_map, ivD, dRg1, dRg2, dLc, dYes, dLcGo, dGen, dGenGo, wipeD, boolsOf, intsOf, maxL, minL, noL, noLs, Option.map_some, Option.bind_some, List.all_cons, List.all_nil, List.any_cons, List.any_nil, id_eq, List.set_cons_zero, List.set_cons_succ, List.getElem?_cons_zero, List.getElem?_cons_succ, List.getElem?_nil, List.getD_cons_zero, List.getD_cons_succ, decide_eq_true_eq, decide_eq_false_iff_not, Bool.not_eq_true', Bool.not_true, Bool.not_false, Bool.and_true, Bool.true_and, Bool.and_false, Bool.false_and, Bool.false_eq_true, if_true, if_false, reduceIte, ite_true, ite_false, true_and, and_true, reduceCtorEq, Int.toNat_zero, Int.toNat_one, Int.cast_ofNat_Int, Int.reduceLT, Int.reduceLE, Int.reduceNeg, Int.reduceToNat, Int.reducePow, Int.reduceMul, Int.reduceAdd, Int.reduceSub, decide_true, decide_false]
    exact h
def sp_is_integer : SpD :=
  fun ds R => match ds with
  | [.int _] => R (.bl true)
  | _ => False
set_option maxHeartbeats 0 in
theorem ok_is_integer (T : Txt K mg) (D0 : Dfn K mg "is_integer" "is_integer" s_is_integer ["value"] [])  : Cal P w K mg base tabs "is_integer" 1 1 ["value"] [] sp_is_integer := by
  refine cal_of D0 sc_is_integer fun f cdv A outer s H E p ht hg hk hr => ⟨_, (pdss_one (pds_ret (pd_and (pd_callB cd_isi rfl T.b_isinstance PyProof.Rows.boot_isinstance (pda_cons (pd_var 0) (pda_cons (pd_ty rfl T.b_int PyProof.Rows.boot_int) pda_nil))) (pd_one (pd_not (pd_callB cd_isi rfl T.b_isinstance PyProof.Rows.boot_isinstance (pda_cons (pd_var 0) (pda_cons (pd_ty rfl T.b_bool PyProof.Rows.boot_bool) pda_nil)))))))), ?_⟩
  intro ds R hl h; unfold sp_is_integer at h; split at h
  all_goals (try exact False.elim h)
  all_goals clear hl hg hr hk ht
  simp (implicitDefEqProofs := false) (maxSteps := 3000000) only [startD, List.map_cons, List.map_nil, List.length_cons, List.length_nil, List.replicate, List.cons_append, List.nil_append, Nat.reduceAdd, Nat.reduceSub, Nat.zero_add, dSeq, dIfS, dOr, dAnd, dNot, dTst, dOp, dUn, dVar, dC, dB, dBK, dCons, dNil, dTup, dLst, dRet, dRetN, dNext, dNever, dAsg, dPar, dPar3, dIf, dAndV, dOrV, dNotV, dCh, dCt, cLast, cLink, tLast, tLink, dDrop, dFor, dBrk, dCnt, dOwn, dApp, dExt, dFree, gPutO, dIxO, dLend, dLendT, dLcF, gN, gTu, gCn, gNl, gP0, gP1, gII, gIIc, gAdd, gNeg, gIx, gEq, gNe, gIs, gIsNot, gIn, gNotIn, gSl, oNone, oSome, gMt, gIndex, cTuple, cList, cI1, cI2, cLen, cMax, cMin, cMaxT, cMinT, dAug, cAll, cAny, cRepr, cSqrt, cIsi, tyN, isNon, kb_tt, kb_ii, kb_ib, kb_bi, kb_bb, kb_it, kb_bt, kb_nt, kb_ni, kb_lt, kb_li, kb_ti, kb_si, kb_st, kb_ss, rd, dRgN, gEqF, dCallV, spOf, atD, ordD, dSq, dZip, zipD_map, ivD, dRg1, dRg2, dLc, dYes, dLcGo, dGen, dGenGo, wipeD, boolsOf, intsOf, maxL, minL, noL, noLs, Option.map_some, Option.bind_some, List.all_cons, List.all_nil, List.any_cons, List.any_nil, id_eq, List.set_cons_zero, List.set_cons_succ, List.getElem?_cons_zero, List.getElem?_cons_succ, List.getElem?_nil, List.getD_cons_zero, List.getD_cons_succ, decide_eq_true_eq, decide_eq_false_iff_not, Bool.not_eq_true', Bool.not_true, Bool.not_false, Bool.and_true, Bool.true_and, Bool.and_false, Bool.false_and, Bool.false_eq_true, if_true, if_false, reduceIte, ite_true, ite_false, true_and, and_true, reduceCtorEq, Int.toNat_zero, Int.toNat_one, Int.cast_ofNat_Int, Int.reduceLT, Int.reduceLE, Int.reduceNeg, Int.reduceToNat, Int.reducePow, Int.reduceMul, Int.reduceAdd, Int.reduceSub, decide_true, decide_false]
  exact h
def sp_is_from_to : SpD :=
  fun ds R => match ds with
  | [.int a, .int lo, .int hi] => R (.bl (decide (lo ≤ a) && decide (a ≤ hi)))
  | _ => False
set_option maxHeartbeats 0 in
theorem ok_is_from_to (T : Txt K mg) (D0 : Dfn K mg "is_from_to" "is_from_to" s_is_from_to ["value", "least", "most"] []) (C_is_integer : Cal P w K mg base tabs "is_integer" 1 1 ["value"] [] sp_is_integer) : Cal P w K mg base tabs "is_from_to" 2 3 ["value", "least", "most"] [] sp_is_from_to := by
  refine cal_of D0 sc_is_from_to fun f cdv A outer s H E p ht hg hk hr => ⟨_, (pdss_one (pds_ret (pd_and (pdcC (C_is_integer.cal ht) hg hr (pda_cons (pd_var 0) pda_nil)) (pd_one (pd_chainN (pd_var 1) (pch_cons opd_le (pd_var 0) (pch_last opd_le (pd_var 2)))))))), ?_⟩
  intro ds R hl h; unfold sp_is_from_to at h; split at h
  all_goals (try exact False.elim h)
  all_goals clear hl hg hr hk ht
  rename_i a lo hi
  simp (implicitDefEqProofs := false) (maxSteps := 3000000) only [startD, List.map_cons, List.map_nil, List.length_cons, List.length_nil, List.replicate, List.cons_append, List.nil_append, Nat.reduceAdd, Nat.reduceSub, Nat.zero_add, dSeq, dIfS, dOr, dAnd, dNot, dTst, dOp, dUn, dVar, dC, dB, dBK, dCons, dNil, dTup, dLst, dRet, dRetN, dNext, dNever, dAsg, dPar, dPar3, dIf, dAndV, dOrV, dNotV, dCh, dCt, cLast, cLink, tLast, tLink, dDrop, dFor, dBrk, dCnt, dOwn, dApp, dExt, dFree, gPutO, dIxO, dLend, dLendT, dLcF, gN, gTu, gCn, gNl, gP0, gP1, gII, gIIc, gAdd, gNeg, gIx, gEq, gNe, gIs, gIsNot, gIn, gNotIn, gSl, oNone, oSome, gMt, gIndex, cTuple, cList, cI1, cI2, cLen, cMax, cMin, cMaxT, cMinT, dAug, cAll, cAny, cRepr, cSqrt, cIsi, tyN, isNon, kb_tt, kb_ii, kb_ib, kb_bi, kb_bb, kb_it, kb_bt, kb_nt, kb_ni, kb_lt, kb_li, kb_ti, kb_si, kb_st, kb_ss, rd, dRgN, gEqF, dCallV, spOf, atD, ordD, dSq, dZip, zipD_map, ivD, dRg1, dRg2, dLc, dYes, dLcGo, dGen, dGenGo, wipeD, boolsOf, intsOf, maxL, minL, noL, noLs, Option.map_some, Option.bind_some, List.all_cons, List.all_nil, List.any_cons, List.any_nil, id_eq, List.set_cons_zero, List.set_cons_succ, List.getElem?_cons_zero, List.getElem?_cons_succ, List.getElem?_nil, List.getD_cons_zero, List.getD_cons_succ, decide_eq_true_eq, decide_eq_false_iff_not, Bool.not_eq_true', Bool.not_true, Bool.not_false, Bool.and_true, Bool.true_and, Bool.and_false, Bool.false_and, Bool.false_eq_true, if_true, if_false, reduceIte, ite_true, ite_false, true_and, and_true, reduceCtorEq, Int.toNat_zero, Int.toNat_one, Int.cast_ofNat_Int, Int.reduceLT, Int.reduceLE, Int.reduceNeg, Int.reduceToNat, Int.reducePow, Int.reduceMul, Int.reduceAdd, Int.reduceSub, decide_true, decide_false, sp_is_integer]
  by_cases e : lo ≤ a
  · rw [if_pos e]
    rw [decide_eq_true e, Bool.true_and] at h
    exact h
  · rw [if_neg e]
    rw [decide_eq_false e, Bool.false_and] at h
    exact h
def sp_is_ratio : SpD :=
  fun ds R => match ds with
  | [.tup [.int a, .int b]] => (1 ≤ b ∧ Nat.gcd a.natAbs b.natAbs = 1) ∧ R (.bl true)
  | _ => False
set_option maxHeartbeats 0 in
theorem ok_is_ratio (T : Txt K mg) (D0 : Dfn K mg "is_ratio" "is_ratio" s_is_ratio ["value"] []) (C_is_integer : Cal P w K mg base tabs "is_integer" 1 1 ["value"] [] sp_is_integer) : Cal P w K mg base tabs "is_ratio" 2 1 ["value"] [] sp_is_ratio := by
  refine cal_of D0 sc_is_ratio fun f cdv A outer s H E p ht hg hk hr => ⟨_, (pdss_cons (pds_if (pdw_t (pdw_or (pdt_not (pdt_val (pd_callB cd_isi rfl T.b_isinstance PyProof.Rows.boot_isinstance (pda_cons (pd_var 0) (pda_cons (pd_ty rfl T.b_tuple PyProof.Rows.boot_tuple) pda_nil))))) (pdw_or1 (pdt_cmp (opd_ne hr.units) (pd_callB cd_len rfl T.b_len PySem.boot_len (pda_cons (pd_var 0) pda_nil)) pd_int)))) (pdss_one (pds_ret pd_bl)) pdss_nil)
      (pdss_cons (pds_asg (pd_var 0) (pdg_tup (n := 2) rfl (pdgs_cons (pdg_name (i := 1) sc_is_ratio.nd rfl (Or.inl rfl)) (pdgs_cons (pdg_name (i := 2) sc_is_ratio.nd rfl (Or.inl rfl)) pdgs_nil))))
      (pdss_cons (pds_if (pdw_t (pdw_or (pdt_not (pdt_val (pdcC (C_is_integer.cal ht) hg hr (pda_cons (pd_var 1) pda_nil)))) (pdw_or1 (pdt_not (pdt_val (pdcC (C_is_integer.cal ht) hg hr (pda_cons (pd_var 2) pda_nil))))))) (pdss_one (pds_ret pd_bl)) pdss_nil)
      (pdss_one (pds_ret (pd_and (pd_cmp opd_ge (pd_var 2) pd_int) (pd_one (pd_cmp (opd_eq hr.units) (pd_callFun cd_gcd rfl T.m_gcd (pda_cons (pd_var 1) (pda_cons (pd_var 2) pda_nil))) pd_int)))))))), ?_⟩
  intro ds R hl h; unfold sp_is_ratio at h; split at h
  all_goals (try exact False.elim h)
  all_goals clear hl hg hr hk ht
  rename_i a b
  obtain ⟨⟨h1, h2⟩, h⟩ := h
  simp (implicitDefEqProofs := false) (maxSteps := 3000000) only [startD, List.map_cons, List.map_nil, List.length_cons, List.length_nil, List.replicate, List.cons_append, List.nil_append, Nat.reduceAdd, Nat.reduceSub, Nat.zero_add, dSeq, dIfS, dOr, dAnd, dNot, dTst, dOp, dUn, dVar, dC, dB, dBK, dCons, dNil, dTup, dLst, dRet, dRetN, dNext, dNever, dAsg, dPar, dPar3, dIf, dAndV, dOrV, dNotV, dCh, dCt, cLast, cLink, tLast, tLink, dDrop, dFor, dBrk, dCnt, dOwn, dApp, dExt, dFree, gPutO, dIxO, dLend, dLendT, dLcF, gN, gTu, gCn, gNl, gP0, gP1, gII, gIIc, gAdd, gNeg, gIx, gEq, gNe, gIs, gIsNot, gIn, gNotIn, gSl, oNone, oSome, gMt, gIndex, cTuple, cList, cI1, cI2, cLen, cMax, cMin, cMaxT, cMinT, dAug, cAll, cAny, cRepr, cSqrt, cIsi, tyN, isNon, kb_tt, kb_ii, kb_ib, kb_bi, kb_bb, kb_it, kb_bt, kb_nt, kb_ni, kb_lt, kb_li, kb_ti, kb_si, kb_st, kb_ss, rd, dRgN, gEqF, dCallV, spOf, atD, ordD, dSq, dZip, zipD_map, ivD, dRg1, dRg2, dLc, dYes, dLcGo, dGen, dGenGo, wipeD, boolsOf, intsOf, maxL, minL, noL, noLs, Option.map_some, Option.bind_some, List.all_cons, List.all_nil, List.any_cons, List.any_nil, id_eq, List.set_cons_zero, List.set_cons_succ, List.getElem?_cons_zero, List.getElem?_cons_succ, List.getElem?_nil, List.getD_cons_zero, List.getD_cons_succ, decide_eq_true_eq, decide_eq_false_iff_not, Bool.not_eq_true', Bool.not_true, Bool.not_false, Bool.and_true, Bool.true_and, Bool.and_false, Bool.false_and, Bool.false_eq_true, if_true, if_false, reduceIte, ite_true, ite_false, true_and, and_true, reduceCtorEq, Int.toNat_zero, Int.toNat_one, Int.cast_ofNat_Int, Int.reduceLT, Int.reduceLE, Int.reduceNeg, Int.reduceToNat, Int.reducePow, Int.reduceMul, Int.reduceAdd, Int.reduceSub, decide_true, decide_false, sp_is_integer]
  rw [if_pos h1, h2]
  exact h
def sp__law_draw : SpD :=
  fun ds R => match ds with
  | [.pot, .int n] => (0 < n ∧ n < 1606938044258990275541962092341162602522202993782792835301376) ∧ ∀ r : Int, 0 ≤ r → r < n → R (.int r)
  | _ => False
set_option maxHeartbeats 0 in
theorem ok__law_draw (T : Txt K mg) (D0 : Dfn K mg "_law_draw" "_law_draw" s__law_draw ["_law_pot_here", "_law_many"] [])  : Cal P w K mg base tabs "_law_draw" 1 2 ["_law_pot_here", "_law_many"] [] sp__law_draw := by
  refine cal_of D0 sc__law_draw fun f cdv A outer s H E p ht hg hk hr => ⟨_, (pdss_cons (pds_if (pdt_cmp opd_gt (pd_ix (pd_var 0) pd_int) pd_int) (pdss_cons (pds_asg (pd_callB cd_divmod rfl T.b_divmod PyProof.Rows.boot_divmod (pda_cons (pd_ix (pd_var 0) pd_int) (pda_cons (pd_var 1) pda_nil))) (pdg_tup (n := 2) rfl (pdgs_cons (pdg_p0 (i := 0) rfl (pd_var 0) pd_int) (pdgs_cons (pdg_name (i := 2) sc__law_draw.nd rfl (Or.inl rfl)) pdgs_nil))))
      (pdss_one (pds_ret (pd_var 2)))) pdss_nil)
      (pdss_cons (pds_asg (pd_bin opd_mod (pd_callTy cd_int rfl T.b_int PyProof.Rows.boot_int (pda_cons (pd_bin opd_add (pd_bin opd_mul (pd_ix (pd_var 0) pd_int) pd_int) pd_int) pda_nil)) pd_int) (pdg_p1 (i := 0) rfl (pd_var 0) pd_int))
      (pdss_one (pds_ret (pd_bin opd_mod (pd_callTy cd_int rfl T.b_int PyProof.Rows.boot_int (pda_cons (pd_bin opd_div (pd_bin opd_mod (pd_callTy cd_int rfl T.b_int PyProof.Rows.boot_int (pda_cons (pd_bin opd_mul (pd_ix (pd_var 0) pd_int) (pd_ix (pd_var 0) pd_int)) pda_nil)) pd_int) pd_int) pda_nil)) (pd_var 1)))))), ?_⟩
  intro ds R hl h; unfold sp__law_draw at h; split at h
  all_goals (try exact False.elim h)
  all_goals clear hl hg hr hk ht
  rename_i n
  obtain ⟨⟨h1, h2⟩, h⟩ := h
  simp (implicitDefEqProofs := false) (maxSteps := 3000000) only [startD, List.map_cons, List.map_nil, List.length_cons, List.length_nil, List.replicate, List.cons_append, List.nil_append, Nat.reduceAdd, Nat.reduceSub, Nat.zero_add, dSeq, dIfS, dOr, dAnd, dNot, dTst, dOp, dUn, dVar, dC, dB, dBK, dCons, dNil, dTup, dLst, dRet, dRetN, dNext, dNever, dAsg, dPar, dPar3, dIf, dAndV, dOrV, dNotV, dCh, dCt, cLast, cLink, tLast, tLink, dDrop, dFor, dBrk, dCnt, dOwn, dApp, dExt, dFree, gPutO, dIxO, dLend, dLendT, dLcF, gN, gTu, gCn, gNl, gP0, gP1, gII, gIIc, gAdd, gNeg, gIx, gEq, gNe, gIs, gIsNot, gIn, gNotIn, gSl, oNone, oSome, gMt, gIndex, cTuple, cList, cI1, cI2, cLen, cMax, cMin, cMaxT, cMinT, dAug, cAll, cAny, cRepr, cSqrt, cIsi, tyN, isNon, kb_tt, kb_ii, kb_ib, kb_bi, kb_bb, kb_it, kb_bt, kb_nt, kb_ni, kb_lt, kb_li, kb_ti, kb_si, kb_st, kb_ss, rd, dRgN, gEqF, dCallV, spOf, atD, ordD, dSq, dZip, zipD_map, ivD, dRg1, dRg2, dLc, dYes, dLcGo, dGen, dGenGo, wipeD, boolsOf, intsOf, maxL, minL, noL, noLs, Option.map_some, Option.bind_some, List.all_cons, List.all_nil, List.any_cons, List.any_nil, id_eq, List.set_cons_zero, List.set_cons_succ, List.getElem?_cons_zero, List.getElem?_cons_succ, List.getElem?_nil, List.getD_cons_zero, List.getD_cons_succ, decide_eq_true_eq, decide_eq_false_iff_not, Bool.not_eq_true', Bool.not_true, Bool.not_false, Bool.and_true, Bool.true_and, Bool.and_false, Bool.false_and, Bool.false_eq_true, if_true, if_false, reduceIte, ite_true, ite_false, true_and, and_true, reduceCtorEq, Int.toNat_zero, Int.toNat_one, Int.cast_ofNat_Int, Int.reduceLT, Int.reduceLE, Int.reduceNeg, Int.reduceToNat, Int.reducePow, Int.reduceMul, Int.reduceAdd, Int.reduceSub, decide_true, decide_false]
  intro a ha
  split
  · intro b hb
    refine ⟨?_, ?_, h _ ?_ ?_⟩ <;> (first | assumption | omega | (exact BD.of (by omega) (by omega)) | (exact BS.of (by omega) (by omega)) | (exact MulC.left (by omega) (by omega)) | (exact MulC.right (by omega) (by omega)) | (exact MulC.wide (by omega) (by omega) (by omega) (by omega)) | (exact em0 (by omega)) | (exact em1 (by omega)) | (exact ed0 (by omega) (by omega)))
  · intro b hb hb2
    refine ⟨?_, ?_, ?_⟩
    · (first | assumption | omega | (exact BD.of (by omega) (by omega)) | (exact BS.of (by omega) (by omega)) | (exact MulC.left (by omega) (by omega)) | (exact MulC.right (by omega) (by omega)) | (exact MulC.wide (by omega) (by omega) (by omega) (by omega)) | (exact em0 (by omega)) | (exact em1 (by omega)) | (exact ed0 (by omega) (by omega)))
    · (first | assumption | omega | (exact BD.of (by omega) (by omega)) | (exact BS.of (by omega) (by omega)) | (exact MulC.left (by omega) (by omega)) | (exact MulC.right (by omega) (by omega)) | (exact MulC.wide (by omega) (by omega) (by omega) (by omega)) | (exact em0 (by omega)) | (exact em1 (by omega)) | (exact ed0 (by omega) (by omega)))
    · intro c hc hc2 d hd hd2
      refine ⟨?_, ?_, ?_, h _ ?_ ?_⟩ <;> (first | assumption | omega | (exact BD.of (by omega) (by omega)) | (exact BS.of (by omega) (by omega)) | (exact MulC.left (by omega) (by omega)) | (exact MulC.right (by omega) (by omega)) | (exact MulC.wide (by omega) (by omega) (by omega) (by omega)) | (exact em0 (by omega)) | (exact em1 (by omega)) | (exact ed0 (by omega) (by omega)))
def sp__law_pick : SpD :=
  fun ds R => match ds with
  | [.pot, .lst l] => (1 ≤ l.length ∧ l.length ≤ 1000000) ∧ ∀ x ∈ l, R x
  | _ => False
set_option maxHeartbeats 0 in
theorem ok__law_pick (T : Txt K mg) (D0 : Dfn K mg "_law_pick" "_law_pick" s__law_pick ["_law_pot_here", "_law_some"] []) (C__law_draw : Cal P w K mg base tabs "_law_draw" 1 2 ["_law_pot_here", "_law_many"] [] sp__law_draw) : Cal P w K mg base tabs "_law_pick" 2 2 ["_law_pot_here", "_law_some"] [] sp__law_pick := by
  refine cal_of D0 sc__law_pick fun f cdv A outer s H E p ht hg hk hr => ⟨_, (pdss_one (pds_ret (pd_ix (pd_var 1) (pdcC (C__law_draw.cal ht) hg hr (pda_cons (pd_var 0) (pda_cons (pd_callB cd_len rfl T.b_len PySem.boot_len (pda_cons (pd_var 1) pda_nil)) pda_nil)))))), ?_⟩
  intro ds R hl h; unfold sp__law_pick at h; split at h
  all_goals (try exact False.elim h)
  all_goals clear hl hg hr hk ht
  rename_i l
  obtain ⟨⟨h1, h2⟩, h⟩ := h
  simp (implicitDefEqProofs := false) (maxSteps := 3000000) only [startD, List.map_cons, List.map_nil, List.length_cons, List.length_nil, List.replicate, List.cons_append, List.nil_append, Nat.reduceAdd, Nat.reduceSub, Nat.zero_add, dSeq, dIfS, dOr, dAnd, dNot, dTst, dOp, dUn, dVar, dC, dB, dBK, dCons, dNil, dTup, dLst, dRet, dRetN, dNext, dNever, dAsg, dPar, dPar3, dIf, dAndV, dOrV, dNotV, dCh, dCt, cLast, cLink, tLast, tLink, dDrop, dFor, dBrk, dCnt, dOwn, dApp, dExt, dFree, gPutO, dIxO, dLend, dLendT, dLcF, gN, gTu, gCn, gNl, gP0, gP1, gII, gIIc, gAdd, gNeg, gIx, gEq, gNe, gIs, gIsNot, gIn, gNotIn, gSl, oNone, oSome, gMt, gIndex, cTuple, cList, cI1, cI2, cLen, cMax, cMin, cMaxT, cMinT, dAug, cAll, cAny, cRepr, cSqrt, cIsi, tyN, isNon, kb_tt, kb_ii, kb_ib, kb_bi, kb_bb, kb_it, kb_bt, kb_nt, kb_ni, kb_lt, kb_li, kb_ti, kb_si, kb_st, kb_ss, rd, dRgN, gEqF, dCallV, spOf, atD, ordD, dSq, dZip, zipD_map, ivD, dRg1, dRg2, dLc, dYes, dLcGo, dGen, dGenGo, wipeD, boolsOf, intsOf, maxL, minL, noL, noLs, Option.map_some, Option.bind_some, List.all_cons, List.all_nil, List.any_cons, List.any_nil, id_eq, List.set_cons_zero, List.set_cons_succ, List.getElem?_cons_zero, List.getElem?_cons_succ, List.getElem?_nil, List.getD_cons_zero, List.getD_cons_succ, decide_eq_true_eq, decide_eq_false_iff_not, Bool.not_eq_true', Bool.not_true, Bool.not_false, Bool.and_true, Bool.true_and, Bool.and_false, Bool.false_and, Bool.false_eq_true, if_true, if_false, reduceIte, ite_true, ite_false, true_and, and_true, reduceCtorEq, Int.toNat_zero, Int.toNat_one, Int.cast_ofNat_Int, Int.reduceLT, Int.reduceLE, Int.reduceNeg, Int.reduceToNat, Int.reducePow, Int.reduceMul, Int.reduceAdd, Int.reduceSub, decide_true, decide_false, sp__law_draw]
  refine ⟨by omega, fun r r0 r1 => ?_⟩
  rw [if_pos r0]
  have hr : r.toNat < l.length := by omega
  rw [List.getElem?_eq_getElem hr]
  exact h _ (List.getElem_mem hr)
def sp_check_ratio : SpD :=
  fun ds R => ∃ x : Rat, ds = [rd x] ∧ R .non
set_option maxHeartbeats 0 in
theorem ok_check_ratio (T : Txt K mg) (D0 : Dfn K mg "check_ratio" "check_ratio" s_check_ratio ["ratio"] []) (C_is_ratio : Cal P w K mg base tabs "is_ratio" 2 1 ["value"] [] sp_is_ratio) : Cal P w K mg base tabs "check_ratio" 3 1 ["ratio"] [] sp_check_ratio := by
  refine cal_of D0 sc_check_ratio fun f cdv A outer s H E p ht hg hk hr => ⟨_, (pdss_one (pds_if (pdt_not (pdt_val (pdcC (C_is_ratio.cal ht) hg hr (pda_cons (pd_var 0) pda_nil)))) (pdss_one pds_never) pdss_nil)), ?_⟩
  intro ds R hl h; unfold sp_check_ratio at h
  clear hl hg hr hk ht
  obtain ⟨x, rfl, h⟩ := h
  have h1 := den_pos x
  have h2 : Nat.gcd x.num.natAbs ((x.den : Int)).natAbs = 1 := by rw [Int.natAbs_natCast]; exact x.reduced
  simp (implicitDefEqProofs := false) (maxSteps := 3000000) only [startD, List.map_cons, List.map_nil, List.length_cons, List.length_nil, List.replicate, List.cons_append, List.nil_append, Nat.reduceAdd, Nat.reduceSub, Nat.zero_add, dSeq, dIfS, dOr, dAnd, dNot, dTst, dOp, dUn, dVar, dC, dB, dBK, dCons, dNil, dTup, dLst, dRet, dRetN, dNext, dNever, dAsg, dPar, dPar3, dIf, dAndV, dOrV, dNotV, dCh, dCt, cLast, cLink, tLast, tLink, dDrop, dFor, dBrk, dCnt, dOwn, dApp, dExt, dFree, gPutO, dIxO, dLend, dLendT, dLcF, gN, gTu, gCn, gNl, gP0, gP1, gII, gIIc, gAdd, gNeg, gIx, gEq, gNe, gIs, gIsNot, gIn, gNotIn, gSl, oNone, oSome, gMt, gIndex, cTuple, cList, cI1, cI2, cLen, cMax, cMin, cMaxT, cMinT, dAug, cAll, cAny, cRepr, cSqrt, cIsi, tyN, isNon, kb_tt, kb_ii, kb_ib, kb_bi, kb_bb, kb_it, kb_bt, kb_nt, kb_ni, kb_lt, kb_li, kb_ti, kb_si, kb_st, kb_ss, rd, dRgN, gEqF, dCallV, spOf, atD, ordD, dSq, dZip, zipD_map, ivD, dRg1, dRg2, dLc, dYes, dLcGo, dGen, dGenGo, wipeD, boolsOf, intsOf, maxL, minL, noL, noLs, Option.map_some, Option.bind_some, List.all_cons, List.all_nil, List.any_cons, List.any_nil, id_eq, List.set_cons_zero, List.set_cons_succ, List.getElem?_cons_zero, List.getElem?_cons_succ, List.getElem?_nil, List.getD_cons_zero, List.getD_cons_succ, decide_eq_true_eq, decide_eq_false_iff_not, Bool.not_eq_true', Bool.not_true, Bool.not_false, Bool.and_true, Bool.true_and, Bool.and_false, Bool.false_and, Bool.false_eq_true, if_true, if_false, reduceIte, ite_true, ite_false, true_and, and_true, reduceCtorEq, Int.toNat_zero, Int.toNat_one, Int.cast_ofNat_Int, Int.reduceLT, Int.reduceLE, Int.reduceNeg, Int.reduceToNat, Int.reducePow, Int.reduceMul, Int.reduceAdd, Int.reduceSub, decide_true, decide_false, sp_is_ratio]
  exact ⟨⟨by omega, h2⟩, h⟩
def sp_check_sum : SpD :=
  fun ds R => ∃ (x : Rat) (m : Int), ds = [rd x, .int m] ∧ 1 ≤ m ∧ m ≤ 12 ∧ R .non
set_option maxHeartbeats 0 in
theorem ok_check_sum (T : Txt K mg) (D0 : Dfn K mg "check_sum" "check_sum" s_check_sum ["ratio", "many"] []) (C_check_ratio : Cal P w K mg base tabs "check_ratio" 3 1 ["ratio"] [] sp_check_ratio) (C_is_from_to : Cal P w K mg base tabs "is_from_to" 2 3 ["value", "least", "most"] [] sp_is_from_to) : Cal P w K mg base tabs "check_sum" 4 2 ["ratio", "many"] [] sp_check_sum := by
  refine cal_of D0 sc_check_sum fun f cdv A outer s H E p ht hg hk hr => ⟨_, (pdss_cons (pds_expr (pdcC (C_check_ratio.cal ht) hg hr (pda_cons (pd_var 0) pda_nil)))
      (pdss_one (pds_if (pdt_not (pdt_val (pdcC (C_is_from_to.cal ht) hg hr (pda_cons (pd_var 1) (pda_cons pd_int (pda_cons (pd_gint rfl T.m__MOST_MANY) pda_nil)))))) (pdss_one pds_never) pdss_nil))), ?_⟩
  intro ds R hl h; unfold sp_check_sum at h
  clear hl hg hr hk ht
  obtain ⟨x, m, rfl, h1, h2, h⟩ := h
  simp (implicitDefEqProofs := false) (maxSteps := 3000000) only [startD, List.map_cons, List.map_nil, List.length_cons, List.length_nil, List.replicate, List.cons_append, List.nil_append, Nat.reduceAdd, Nat.reduceSub, Nat.zero_add, dSeq, dIfS, dOr, dAnd, dNot, dTst, dOp, dUn, dVar, dC, dB, dBK, dCons, dNil, dTup, dLst, dRet, dRetN, dNext, dNever, dAsg, dPar, dPar3, dIf, dAndV, dOrV, dNotV, dCh, dCt, cLast, cLink, tLast, tLink, dDrop, dFor, dBrk, dCnt, dOwn, dApp, dExt, dFree, gPutO, dIxO, dLend, dLendT, dLcF, gN, gTu, gCn, gNl, gP0, gP1, gII, gIIc, gAdd, gNeg, gIx, gEq, gNe, gIs, gIsNot, gIn, gNotIn, gSl, oNone, oSome, gMt, gIndex, cTuple, cList, cI1, cI2, cLen, cMax, cMin, cMaxT, cMinT, dAug, cAll, cAny, cRepr, cSqrt, cIsi, tyN, isNon, kb_tt, kb_ii, kb_ib, kb_bi, kb_bb, kb_it, kb_bt, kb_nt, kb_ni, kb_lt, kb_li, kb_ti, kb_si, kb_st, kb_ss, rd, dRgN, gEqF, dCallV, spOf, atD, ordD, dSq, dZip, zipD_map, ivD, dRg1, dRg2, dLc, dYes, dLcGo, dGen, dGenGo, wipeD, boolsOf, intsOf, maxL, minL, noL, noLs, Option.map_some, Option.bind_some, List.all_cons, List.all_nil, List.any_cons, List.any_nil, id_eq, List.set_cons_zero, List.set_cons_succ, List.getElem?_cons_zero, List.getElem?_cons_succ, List.getElem?_nil, List.getD_cons_zero, List.getD_cons_succ, decide_eq_true_eq, decide_eq_false_iff_not, Bool.not_eq_true', Bool.not_true, Bool.not_false, Bool.and_true, Bool.true_and, Bool.and_false, Bool.false_and, Bool.false_eq_true, if_true, if_false, reduceIte, ite_true, ite_false, true_and, and_true, reduceCtorEq, Int.toNat_zero, Int.toNat_one, Int.cast_ofNat_Int, Int.reduceLT, Int.reduceLE, Int.reduceNeg, Int.reduceToNat, Int.reducePow, Int.reduceMul, Int.reduceAdd, Int.reduceSub, decide_true, decide_false, sp_check_ratio, sp_is_from_to]
  refine ⟨x, rfl, ?_⟩
  simp [h1, h2]
  exact h
def sp_check_near : SpD :=
  fun ds R => ∃ x : Rat, ds = [rd x] ∧ (x.num.natAbs : Int) ≤ x.den ∧ R .non
set_option maxHeartbeats 0 in
theorem ok_check_near (T : Txt K mg) (D0 : Dfn K mg "check_near" "check_near" s_check_near ["ratio"] [])  : Cal P w K mg base tabs "check_near" 1 1 ["ratio"] [] sp_check_near := by
  refine cal_of D0 sc_check_near fun f cdv A outer s H E p ht hg hk hr => ⟨_, (pdss_one (pds_if (pdt_cmp opd_gt (pd_callB cd_abs rfl T.b_abs PyProof.Rows.boot_abs (pda_cons (pd_ix (pd_var 0) pd_int) pda_nil)) (pd_ix (pd_var 0) pd_int)) (pdss_one pds_never) pdss_nil)), ?_⟩
  intro ds R hl h; unfold sp_check_near at h
  clear hl hg hr hk ht
  obtain ⟨x, rfl, h1, h⟩ := h
  simp (implicitDefEqProofs := false) (maxSteps := 3000000) only [startD, List.map_cons, List.map_nil, List.length_cons, List.length_nil, List.replicate, List.cons_append, List.nil_append, Nat.reduceAdd, Nat.reduceSub, Nat.zero_add, dSeq, dIfS, dOr, dAnd, dNot, dTst, dOp, dUn, dVar, dC, dB, dBK, dCons, dNil, dTup, dLst, dRet, dRetN, dNext, dNever, dAsg, dPar, dPar3, dIf, dAndV, dOrV, dNotV, dCh, dCt, cLast, cLink, tLast, tLink, dDrop, dFor, dBrk, dCnt, dOwn, dApp, dExt, dFree, gPutO, dIxO, dLend, dLendT, dLcF, gN, gTu, gCn, gNl, gP0, gP1, gII, gIIc, gAdd, gNeg, gIx, gEq, gNe, gIs, gIsNot, gIn, gNotIn, gSl, oNone, oSome, gMt, gIndex, cTuple, cList, cI1, cI2, cLen, cMax, cMin, cMaxT, cMinT, dAug, cAll, cAny, cRepr, cSqrt, cIsi, tyN, isNon, kb_tt, kb_ii, kb_ib, kb_bi, kb_bb, kb_it, kb_bt, kb_nt, kb_ni, kb_lt, kb_li, kb_ti, kb_si, kb_st, kb_ss, rd, dRgN, gEqF, dCallV, spOf, atD, ordD, dSq, dZip, zipD_map, ivD, dRg1, dRg2, dLc, dYes, dLcGo, dGen, dGenGo, wipeD, boolsOf, intsOf, maxL, minL, noL, noLs, Option.map_some, Option.bind_some, List.all_cons, List.all_nil, List.any_cons, List.any_nil, id_eq, List.set_cons_zero, List.set_cons_succ, List.getElem?_cons_zero, List.getElem?_cons_succ, List.getElem?_nil, List.getD_cons_zero, List.getD_cons_succ, decide_eq_true_eq, decide_eq_false_iff_not, Bool.not_eq_true', Bool.not_true, Bool.not_false, Bool.and_true, Bool.true_and, Bool.and_false, Bool.false_and, Bool.false_eq_true, if_true, if_false, reduceIte, ite_true, ite_false, true_and, and_true, reduceCtorEq, Int.toNat_zero, Int.toNat_one, Int.cast_ofNat_Int, Int.reduceLT, Int.reduceLE, Int.reduceNeg, Int.reduceToNat, Int.reducePow, Int.reduceMul, Int.reduceAdd, Int.reduceSub, decide_true, decide_false]
  exact ifN (by omega) h
def sp__size : SpD :=
  fun ds R => ∃ x : Rat, ds = [rd x] ∧ R (rd (ra x))
set_option maxHeartbeats 0 in
theorem ok__size (T : Txt K mg) (D0 : Dfn K mg "_size" "_size" s__size ["ratio"] [])  : Cal P w K mg base tabs "_size" 1 1 ["ratio"] [] sp__size := by
  refine cal_of D0 sc__size fun f cdv A outer s H E p ht hg hk hr => ⟨_, (pdss_one (pds_ret (pd_tup (pda_cons (pd_callB cd_abs rfl T.b_abs PyProof.Rows.boot_abs (pda_cons (pd_ix (pd_var 0) pd_int) pda_nil)) (pda_cons (pd_ix (pd_var 0) pd_int) pda_nil))))), ?_⟩
  intro ds R hl h; unfold sp__size at h
  clear hl hg hr hk ht
  obtain ⟨x, rfl, h⟩ := h
  simp (implicitDefEqProofs := false) (maxSteps := 3000000) only [startD, List.map_cons, List.map_nil, List.length_cons, List.length_nil, List.replicate, List.cons_append, List.nil_append, Nat.reduceAdd, Nat.reduceSub, Nat.zero_add, dSeq, dIfS, dOr, dAnd, dNot, dTst, dOp, dUn, dVar, dC, dB, dBK, dCons, dNil, dTup, dLst, dRet, dRetN, dNext, dNever, dAsg, dPar, dPar3, dIf, dAndV, dOrV, dNotV, dCh, dCt, cLast, cLink, tLast, tLink, dDrop, dFor, dBrk, dCnt, dOwn, dApp, dExt, dFree, gPutO, dIxO, dLend, dLendT, dLcF, gN, gTu, gCn, gNl, gP0, gP1, gII, gIIc, gAdd, gNeg, gIx, gEq, gNe, gIs, gIsNot, gIn, gNotIn, gSl, oNone, oSome, gMt, gIndex, cTuple, cList, cI1, cI2, cLen, cMax, cMin, cMaxT, cMinT, dAug, cAll, cAny, cRepr, cSqrt, cIsi, tyN, isNon, kb_tt, kb_ii, kb_ib, kb_bi, kb_bb, kb_it, kb_bt, kb_nt, kb_ni, kb_lt, kb_li, kb_ti, kb_si, kb_st, kb_ss, rd, dRgN, gEqF, dCallV, spOf, atD, ordD, dSq, dZip, zipD_map, ivD, dRg1, dRg2, dLc, dYes, dLcGo, dGen, dGenGo, wipeD, boolsOf, intsOf, maxL, minL, noL, noLs, Option.map_some, Option.bind_some, List.all_cons, List.all_nil, List.any_cons, List.any_nil, id_eq, List.set_cons_zero, List.set_cons_succ, List.getElem?_cons_zero, List.getElem?_cons_succ, List.getElem?_nil, List.getD_cons_zero, List.getD_cons_succ, decide_eq_true_eq, decide_eq_false_iff_not, Bool.not_eq_true', Bool.not_true, Bool.not_false, Bool.and_true, Bool.true_and, Bool.and_false, Bool.false_and, Bool.false_eq_true, if_true, if_false, reduceIte, ite_true, ite_false, true_and, and_true, reduceCtorEq, Int.toNat_zero, Int.toNat_one, Int.cast_ofNat_Int, Int.reduceLT, Int.reduceLE, Int.reduceNeg, Int.reduceToNat, Int.reducePow, Int.reduceMul, Int.reduceAdd, Int.reduceSub, decide_true, decide_false]
  exact h
def sp__apart : SpD :=
  fun ds R => ∃ (x y : Rat) (a b : Nat), ds = [rd x, rd y] ∧ Sz a x ∧ Sz b y ∧ a + b ≤ 8800 ∧ R (.tup [rd (x - y), rd (x + y)])
set_option maxHeartbeats 0 in
theorem ok__apart (T : Txt K mg) (D0 : Dfn K mg "_apart" "_apart" s__apart ["total", "rest"] []) (C_ratio_plus : Cal P w K mg base tabs "ratio_plus" 2 2 ["one", "other"] [] sp_ratio_plus) (C_ratio_minus : Cal P w K mg base tabs "ratio_minus" 3 2 ["one", "other"] [] sp_ratio_minus) : Cal P w K mg base tabs "_apart" 4 2 ["total", "rest"] [] sp__apart := by
  refine cal_of D0 sc__apart fun f cdv A outer s H E p ht hg hk hr => ⟨_, (pdss_one (pds_ret (pd_tup (pda_cons (pdcC (C_ratio_minus.cal ht) hg hr (pda_cons (pd_var 0) (pda_cons (pd_var 1) pda_nil))) (pda_cons (pdcC (C_ratio_plus.cal ht) hg hr (pda_cons (pd_var 0) (pda_cons (pd_var 1) pda_nil))) pda_nil))))), ?_⟩
  intro ds R hl h; unfold sp__apart at h
  clear hl hg hr hk ht
  obtain ⟨x, y, a, b, rfl, hx, hy, hl, h⟩ := h
  simp (implicitDefEqProofs := false) (maxSteps := 3000000) only [startD, List.map_cons, List.map_nil, List.length_cons, List.length_nil, List.replicate, List.cons_append, List.nil_append, Nat.reduceAdd, Nat.reduceSub, Nat.zero_add, dSeq, dIfS, dOr, dAnd, dNot, dTst, dOp, dUn, dVar, dC, dB, dBK, dCons, dNil, dTup, dLst, dRet, dRetN, dNext, dNever, dAsg, dPar, dPar3, dIf, dAndV, dOrV, dNotV, dCh, dCt, cLast, cLink, tLast, tLink, dDrop, dFor, dBrk, dCnt, dOwn, dApp, dExt, dFree, gPutO, dIxO, dLend, dLendT, dLcF, gN, gTu, gCn, gNl, gP0, gP1, gII, gIIc, gAdd, gNeg, gIx, gEq, gNe, gIs, gIsNot, gIn, gNotIn, gSl, oNone, oSome, gMt, gIndex, cTuple, cList, cI1, cI2, cLen, cMax, cMin, cMaxT, cMinT, dAug, cAll, cAny, cRepr, cSqrt, cIsi, tyN, isNon, kb_tt, kb_ii, kb_ib, kb_bi, kb_bb, kb_it, kb_bt, kb_nt, kb_ni, kb_lt, kb_li, kb_ti, kb_si, kb_st, kb_ss, rd, dRgN, gEqF, dCallV, spOf, atD, ordD, dSq, dZip, zipD_map, ivD, dRg1, dRg2, dLc, dYes, dLcGo, dGen, dGenGo, wipeD, boolsOf, intsOf, maxL, minL, noL, noLs, Option.map_some, Option.bind_some, List.all_cons, List.all_nil, List.any_cons, List.any_nil, id_eq, List.set_cons_zero, List.set_cons_succ, List.getElem?_cons_zero, List.getElem?_cons_succ, List.getElem?_nil, List.getD_cons_zero, List.getD_cons_succ, decide_eq_true_eq, decide_eq_false_iff_not, Bool.not_eq_true', Bool.not_true, Bool.not_false, Bool.and_true, Bool.true_and, Bool.and_false, Bool.false_and, Bool.false_eq_true, if_true, if_false, reduceIte, ite_true, ite_false, true_and, and_true, reduceCtorEq, Int.toNat_zero, Int.toNat_one, Int.cast_ofNat_Int, Int.reduceLT, Int.reduceLE, Int.reduceNeg, Int.reduceToNat, Int.reducePow, Int.reduceMul, Int.reduceAdd, Int.reduceSub, decide_true, decide_false, sp_ratio_plus, sp_ratio_minus]
  exact ⟨x, y, a, b, rfl, hx, hy, hl, x, y, a, b, rfl, hx, hy, hl, h⟩
def sp_exp_sum : SpD :=
  fun ds R => ∃ (x : Rat) (m : Int), ds = [rd x, .int m] ∧ Sz 8 x ∧ 1 ≤ m ∧ m ≤ 12 ∧ R (.tup [rd (expS x m.toNat - 2 * ra (expT x m.toNat)), rd (expS x m.toNat + 2 * ra (expT x m.toNat))])
set_option maxHeartbeats 0 in
theorem ok_exp_sum (T : Txt K mg) (D0 : Dfn K mg "exp_sum" "exp_sum" s_exp_sum ["ratio", "many"] []) (C_ratio_plus : Cal P w K mg base tabs "ratio_plus" 2 2 ["one", "other"] [] sp_ratio_plus) (C_ratio_times : Cal P w K mg base tabs "ratio_times" 2 2 ["one", "other"] [] sp_ratio_times) (C_ratio_of : Cal P w K mg base tabs "ratio_of" 1 2 ["number", "under"] [] sp_ratio_of) (C__apart : Cal P w K mg base tabs "_apart" 4 2 ["total", "rest"] [] sp__apart) (C__size : Cal P w K mg base tabs "_size" 1 1 ["ratio"] [] sp__size) : Cal P w K mg base tabs "exp_sum" 5 2 ["ratio", "many"] [] sp_exp_sum := by
  refine cal_of D0 sc_exp_sum fun f cdv A outer s H E p ht hg hk hr => ⟨_, (pdss_cons (pds_set (i := 2) sc_exp_sum.nd rfl (Or.inl rfl) (pd_gtup rfl T.m_NOUGHT T.k_NOUGHT (hk _ _ T.l_NOUGHT)))
      (pdss_cons (pds_set (i := 3) sc_exp_sum.nd rfl (Or.inl rfl) (pd_gtup rfl T.m_UNIT T.k_UNIT (hk _ _ T.l_UNIT)))
      (pdss_cons (pds_for rfl PassesOwn.never (pdi_rg1 T.b_range (pda_cons (pd_var 1) pda_nil)) (pdg_name (i := 4) sc_exp_sum.nd rfl (Or.inl rfl)) (pdss_cons (pds_set (i := 2) sc_exp_sum.nd rfl (Or.inl rfl) (pdcC (C_ratio_plus.cal ht) hg hr (pda_cons (pd_var 2) (pda_cons (pd_var 3) pda_nil))))
      (pdss_one (pds_set (i := 3) sc_exp_sum.nd rfl (Or.inl rfl) (pdcC (C_ratio_times.cal ht) hg hr (pda_cons (pd_var 3) (pda_cons (pdcC (C_ratio_of.cal ht) hg hr (pda_cons (pd_ix (pd_var 0) pd_int) (pda_cons (pd_bin opd_mul (pd_ix (pd_var 0) pd_int) (pd_bin opd_add (pd_var 4) pd_int)) pda_nil))) pda_nil)))))))
      (pdss_one (pds_ret (pdcC (C__apart.cal ht) hg hr (pda_cons (pd_var 2) (pda_cons (pdcC (C_ratio_times.cal ht) hg hr (pda_cons (pd_tup (pda_cons pd_int (pda_cons pd_int pda_nil))) (pda_cons (pdcC (C__size.cal ht) hg hr (pda_cons (pd_var 3) pda_nil)) pda_nil))) pda_nil)))))))), ?_⟩
  intro ds R hl h; unfold sp_exp_sum at h
  clear hl hg hr hk ht
  obtain ⟨x, m, rfl, hx, h1, h2, h⟩ := h
  simp (implicitDefEqProofs := false) (maxSteps := 3000000) only [startD, List.map_cons, List.map_nil, List.length_cons, List.length_nil, List.replicate, List.cons_append, List.nil_append, Nat.reduceAdd, Nat.reduceSub, Nat.zero_add, dSeq, dIfS, dOr, dAnd, dNot, dTst, dOp, dUn, dVar, dC, dB, dBK, dCons, dNil, dTup, dLst, dRet, dRetN, dNext, dNever, dAsg, dPar, dPar3, dIf, dAndV, dOrV, dNotV, dCh, dCt, cLast, cLink, tLast, tLink, dDrop, dFor, dBrk, dCnt, dOwn, dApp, dExt, dFree, gPutO, dIxO, dLend, dLendT, dLcF, gN, gTu, gCn, gNl, gP0, gP1, gII, gIIc, gAdd, gNeg, gIx, gEq, gNe, gIs, gIsNot, gIn, gNotIn, gSl, oNone, oSome, gMt, gIndex, cTuple, cList, cI1, cI2, cLen, cMax, cMin, cMaxT, cMinT, dAug, cAll, cAny, cRepr, cSqrt, cIsi, tyN, isNon, kb_tt, kb_ii, kb_ib, kb_bi, kb_bb, kb_it, kb_bt, kb_nt, kb_ni, kb_lt, kb_li, kb_ti, kb_si, kb_st, kb_ss, rd, dRgN, gEqF, dCallV, spOf, atD, ordD, dSq, dZip, zipD_map, ivD, dRg1, dRg2, dLc, dYes, dLcGo, dGen, dGenGo, wipeD, boolsOf, intsOf, maxL, minL, noL, noLs, Option.map_some, Option.bind_some, List.all_cons, List.all_nil, List.any_cons, List.any_nil, id_eq, List.set_cons_zero, List.set_cons_succ, List.getElem?_cons_zero, List.getElem?_cons_succ, List.getElem?_nil, List.getD_cons_zero, List.getD_cons_succ, decide_eq_true_eq, decide_eq_false_iff_not, Bool.not_eq_true', Bool.not_true, Bool.not_false, Bool.and_true, Bool.true_and, Bool.and_false, Bool.false_and, Bool.false_eq_true, if_true, if_false, reduceIte, ite_true, ite_false, true_and, and_true, reduceCtorEq, Int.toNat_zero, Int.toNat_one, Int.cast_ofNat_Int, Int.reduceLT, Int.reduceLE, Int.reduceNeg, Int.reduceToNat, Int.reducePow, Int.reduceMul, Int.reduceAdd, Int.reduceSub, decide_true, decide_false, sp_ratio_plus, sp_ratio_times, sp_ratio_of, sp__apart, sp__size]
  refine ⟨⟨by omega, by omega⟩, ?_⟩
  refine forInv (fun i τ => i ≤ m.toNat ∧ ∃ o, τ = [some (rd x), some (.int m), some (rd (expS x i)), some (rd (expT x i)), o]) _ _ ⟨by omega, none, rfl⟩ ?_ ?_
  · rintro k i y τ hy hk ⟨hi, o, rfl⟩
    obtain ⟨hl, rfl⟩ := rng_at hy
    have sT := expT_sz hx (k := i) (by omega)
    have sS := expS_sz hx (k := i) (by omega)
    have dp := den_pos x
    simp (implicitDefEqProofs := false) (maxSteps := 3000000) only [startD, List.map_cons, List.map_nil, List.length_cons, List.length_nil, List.replicate, List.cons_append, List.nil_append, Nat.reduceAdd, Nat.reduceSub, Nat.zero_add, dSeq, dIfS, dOr, dAnd, dNot, dTst, dOp, dUn, dVar, dC, dB, dBK, dCons, dNil, dTup, dLst, dRet, dRetN, dNext, dNever, dAsg, dPar, dPar3, dIf, dAndV, dOrV, dNotV, dCh, dCt, cLast, cLink, tLast, tLink, dDrop, dFor, dBrk, dCnt, dOwn, dApp, dExt, dFree, gPutO, dIxO, dLend, dLendT, dLcF, gN, gTu, gCn, gNl, gP0, gP1, gII, gIIc, gAdd, gNeg, gIx, gEq, gNe, gIs, gIsNot, gIn, gNotIn, gSl, oNone, oSome, gMt, gIndex, cTuple, cList, cI1, cI2, cLen, cMax, cMin, cMaxT, cMinT, dAug, cAll, cAny, cRepr, cSqrt, cIsi, tyN, isNon, kb_tt, kb_ii, kb_ib, kb_bi, kb_bb, kb_it, kb_bt, kb_nt, kb_ni, kb_lt, kb_li, kb_ti, kb_si, kb_st, kb_ss, rd, dRgN, gEqF, dCallV, spOf, atD, ordD, dSq, dZip, zipD_map, ivD, dRg1, dRg2, dLc, dYes, dLcGo, dGen, dGenGo, wipeD, boolsOf, intsOf, maxL, minL, noL, noLs, Option.map_some, Option.bind_some, List.all_cons, List.all_nil, List.any_cons, List.any_nil, id_eq, List.set_cons_zero, List.set_cons_succ, List.getElem?_cons_zero, List.getElem?_cons_succ, List.getElem?_nil, List.getD_cons_zero, List.getD_cons_succ, decide_eq_true_eq, decide_eq_false_iff_not, Bool.not_eq_true', Bool.not_true, Bool.not_false, Bool.and_true, Bool.true_and, Bool.and_false, Bool.false_and, Bool.false_eq_true, if_true, if_false, reduceIte, ite_true, ite_false, true_and, and_true, reduceCtorEq, Int.toNat_zero, Int.toNat_one, Int.cast_ofNat_Int, Int.reduceLT, Int.reduceLE, Int.reduceNeg, Int.reduceToNat, Int.reducePow, Int.reduceMul, Int.reduceAdd, Int.reduceSub, decide_true, decide_false, sp_ratio_plus, sp_ratio_times, sp_ratio_of, sp__apart, sp__size]
    refine ⟨_, _, _, _, rfl, sS, sT, by omega, .big hx.d (big_four (k := i) (by omega)) (by decide), ⟨12, by decide, hx.n.mono (by decide), hx.d.mul (big_four (k := i) (by omega))⟩, ?_, _, _, _, 12, rfl, sT, ?_, by omega, hk _ ⟨hl, _, rfl⟩⟩
    · have := Int.mul_pos dp (show 0 < 0 + (i : Int) + 1 by omega)
      omega
    · exact Sz.of_frac (Int.mul_pos dp (by omega)) (hx.n.mono (by decide)) (hx.d.mul (big_four (k := i) (by omega)))
  · rintro τ ⟨_, o, rfl⟩
    rw [rng_len]
    have sT := expT_sz hx (k := m.toNat) (by omega)
    have sS := expS_sz hx (k := m.toNat) (by omega)
    have s2 : Sz 2 2 := ⟨⟨by decide⟩, ⟨by decide⟩⟩
    simp (implicitDefEqProofs := false) (maxSteps := 3000000) only [startD, List.map_cons, List.map_nil, List.length_cons, List.length_nil, List.replicate, List.cons_append, List.nil_append, Nat.reduceAdd, Nat.reduceSub, Nat.zero_add, dSeq, dIfS, dOr, dAnd, dNot, dTst, dOp, dUn, dVar, dC, dB, dBK, dCons, dNil, dTup, dLst, dRet, dRetN, dNext, dNever, dAsg, dPar, dPar3, dIf, dAndV, dOrV, dNotV, dCh, dCt, cLast, cLink, tLast, tLink, dDrop, dFor, dBrk, dCnt, dOwn, dApp, dExt, dFree, gPutO, dIxO, dLend, dLendT, dLcF, gN, gTu, gCn, gNl, gP0, gP1, gII, gIIc, gAdd, gNeg, gIx, gEq, gNe, gIs, gIsNot, gIn, gNotIn, gSl, oNone, oSome, gMt, gIndex, cTuple, cList, cI1, cI2, cLen, cMax, cMin, cMaxT, cMinT, dAug, cAll, cAny, cRepr, cSqrt, cIsi, tyN, isNon, kb_tt, kb_ii, kb_ib, kb_bi, kb_bb, kb_it, kb_bt, kb_nt, kb_ni, kb_lt, kb_li, kb_ti, kb_si, kb_st, kb_ss, rd, dRgN, gEqF, dCallV, spOf, atD, ordD, dSq, dZip, zipD_map, ivD, dRg1, dRg2, dLc, dYes, dLcGo, dGen, dGenGo, wipeD, boolsOf, intsOf, maxL, minL, noL, noLs, Option.map_some, Option.bind_some, List.all_cons, List.all_nil, List.any_cons, List.any_nil, id_eq, List.set_cons_zero, List.set_cons_succ, List.getElem?_cons_zero, List.getElem?_cons_succ, List.getElem?_nil, List.getD_cons_zero, List.getD_cons_succ, decide_eq_true_eq, decide_eq_false_iff_not, Bool.not_eq_true', Bool.not_true, Bool.not_false, Bool.and_true, Bool.true_and, Bool.and_false, Bool.false_and, Bool.false_eq_true, if_true, if_false, reduceIte, ite_true, ite_false, true_and, and_true, reduceCtorEq, Int.toNat_zero, Int.toNat_one, Int.cast_ofNat_Int, Int.reduceLT, Int.reduceLE, Int.reduceNeg, Int.reduceToNat, Int.reducePow, Int.reduceMul, Int.reduceAdd, Int.reduceSub, decide_true, decide_false, sp_ratio_plus, sp_ratio_times, sp_ratio_of, sp__apart, sp__size]
    exact ⟨_, rfl, 2, _, _, _, rfl, s2, (sz_ra sT), by omega, _, _, _, _, rfl, sS, s2.mul (sz_ra sT), by omega, h⟩
def sp_ratio_power : SpD :=
  fun ds R => ∃ x : Rat, ds = [rd x, .int 2] ∧ Sz 100 x ∧ R (rd (x ^ 2))
set_option maxHeartbeats 0 in
theorem ok_ratio_power (T : Txt K mg) (D0 : Dfn K mg "ratio_power" "ratio_power" s_ratio_power ["ratio", "many"] []) (C_integer_power : Cal P w K mg base tabs "integer_power" 1 2 ["base", "many"] [] sp_integer_power) : Cal P w K mg base tabs "ratio_power" 2 2 ["ratio", "many"] [] sp_ratio_power := by
  refine cal_of D0 sc_ratio_power fun f cdv A outer s H E p ht hg hk hr => ⟨_, (pdss_one (pds_ret (pd_tup (pda_cons (pdcC (C_integer_power.cal ht) hg hr (pda_cons (pd_ix (pd_var 0) pd_int) (pda_cons (pd_var 1) pda_nil))) (pda_cons (pdcC (C_integer_power.cal ht) hg hr (pda_cons (pd_ix (pd_var 0) pd_int) (pda_cons (pd_var 1) pda_nil))) pda_nil))))), ?_⟩
  intro ds R hl h; unfold sp_ratio_power at h
  clear hl hg hr hk ht
  obtain ⟨x, rfl, hx, h⟩ := h
  simp (implicitDefEqProofs := false) (maxSteps := 3000000) only [startD, List.map_cons, List.map_nil, List.length_cons, List.length_nil, List.replicate, List.cons_append, List.nil_append, Nat.reduceAdd, Nat.reduceSub, Nat.zero_add, dSeq, dIfS, dOr, dAnd, dNot, dTst, dOp, dUn, dVar, dC, dB, dBK, dCons, dNil, dTup, dLst, dRet, dRetN, dNext, dNever, dAsg, dPar, dPar3, dIf, dAndV, dOrV, dNotV, dCh, dCt, cLast, cLink, tLast, tLink, dDrop, dFor, dBrk, dCnt, dOwn, dApp, dExt, dFree, gPutO, dIxO, dLend, dLendT, dLcF, gN, gTu, gCn, gNl, gP0, gP1, gII, gIIc, gAdd, gNeg, gIx, gEq, gNe, gIs, gIsNot, gIn, gNotIn, gSl, oNone, oSome, gMt, gIndex, cTuple, cList, cI1, cI2, cLen, cMax, cMin, cMaxT, cMinT, dAug, cAll, cAny, cRepr, cSqrt, cIsi, tyN, isNon, kb_tt, kb_ii, kb_ib, kb_bi, kb_bb, kb_it, kb_bt, kb_nt, kb_ni, kb_lt, kb_li, kb_ti, kb_si, kb_st, kb_ss, rd, dRgN, gEqF, dCallV, spOf, atD, ordD, dSq, dZip, zipD_map, ivD, dRg1, dRg2, dLc, dYes, dLcGo, dGen, dGenGo, wipeD, boolsOf, intsOf, maxL, minL, noL, noLs, Option.map_some, Option.bind_some, List.all_cons, List.all_nil, List.any_cons, List.any_nil, id_eq, List.set_cons_zero, List.set_cons_succ, List.getElem?_cons_zero, List.getElem?_cons_succ, List.getElem?_nil, List.getD_cons_zero, List.getD_cons_succ, decide_eq_true_eq, decide_eq_false_iff_not, Bool.not_eq_true', Bool.not_true, Bool.not_false, Bool.and_true, Bool.true_and, Bool.and_false, Bool.false_and, Bool.false_eq_true, if_true, if_false, reduceIte, ite_true, ite_false, true_and, and_true, reduceCtorEq, Int.toNat_zero, Int.toNat_one, Int.cast_ofNat_Int, Int.reduceLT, Int.reduceLE, Int.reduceNeg, Int.reduceToNat, Int.reducePow, Int.reduceMul, Int.reduceAdd, Int.reduceSub, decide_true, decide_false, sp_integer_power]
  exact ⟨⟨100, hx.n, by decide⟩, ⟨100, hx.d, by decide⟩, h⟩
def sp__circle_sum : SpD :=
  fun ds R => ∃ (x f : Rat) (m b : Int), ds = [rd x, .int m, rd f, .int b] ∧ Sz 8 x ∧ Sz 8 f ∧ 1 ≤ m ∧ m ≤ 12 ∧ 0 ≤ b ∧ b ≤ 1 ∧ R (.tup [rd (cS x f b m.toNat - ra (cT x f b m.toNat)), rd (cS x f b m.toNat + ra (cT x f b m.toNat))])
set_option maxHeartbeats 0 in
theorem ok__circle_sum (T : Txt K mg) (D0 : Dfn K mg "_circle_sum" "_circle_sum" s__circle_sum ["ratio", "many", "first", "below"] []) (C_ratio_power : Cal P w K mg base tabs "ratio_power" 2 2 ["ratio", "many"] [] sp_ratio_power) (C_ratio_plus : Cal P w K mg base tabs "ratio_plus" 2 2 ["one", "other"] [] sp_ratio_plus) (C_ratio_times : Cal P w K mg base tabs "ratio_times" 2 2 ["one", "other"] [] sp_ratio_times) (C_ratio_of : Cal P w K mg base tabs "ratio_of" 1 2 ["number", "under"] [] sp_ratio_of) (C__apart : Cal P w K mg base tabs "_apart" 4 2 ["total", "rest"] [] sp__apart) (C__size : Cal P w K mg base tabs "_size" 1 1 ["ratio"] [] sp__size) : Cal P w K mg base tabs "_circle_sum" 5 4 ["ratio", "many", "first", "below"] [] sp__circle_sum := by
  refine cal_of D0 sc__circle_sum fun f cdv A outer s H E p ht hg hk hr => ⟨_, (pdss_cons (pds_set (i := 4) sc__circle_sum.nd rfl (Or.inl rfl) (pd_gtup rfl T.m_NOUGHT T.k_NOUGHT (hk _ _ T.l_NOUGHT)))
      (pdss_cons (pds_set (i := 5) sc__circle_sum.nd rfl (Or.inl rfl) (pd_var 2))
      (pdss_cons (pds_set (i := 6) sc__circle_sum.nd rfl (Or.inl rfl) (pdcC (C_ratio_power.cal ht) hg hr (pda_cons (pd_var 0) (pda_cons pd_int pda_nil))))
      (pdss_cons (pds_for rfl PassesOwn.never (pdi_rg1 T.b_range (pda_cons (pd_var 1) pda_nil)) (pdg_name (i := 7) sc__circle_sum.nd rfl (Or.inl rfl)) (pdss_cons (pds_set (i := 4) sc__circle_sum.nd rfl (Or.inl rfl) (pdcC (C_ratio_plus.cal ht) hg hr (pda_cons (pd_var 4) (pda_cons (pd_var 5) pda_nil))))
      (pdss_cons (pds_set (i := 8) sc__circle_sum.nd rfl (Or.inl rfl) (pd_bin opd_mul (pd_bin opd_add (pd_bin opd_add (pd_var 3) (pd_bin opd_mul pd_int (pd_var 7))) pd_int) (pd_bin opd_add (pd_bin opd_add (pd_var 3) (pd_bin opd_mul pd_int (pd_var 7))) pd_int)))
      (pdss_one (pds_set (i := 5) sc__circle_sum.nd rfl (Or.inl rfl) (pdcC (C_ratio_times.cal ht) hg hr (pda_cons (pd_var 5) (pda_cons (pdcC (C_ratio_of.cal ht) hg hr (pda_cons (pd_un und_neg (pd_ix (pd_var 6) pd_int)) (pda_cons (pd_bin opd_mul (pd_ix (pd_var 6) pd_int) (pd_var 8)) pda_nil))) pda_nil))))))))
      (pdss_one (pds_ret (pdcC (C__apart.cal ht) hg hr (pda_cons (pd_var 4) (pda_cons (pdcC (C__size.cal ht) hg hr (pda_cons (pd_var 5) pda_nil)) pda_nil))))))))), ?_⟩
  intro ds R hl h; unfold sp__circle_sum at h
  clear hl hg hr hk ht
  obtain ⟨x, f, m, b, rfl, hx, hf, h1, h2, b0, b1, h⟩ := h
  simp (implicitDefEqProofs := false) (maxSteps := 3000000) only [startD, List.map_cons, List.map_nil, List.length_cons, List.length_nil, List.replicate, List.cons_append, List.nil_append, Nat.reduceAdd, Nat.reduceSub, Nat.zero_add, dSeq, dIfS, dOr, dAnd, dNot, dTst, dOp, dUn, dVar, dC, dB, dBK, dCons, dNil, dTup, dLst, dRet, dRetN, dNext, dNever, dAsg, dPar, dPar3, dIf, dAndV, dOrV, dNotV, dCh, dCt, cLast, cLink, tLast, tLink, dDrop, dFor, dBrk, dCnt, dOwn, dApp, dExt, dFree, gPutO, dIxO, dLend, dLendT, dLcF, gN, gTu, gCn, gNl, gP0, gP1, gII, gIIc, gAdd, gNeg, gIx, gEq, gNe, gIs, gIsNot, gIn, gNotIn, gSl, oNone, oSome, gMt, gIndex, cTuple, cList, cI1, cI2, cLen, cMax, cMin, cMaxT, cMinT, dAug, cAll, cAny, cRepr, cSqrt, cIsi, tyN, isNon, kb_tt, kb_ii, kb_ib, kb_bi, kb_bb, kb_it, kb_bt, kb_nt, kb_ni, kb_lt, kb_li, kb_ti, kb_si, kb_st, kb_ss, rd, dRgN, gEqF, dCallV, spOf, atD, ordD, dSq, dZip, zipD_map, ivD, dRg1, dRg2, dLc, dYes, dLcGo, dGen, dGenGo, wipeD, boolsOf, intsOf, maxL, minL, noL, noLs, Option.map_some, Option.bind_some, List.all_cons, List.all_nil, List.any_cons, List.any_nil, id_eq, List.set_cons_zero, List.set_cons_succ, List.getElem?_cons_zero, List.getElem?_cons_succ, List.getElem?_nil, List.getD_cons_zero, List.getD_cons_succ, decide_eq_true_eq, decide_eq_false_iff_not, Bool.not_eq_true', Bool.not_true, Bool.not_false, Bool.and_true, Bool.true_and, Bool.and_false, Bool.false_and, Bool.false_eq_true, if_true, if_false, reduceIte, ite_true, ite_false, true_and, and_true, reduceCtorEq, Int.toNat_zero, Int.toNat_one, Int.cast_ofNat_Int, Int.reduceLT, Int.reduceLE, Int.reduceNeg, Int.reduceToNat, Int.reducePow, Int.reduceMul, Int.reduceAdd, Int.reduceSub, decide_true, decide_false, sp_ratio_power, sp_ratio_plus, sp_ratio_times, sp_ratio_of, sp__apart, sp__size]
  refine ⟨x, rfl, hx.mono (by decide), ⟨by omega, by omega⟩, ?_⟩
  refine forInv (fun i τ => i ≤ m.toNat ∧ ∃ o o2, τ = [some (rd x), some (.int m), some (rd f), some (.int b), some (rd (cS x f b i)), some (rd (cT x f b i)), some (rd (x ^ 2)), o, o2]) _ _ ⟨by omega, none, none, rfl⟩ ?_ ?_
  · rintro k i y τ hy hk ⟨hi, o, o2, rfl⟩
    obtain ⟨hl, rfl⟩ := rng_at hy
    have sT := cT_sz hx hf b0 b1 (k := i) (by omega)
    have sS := cS_sz hx hf b0 b1 (k := i) (by omega)
    have cb := cStep_big b0 b1 (k := i) (by omega)
    have cp := cStep_pos (k := i) b0
    have p2 : 0 < (x.den : Int) ^ 2 := Int.pow_pos (den_pos x)
    have q2 := hx.d.pow 2
    have e2 : ((x ^ 2 : Rat).den : Int) = (x.den : Int) ^ 2 := by rw [Rat.den_pow]; exact Int.natCast_pow _ _
    simp (implicitDefEqProofs := false) (maxSteps := 3000000) only [startD, List.map_cons, List.map_nil, List.length_cons, List.length_nil, List.replicate, List.cons_append, List.nil_append, Nat.reduceAdd, Nat.reduceSub, Nat.zero_add, dSeq, dIfS, dOr, dAnd, dNot, dTst, dOp, dUn, dVar, dC, dB, dBK, dCons, dNil, dTup, dLst, dRet, dRetN, dNext, dNever, dAsg, dPar, dPar3, dIf, dAndV, dOrV, dNotV, dCh, dCt, cLast, cLink, tLast, tLink, dDrop, dFor, dBrk, dCnt, dOwn, dApp, dExt, dFree, gPutO, dIxO, dLend, dLendT, dLcF, gN, gTu, gCn, gNl, gP0, gP1, gII, gIIc, gAdd, gNeg, gIx, gEq, gNe, gIs, gIsNot, gIn, gNotIn, gSl, oNone, oSome, gMt, gIndex, cTuple, cList, cI1, cI2, cLen, cMax, cMin, cMaxT, cMinT, dAug, cAll, cAny, cRepr, cSqrt, cIsi, tyN, isNon, kb_tt, kb_ii, kb_ib, kb_bi, kb_bb, kb_it, kb_bt, kb_nt, kb_ni, kb_lt, kb_li, kb_ti, kb_si, kb_st, kb_ss, rd, dRgN, gEqF, dCallV, spOf, atD, ordD, dSq, dZip, zipD_map, ivD, dRg1, dRg2, dLc, dYes, dLcGo, dGen, dGenGo, wipeD, boolsOf, intsOf, maxL, minL, noL, noLs, Option.map_some, Option.bind_some, List.all_cons, List.all_nil, List.any_cons, List.any_nil, id_eq, List.set_cons_zero, List.set_cons_succ, List.getElem?_cons_zero, List.getElem?_cons_succ, List.getElem?_nil, List.getD_cons_zero, List.getD_cons_succ, decide_eq_true_eq, decide_eq_false_iff_not, Bool.not_eq_true', Bool.not_true, Bool.not_false, Bool.and_true, Bool.true_and, Bool.and_false, Bool.false_and, Bool.false_eq_true, if_true, if_false, reduceIte, ite_true, ite_false, true_and, and_true, reduceCtorEq, Int.toNat_zero, Int.toNat_one, Int.cast_ofNat_Int, Int.reduceLT, Int.reduceLE, Int.reduceNeg, Int.reduceToNat, Int.reducePow, Int.reduceMul, Int.reduceAdd, Int.reduceSub, decide_true, decide_false, sp_ratio_power, sp_ratio_plus, sp_ratio_times, sp_ratio_of, sp__apart, sp__size]
    rw [e2, Rat.num_pow]
    refine ⟨_, _, _, _, rfl, sS, sT, by omega, .left (by omega) (by omega), .left (by omega) (by omega), .left (by omega) (by omega), .big q2 cb (by decide), ⟨27, by decide, (hx.n.pow 2).neg.mono (by decide), (q2.mul cb).mono (by decide)⟩, ?_, _, _, _, 27, rfl, sT, ?_, by omega, hk _ ⟨hl, _, _, rfl⟩⟩
    · have := Int.mul_pos p2 cp
      exact Int.ne_of_gt this
    · exact Sz.of_frac (Int.mul_pos p2 cp) ((hx.n.pow 2).neg.mono (by decide)) ((q2.mul cb).mono (by decide))
  · rintro τ ⟨_, o, o2, rfl⟩
    rw [rng_len]
    have sT := cT_sz hx hf b0 b1 (k := m.toNat) (by omega)
    have sS := cS_sz hx hf b0 b1 (k := m.toNat) (by omega)
    simp (implicitDefEqProofs := false) (maxSteps := 3000000) only [startD, List.map_cons, List.map_nil, List.length_cons, List.length_nil, List.replicate, List.cons_append, List.nil_append, Nat.reduceAdd, Nat.reduceSub, Nat.zero_add, dSeq, dIfS, dOr, dAnd, dNot, dTst, dOp, dUn, dVar, dC, dB, dBK, dCons, dNil, dTup, dLst, dRet, dRetN, dNext, dNever, dAsg, dPar, dPar3, dIf, dAndV, dOrV, dNotV, dCh, dCt, cLast, cLink, tLast, tLink, dDrop, dFor, dBrk, dCnt, dOwn, dApp, dExt, dFree, gPutO, dIxO, dLend, dLendT, dLcF, gN, gTu, gCn, gNl, gP0, gP1, gII, gIIc, gAdd, gNeg, gIx, gEq, gNe, gIs, gIsNot, gIn, gNotIn, gSl, oNone, oSome, gMt, gIndex, cTuple, cList, cI1, cI2, cLen, cMax, cMin, cMaxT, cMinT, dAug, cAll, cAny, cRepr, cSqrt, cIsi, tyN, isNon, kb_tt, kb_ii, kb_ib, kb_bi, kb_bb, kb_it, kb_bt, kb_nt, kb_ni, kb_lt, kb_li, kb_ti, kb_si, kb_st, kb_ss, rd, dRgN, gEqF, dCallV, spOf, atD, ordD, dSq, dZip, zipD_map, ivD, dRg1, dRg2, dLc, dYes, dLcGo, dGen, dGenGo, wipeD, boolsOf, intsOf, maxL, minL, noL, noLs, Option.map_some, Option.bind_some, List.all_cons, List.all_nil, List.any_cons, List.any_nil, id_eq, List.set_cons_zero, List.set_cons_succ, List.getElem?_cons_zero, List.getElem?_cons_succ, List.getElem?_nil, List.getD_cons_zero, List.getD_cons_succ, decide_eq_true_eq, decide_eq_false_iff_not, Bool.not_eq_true', Bool.not_true, Bool.not_false, Bool.and_true, Bool.true_and, Bool.and_false, Bool.false_and, Bool.false_eq_true, if_true, if_false, reduceIte, ite_true, ite_false, true_and, and_true, reduceCtorEq, Int.toNat_zero, Int.toNat_one, Int.cast_ofNat_Int, Int.reduceLT, Int.reduceLE, Int.reduceNeg, Int.reduceToNat, Int.reducePow, Int.reduceMul, Int.reduceAdd, Int.reduceSub, decide_true, decide_false, sp_ratio_power, sp_ratio_plus, sp_ratio_times, sp_ratio_of, sp__apart, sp__size]
    exact ⟨_, rfl, _, _, _, _, rfl, sS, sz_ra sT, by omega, h⟩
def sp_sine_sum : SpD :=
  fun ds R => ∃ (x : Rat) (m : Int), ds = [rd x, .int m] ∧ Sz 8 x ∧ 1 ≤ m ∧ m ≤ 12 ∧ R (.tup [rd (cS x x 1 m.toNat - ra (cT x x 1 m.toNat)), rd (cS x x 1 m.toNat + ra (cT x x 1 m.toNat))])
set_option maxHeartbeats 0 in
theorem ok_sine_sum (T : Txt K mg) (D0 : Dfn K mg "sine_sum" "sine_sum" s_sine_sum ["ratio", "many"] []) (C__circle_sum : Cal P w K mg base tabs "_circle_sum" 5 4 ["ratio", "many", "first", "below"] [] sp__circle_sum) : Cal P w K mg base tabs "sine_sum" 6 2 ["ratio", "many"] [] sp_sine_sum := by
  refine cal_of D0 sc_sine_sum fun f cdv A outer s H E p ht hg hk hr => ⟨_, (pdss_one (pds_ret (pdcC (C__circle_sum.cal ht) hg hr (pda_cons (pd_var 0) (pda_cons (pd_var 1) (pda_cons (pd_var 0) (pda_cons pd_int pda_nil))))))), ?_⟩
  intro ds R hl h; unfold sp_sine_sum at h
  clear hl hg hr hk ht
  obtain ⟨x, m, rfl, hx, h1, h2, h⟩ := h
  simp (implicitDefEqProofs := false) (maxSteps := 3000000) only [startD, List.map_cons, List.map_nil, List.length_cons, List.length_nil, List.replicate, List.cons_append, List.nil_append, Nat.reduceAdd, Nat.reduceSub, Nat.zero_add, dSeq, dIfS, dOr, dAnd, dNot, dTst, dOp, dUn, dVar, dC, dB, dBK, dCons, dNil, dTup, dLst, dRet, dRetN, dNext, dNever, dAsg, dPar, dPar3, dIf, dAndV, dOrV, dNotV, dCh, dCt, cLast, cLink, tLast, tLink, dDrop, dFor, dBrk, dCnt, dOwn, dApp, dExt, dFree, gPutO, dIxO, dLend, dLendT, dLcF, gN, gTu, gCn, gNl, gP0, gP1, gII, gIIc, gAdd, gNeg, gIx, gEq, gNe, gIs, gIsNot, gIn, gNotIn, gSl, oNone, oSome, gMt, gIndex, cTuple, cList, cI1, cI2, cLen, cMax, cMin, cMaxT, cMinT, dAug, cAll, cAny, cRepr, cSqrt, cIsi, tyN, isNon, kb_tt, kb_ii, kb_ib, kb_bi, kb_bb, kb_it, kb_bt, kb_nt, kb_ni, kb_lt, kb_li, kb_ti, kb_si, kb_st, kb_ss, rd, dRgN, gEqF, dCallV, spOf, atD, ordD, dSq, dZip, zipD_map, ivD, dRg1, dRg2, dLc, dYes, dLcGo, dGen, dGenGo, wipeD, boolsOf, intsOf, maxL, minL, noL, noLs, Option.map_some, Option.bind_some, List.all_cons, List.all_nil, List.any_cons, List.any_nil, id_eq, List.set_cons_zero, List.set_cons_succ, List.getElem?_cons_zero, List.getElem?_cons_succ, List.getElem?_nil, List.getD_cons_zero, List.getD_cons_succ, decide_eq_true_eq, decide_eq_false_iff_not, Bool.not_eq_true', Bool.not_true, Bool.not_false, Bool.and_true, Bool.true_and, Bool.and_false, Bool.false_and, Bool.false_eq_true, if_true, if_false, reduceIte, ite_true, ite_false, true_and, and_true, reduceCtorEq, Int.toNat_zero, Int.toNat_one, Int.cast_ofNat_Int, Int.reduceLT, Int.reduceLE, Int.reduceNeg, Int.reduceToNat, Int.reducePow, Int.reduceMul, Int.reduceAdd, Int.reduceSub, decide_true, decide_false, sp__circle_sum]
  exact ⟨x, x, m, 1, rfl, hx, hx, h1, h2, by decide, by decide, h⟩
def sp_cosine_sum : SpD :=
  fun ds R => ∃ (x : Rat) (m : Int), ds = [rd x, .int m] ∧ Sz 8 x ∧ 1 ≤ m ∧ m ≤ 12 ∧ R (.tup [rd (cS x 1 0 m.toNat - ra (cT x 1 0 m.toNat)), rd (cS x 1 0 m.toNat + ra (cT x 1 0 m.toNat))])
set_option maxHeartbeats 0 in
theorem ok_cosine_sum (T : Txt K mg) (D0 : Dfn K mg "cosine_sum" "cosine_sum" s_cosine_sum ["ratio", "many"] []) (C__circle_sum : Cal P w K mg base tabs "_circle_sum" 5 4 ["ratio", "many", "first", "below"] [] sp__circle_sum) : Cal P w K mg base tabs "cosine_sum" 6 2 ["ratio", "many"] [] sp_cosine_sum := by
  refine cal_of D0 sc_cosine_sum fun f cdv A outer s H E p ht hg hk hr => ⟨_, (pdss_one (pds_ret (pdcC (C__circle_sum.cal ht) hg hr (pda_cons (pd_var 0) (pda_cons (pd_var 1) (pda_cons (pd_gtup rfl T.m_UNIT T.k_UNIT (hk _ _ T.l_UNIT)) (pda_cons pd_int pda_nil))))))), ?_⟩
  intro ds R hl h; unfold sp_cosine_sum at h
  clear hl hg hr hk ht
  obtain ⟨x, m, rfl, hx, h1, h2, h⟩ := h
  simp (implicitDefEqProofs := false) (maxSteps := 3000000) only [startD, List.map_cons, List.map_nil, List.length_cons, List.length_nil, List.replicate, List.cons_append, List.nil_append, Nat.reduceAdd, Nat.reduceSub, Nat.zero_add, dSeq, dIfS, dOr, dAnd, dNot, dTst, dOp, dUn, dVar, dC, dB, dBK, dCons, dNil, dTup, dLst, dRet, dRetN, dNext, dNever, dAsg, dPar, dPar3, dIf, dAndV, dOrV, dNotV, dCh, dCt, cLast, cLink, tLast, tLink, dDrop, dFor, dBrk, dCnt, dOwn, dApp, dExt, dFree, gPutO, dIxO, dLend, dLendT, dLcF, gN, gTu, gCn, gNl, gP0, gP1, gII, gIIc, gAdd, gNeg, gIx, gEq, gNe, gIs, gIsNot, gIn, gNotIn, gSl, oNone, oSome, gMt, gIndex, cTuple, cList, cI1, cI2, cLen, cMax, cMin, cMaxT, cMinT, dAug, cAll, cAny, cRepr, cSqrt, cIsi, tyN, isNon, kb_tt, kb_ii, kb_ib, kb_bi, kb_bb, kb_it, kb_bt, kb_nt, kb_ni, kb_lt, kb_li, kb_ti, kb_si, kb_st, kb_ss, rd, dRgN, gEqF, dCallV, spOf, atD, ordD, dSq, dZip, zipD_map, ivD, dRg1, dRg2, dLc, dYes, dLcGo, dGen, dGenGo, wipeD, boolsOf, intsOf, maxL, minL, noL, noLs, Option.map_some, Option.bind_some, List.all_cons, List.all_nil, List.any_cons, List.any_nil, id_eq, List.set_cons_zero, List.set_cons_succ, List.getElem?_cons_zero, List.getElem?_cons_succ, List.getElem?_nil, List.getD_cons_zero, List.getD_cons_succ, decide_eq_true_eq, decide_eq_false_iff_not, Bool.not_eq_true', Bool.not_true, Bool.not_false, Bool.and_true, Bool.true_and, Bool.and_false, Bool.false_and, Bool.false_eq_true, if_true, if_false, reduceIte, ite_true, ite_false, true_and, and_true, reduceCtorEq, Int.toNat_zero, Int.toNat_one, Int.cast_ofNat_Int, Int.reduceLT, Int.reduceLE, Int.reduceNeg, Int.reduceToNat, Int.reducePow, Int.reduceMul, Int.reduceAdd, Int.reduceSub, decide_true, decide_false, sp__circle_sum]
  exact ⟨x, 1, m, 0, rfl, hx, Sz.one.mono (by decide), h1, h2, by decide, by decide, h⟩
def sp_log_sum : SpD :=
  fun ds R => ∃ (x : Rat) (m : Int), ds = [rd x, .int m] ∧ Sz 8 x ∧ 0 < x ∧ 1 ≤ m ∧ m ≤ 12 ∧ R (.tup [rd (2 * lS ((x - 1) / (x + 1)) m.toNat - ra (lP ((x - 1) / (x + 1)) m.toNat) * (((9 : Int) : Rat) / ((4 * (2 * m + 1) : Int) : Rat))), rd (2 * lS ((x - 1) / (x + 1)) m.toNat + ra (lP ((x - 1) / (x + 1)) m.toNat) * (((9 : Int) : Rat) / ((4 * (2 * m + 1) : Int) : Rat)))])
set_option maxHeartbeats 0 in
theorem ok_log_sum (T : Txt K mg) (D0 : Dfn K mg "log_sum" "log_sum" s_log_sum ["ratio", "many"] []) (C_ratio_over : Cal P w K mg base tabs "ratio_over" 2 2 ["one", "other"] [] sp_ratio_over) (C_ratio_plus : Cal P w K mg base tabs "ratio_plus" 2 2 ["one", "other"] [] sp_ratio_plus) (C_ratio_minus : Cal P w K mg base tabs "ratio_minus" 3 2 ["one", "other"] [] sp_ratio_minus) (C_ratio_power : Cal P w K mg base tabs "ratio_power" 2 2 ["ratio", "many"] [] sp_ratio_power) (C_ratio_times : Cal P w K mg base tabs "ratio_times" 2 2 ["one", "other"] [] sp_ratio_times) (C_ratio_of : Cal P w K mg base tabs "ratio_of" 1 2 ["number", "under"] [] sp_ratio_of) (C__size : Cal P w K mg base tabs "_size" 1 1 ["ratio"] [] sp__size) (C__apart : Cal P w K mg base tabs "_apart" 4 2 ["total", "rest"] [] sp__apart) : Cal P w K mg base tabs "log_sum" 5 2 ["ratio", "many"] [] sp_log_sum := by
  refine cal_of D0 sc_log_sum fun f cdv A outer s H E p ht hg hk hr => ⟨_, (pdss_cons (pds_set (i := 2) sc_log_sum.nd rfl (Or.inl rfl) (pdcC (C_ratio_over.cal ht) hg hr (pda_cons (pdcC (C_ratio_minus.cal ht) hg hr (pda_cons (pd_var 0) (pda_cons (pd_gtup rfl T.m_UNIT T.k_UNIT (hk _ _ T.l_UNIT)) pda_nil))) (pda_cons (pdcC (C_ratio_plus.cal ht) hg hr (pda_cons (pd_var 0) (pda_cons (pd_gtup rfl T.m_UNIT T.k_UNIT (hk _ _ T.l_UNIT)) pda_nil))) pda_nil))))
      (pdss_cons (pds_set (i := 3) sc_log_sum.nd rfl (Or.inl rfl) (pdcC (C_ratio_power.cal ht) hg hr (pda_cons (pd_var 2) (pda_cons pd_int pda_nil))))
      (pdss_cons (pds_set (i := 4) sc_log_sum.nd rfl (Or.inl rfl) (pd_gtup rfl T.m_NOUGHT T.k_NOUGHT (hk _ _ T.l_NOUGHT)))
      (pdss_cons (pds_set (i := 5) sc_log_sum.nd rfl (Or.inl rfl) (pd_var 2))
      (pdss_cons (pds_for rfl PassesOwn.never (pdi_rg1 T.b_range (pda_cons (pd_var 1) pda_nil)) (pdg_name (i := 6) sc_log_sum.nd rfl (Or.inl rfl)) (pdss_cons (pds_set (i := 4) sc_log_sum.nd rfl (Or.inl rfl) (pdcC (C_ratio_plus.cal ht) hg hr (pda_cons (pd_var 4) (pda_cons (pdcC (C_ratio_times.cal ht) hg hr (pda_cons (pd_var 5) (pda_cons (pd_tup (pda_cons pd_int (pda_cons (pd_bin opd_add (pd_bin opd_mul pd_int (pd_var 6)) pd_int) pda_nil))) pda_nil))) pda_nil))))
      (pdss_one (pds_set (i := 5) sc_log_sum.nd rfl (Or.inl rfl) (pdcC (C_ratio_times.cal ht) hg hr (pda_cons (pd_var 5) (pda_cons (pd_var 3) pda_nil)))))))
      (pdss_cons (pds_set (i := 7) sc_log_sum.nd rfl (Or.inl rfl) (pdcC (C_ratio_times.cal ht) hg hr (pda_cons (pdcC (C__size.cal ht) hg hr (pda_cons (pd_var 5) pda_nil)) (pda_cons (pdcC (C_ratio_of.cal ht) hg hr (pda_cons pd_int (pda_cons (pd_bin opd_mul pd_int (pd_bin opd_add (pd_bin opd_mul pd_int (pd_var 1)) pd_int)) pda_nil))) pda_nil))))
      (pdss_one (pds_ret (pdcC (C__apart.cal ht) hg hr (pda_cons (pdcC (C_ratio_times.cal ht) hg hr (pda_cons (pd_tup (pda_cons pd_int (pda_cons pd_int pda_nil))) (pda_cons (pd_var 4) pda_nil))) (pda_cons (pd_var 7) pda_nil))))))))))), ?_⟩
  intro ds R hl h; unfold sp_log_sum at h
  clear hl hg hr hk ht
  obtain ⟨x, m, rfl, hx, h0, h1, h2, h⟩ := h
  have s1 := hx.sub Sz.one
  have s2 := hx.add Sz.one
  have n1 : x + 1 ≠ 0 := by grind
  have sp : Sz 20 ((x - 1) / (x + 1)) := by
    rw [div_frac _ _ n1]
    have p1 : 0 < (x + 1).num := by
      have : 0 < x + 1 := by grind
      rw [Rat.lt_iff] at this
      have t : 0 * ((x + 1).den : Int) < (x + 1).num * 1 := this
      omega
    exact Sz.of_frac (Int.mul_pos (den_pos _) p1) (s1.n.mul s2.d) (s1.d.mul s2.n)
  simp (implicitDefEqProofs := false) (maxSteps := 3000000) only [startD, List.map_cons, List.map_nil, List.length_cons, List.length_nil, List.replicate, List.cons_append, List.nil_append, Nat.reduceAdd, Nat.reduceSub, Nat.zero_add, dSeq, dIfS, dOr, dAnd, dNot, dTst, dOp, dUn, dVar, dC, dB, dBK, dCons, dNil, dTup, dLst, dRet, dRetN, dNext, dNever, dAsg, dPar, dPar3, dIf, dAndV, dOrV, dNotV, dCh, dCt, cLast, cLink, tLast, tLink, dDrop, dFor, dBrk, dCnt, dOwn, dApp, dExt, dFree, gPutO, dIxO, dLend, dLendT, dLcF, gN, gTu, gCn, gNl, gP0, gP1, gII, gIIc, gAdd, gNeg, gIx, gEq, gNe, gIs, gIsNot, gIn, gNotIn, gSl, oNone, oSome, gMt, gIndex, cTuple, cList, cI1, cI2, cLen, cMax, cMin, cMaxT, cMinT, dAug, cAll, cAny, cRepr, cSqrt, cIsi, tyN, isNon, kb_tt, kb_ii, kb_ib, kb_bi, kb_bb, kb_it, kb_bt, kb_nt, kb_ni, kb_lt, kb_li, kb_ti, kb_si, kb_st, kb_ss, rd, dRgN, gEqF, dCallV, spOf, atD, ordD, dSq, dZip, zipD_map, ivD, dRg1, dRg2, dLc, dYes, dLcGo, dGen, dGenGo, wipeD, boolsOf, intsOf, maxL, minL, noL, noLs, Option.map_some, Option.bind_some, List.all_cons, List.all_nil, List.any_cons, List.any_nil, id_eq, List.set_cons_zero, List.set_cons_succ, List.getElem?_cons_zero, List.getElem?_cons_succ, List.getElem?_nil, List.getD_cons_zero, List.getD_cons_succ, decide_eq_true_eq, decide_eq_false_iff_not, Bool.not_eq_true', Bool.not_true, Bool.not_false, Bool.and_true, Bool.true_and, Bool.and_false, Bool.false_and, Bool.false_eq_true, if_true, if_false, reduceIte, ite_true, ite_false, true_and, and_true, reduceCtorEq, Int.toNat_zero, Int.toNat_one, Int.cast_ofNat_Int, Int.reduceLT, Int.reduceLE, Int.reduceNeg, Int.reduceToNat, Int.reducePow, Int.reduceMul, Int.reduceAdd, Int.reduceSub, decide_true, decide_false, sp_ratio_over, sp_ratio_plus, sp_ratio_minus, sp_ratio_power, sp_ratio_times, sp_ratio_of, sp__size, sp__apart]
  refine ⟨x, 1, 8, 1, rfl, hx, Sz.one, by decide, x, 1, 8, 1, rfl, hx, Sz.one, by decide, _, _, _, _, rfl, s1, s2, by decide, n1, _, rfl, sp.mono (by decide), ⟨by omega, by omega⟩, ?_⟩
  revert sp h
  generalize (x - 1) / (x + 1) = p
  intro h sp
  refine forInv (fun i τ => i ≤ m.toNat ∧ ∃ o o2, τ = [some (rd x), some (.int m), some (rd p), some (rd (p ^ 2)), some (rd (lS p i)), some (rd (lP p i)), o, o2]) _ _ ⟨by omega, none, none, rfl⟩ ?_ ?_
  · rintro k i y τ hy hk ⟨hi, o, o2, rfl⟩
    obtain ⟨hl, rfl⟩ := rng_at hy
    have sT := lP_sz sp (k := i)
    have sS := lS_sz sp (k := i) (by omega)
    have so := odd_sz (k := i) (by omega)
    have eo := odd_rd i
    simp (implicitDefEqProofs := false) (maxSteps := 3000000) only [startD, List.map_cons, List.map_nil, List.length_cons, List.length_nil, List.replicate, List.cons_append, List.nil_append, Nat.reduceAdd, Nat.reduceSub, Nat.zero_add, dSeq, dIfS, dOr, dAnd, dNot, dTst, dOp, dUn, dVar, dC, dB, dBK, dCons, dNil, dTup, dLst, dRet, dRetN, dNext, dNever, dAsg, dPar, dPar3, dIf, dAndV, dOrV, dNotV, dCh, dCt, cLast, cLink, tLast, tLink, dDrop, dFor, dBrk, dCnt, dOwn, dApp, dExt, dFree, gPutO, dIxO, dLend, dLendT, dLcF, gN, gTu, gCn, gNl, gP0, gP1, gII, gIIc, gAdd, gNeg, gIx, gEq, gNe, gIs, gIsNot, gIn, gNotIn, gSl, oNone, oSome, gMt, gIndex, cTuple, cList, cI1, cI2, cLen, cMax, cMin, cMaxT, cMinT, dAug, cAll, cAny, cRepr, cSqrt, cIsi, tyN, isNon, kb_tt, kb_ii, kb_ib, kb_bi, kb_bb, kb_it, kb_bt, kb_nt, kb_ni, kb_lt, kb_li, kb_ti, kb_si, kb_st, kb_ss, rd, dRgN, gEqF, dCallV, spOf, atD, ordD, dSq, dZip, zipD_map, ivD, dRg1, dRg2, dLc, dYes, dLcGo, dGen, dGenGo, wipeD, boolsOf, intsOf, maxL, minL, noL, noLs, Option.map_some, Option.bind_some, List.all_cons, List.all_nil, List.any_cons, List.any_nil, id_eq, List.set_cons_zero, List.set_cons_succ, List.getElem?_cons_zero, List.getElem?_cons_succ, List.getElem?_nil, List.getD_cons_zero, List.getD_cons_succ, decide_eq_true_eq, decide_eq_false_iff_not, Bool.not_eq_true', Bool.not_true, Bool.not_false, Bool.and_true, Bool.true_and, Bool.and_false, Bool.false_and, Bool.false_eq_true, if_true, if_false, reduceIte, ite_true, ite_false, true_and, and_true, reduceCtorEq, Int.toNat_zero, Int.toNat_one, Int.cast_ofNat_Int, Int.reduceLT, Int.reduceLE, Int.reduceNeg, Int.reduceToNat, Int.reducePow, Int.reduceMul, Int.reduceAdd, Int.reduceSub, decide_true, decide_false, sp_ratio_over, sp_ratio_plus, sp_ratio_minus, sp_ratio_power, sp_ratio_times, sp_ratio_of, sp__size, sp__apart]
    refine ⟨.left (by omega) (by omega), _, _, _, _, by rw [← eo]; rfl, sT, so, by omega, _, _, _, _, rfl, sS, sT.mul so, by omega, _, _, _, _, rfl, sT, sq_sz sp, by omega, hk _ ⟨hl, _, _, rfl⟩⟩
  · rintro τ ⟨_, o, o2, rfl⟩
    rw [rng_len]
    have sT := lP_sz sp (k := m.toNat)
    have sS := lS_sz sp (k := m.toNat) (by omega)
    have s2 : Sz 2 2 := ⟨⟨by decide⟩, ⟨by decide⟩⟩
    have b1 : Big 8 (4 * (2 * m + 1)) := ⟨by show _ < 256; omega⟩
    have s9 : Sz 8 (((9 : Int) : Rat) / ((4 * (2 * m + 1) : Int) : Rat)) := Sz.of_frac (by omega) ⟨by decide⟩ b1
    simp (implicitDefEqProofs := false) (maxSteps := 3000000) only [startD, List.map_cons, List.map_nil, List.length_cons, List.length_nil, List.replicate, List.cons_append, List.nil_append, Nat.reduceAdd, Nat.reduceSub, Nat.zero_add, dSeq, dIfS, dOr, dAnd, dNot, dTst, dOp, dUn, dVar, dC, dB, dBK, dCons, dNil, dTup, dLst, dRet, dRetN, dNext, dNever, dAsg, dPar, dPar3, dIf, dAndV, dOrV, dNotV, dCh, dCt, cLast, cLink, tLast, tLink, dDrop, dFor, dBrk, dCnt, dOwn, dApp, dExt, dFree, gPutO, dIxO, dLend, dLendT, dLcF, gN, gTu, gCn, gNl, gP0, gP1, gII, gIIc, gAdd, gNeg, gIx, gEq, gNe, gIs, gIsNot, gIn, gNotIn, gSl, oNone, oSome, gMt, gIndex, cTuple, cList, cI1, cI2, cLen, cMax, cMin, cMaxT, cMinT, dAug, cAll, cAny, cRepr, cSqrt, cIsi, tyN, isNon, kb_tt, kb_ii, kb_ib, kb_bi, kb_bb, kb_it, kb_bt, kb_nt, kb_ni, kb_lt, kb_li, kb_ti, kb_si, kb_st, kb_ss, rd, dRgN, gEqF, dCallV, spOf, atD, ordD, dSq, dZip, zipD_map, ivD, dRg1, dRg2, dLc, dYes, dLcGo, dGen, dGenGo, wipeD, boolsOf, intsOf, maxL, minL, noL, noLs, Option.map_some, Option.bind_some, List.all_cons, List.all_nil, List.any_cons, List.any_nil, id_eq, List.set_cons_zero, List.set_cons_succ, List.getElem?_cons_zero, List.getElem?_cons_succ, List.getElem?_nil, List.getD_cons_zero, List.getD_cons_succ, decide_eq_true_eq, decide_eq_false_iff_not, Bool.not_eq_true', Bool.not_true, Bool.not_false, Bool.and_true, Bool.true_and, Bool.and_false, Bool.false_and, Bool.false_eq_true, if_true, if_false, reduceIte, ite_true, ite_false, true_and, and_true, reduceCtorEq, Int.toNat_zero, Int.toNat_one, Int.cast_ofNat_Int, Int.reduceLT, Int.reduceLE, Int.reduceNeg, Int.reduceToNat, Int.reducePow, Int.reduceMul, Int.reduceAdd, Int.reduceSub, decide_true, decide_false, sp_ratio_over, sp_ratio_plus, sp_ratio_minus, sp_ratio_power, sp_ratio_times, sp_ratio_of, sp__size, sp__apart]
    exact ⟨_, rfl, .left (by omega) (by omega), .left (by omega) (by omega), ⟨8, by decide, ⟨by decide⟩, b1⟩, by omega, _, _, _, _, rfl, sz_ra sT, s9, by omega, 2, _, _, _, rfl, s2, sS, by omega, _, _, _, _, rfl, s2.mul sS, (sz_ra sT).mul s9, by omega, h⟩
def sp_exp_between : SpD :=
  fun ds R => ∃ (x : Rat) (m : Int), ds = [rd x, .int m] ∧ Sz 8 x ∧ (x.num.natAbs : Int) ≤ x.den ∧ 1 ≤ m ∧ m ≤ 12 ∧ R (.tup [rd (expS x m.toNat - 2 * ra (expT x m.toNat)), rd (expS x m.toNat + 2 * ra (expT x m.toNat))])
set_option maxHeartbeats 0 in
theorem ok_exp_between (T : Txt K mg) (D0 : Dfn K mg "exp_between" "exp_between" s_exp_between ["ratio", "many"] []) (C_check_sum : Cal P w K mg base tabs "check_sum" 4 2 ["ratio", "many"] [] sp_check_sum) (C_check_near : Cal P w K mg base tabs "check_near" 1 1 ["ratio"] [] sp_check_near) (C_exp_sum : Cal P w K mg base tabs "exp_sum" 5 2 ["ratio", "many"] [] sp_exp_sum) : Cal P w K mg base tabs "exp_between" 6 2 ["ratio", "many"] [] sp_exp_between := by
  refine cal_of D0 sc_exp_between fun f cdv A outer s H E p ht hg hk hr => ⟨_, (pdss_cons (pds_expr (pdcC (C_check_sum.cal ht) hg hr (pda_cons (pd_var 0) (pda_cons (pd_var 1) pda_nil))))
      (pdss_cons (pds_expr (pdcC (C_check_near.cal ht) hg hr (pda_cons (pd_var 0) pda_nil)))
      (pdss_one (pds_ret (pdcC (C_exp_sum.cal ht) hg hr (pda_cons (pd_var 0) (pda_cons (pd_var 1) pda_nil))))))), ?_⟩
  intro ds R hl h; unfold sp_exp_between at h
  clear hl hg hr hk ht
  obtain ⟨x, m, rfl, hx, hn, h1, h2, h⟩ := h
  simp (implicitDefEqProofs := false) (maxSteps := 3000000) only [startD, List.map_cons, List.map_nil, List.length_cons, List.length_nil, List.replicate, List.cons_append, List.nil_append, Nat.reduceAdd, Nat.reduceSub, Nat.zero_add, dSeq, dIfS, dOr, dAnd, dNot, dTst, dOp, dUn, dVar, dC, dB, dBK, dCons, dNil, dTup, dLst, dRet, dRetN, dNext, dNever, dAsg, dPar, dPar3, dIf, dAndV, dOrV, dNotV, dCh, dCt, cLast, cLink, tLast, tLink, dDrop, dFor, dBrk, dCnt, dOwn, dApp, dExt, dFree, gPutO, dIxO, dLend, dLendT, dLcF, gN, gTu, gCn, gNl, gP0, gP1, gII, gIIc, gAdd, gNeg, gIx, gEq, gNe, gIs, gIsNot, gIn, gNotIn, gSl, oNone, oSome, gMt, gIndex, cTuple, cList, cI1, cI2, cLen, cMax, cMin, cMaxT, cMinT, dAug, cAll, cAny, cRepr, cSqrt, cIsi, tyN, isNon, kb_tt, kb_ii, kb_ib, kb_bi, kb_bb, kb_it, kb_bt, kb_nt, kb_ni, kb_lt, kb_li, kb_ti, kb_si, kb_st, kb_ss, rd, dRgN, gEqF, dCallV, spOf, atD, ordD, dSq, dZip, zipD_map, ivD, dRg1, dRg2, dLc, dYes, dLcGo, dGen, dGenGo, wipeD, boolsOf, intsOf, maxL, minL, noL, noLs, Option.map_some, Option.bind_some, List.all_cons, List.all_nil, List.any_cons, List.any_nil, id_eq, List.set_cons_zero, List.set_cons_succ, List.getElem?_cons_zero, List.getElem?_cons_succ, List.getElem?_nil, List.getD_cons_zero, List.getD_cons_succ, decide_eq_true_eq, decide_eq_false_iff_not, Bool.not_eq_true', Bool.not_true, Bool.not_false, Bool.and_true, Bool.true_and, Bool.and_false, Bool.false_and, Bool.false_eq_true, if_true, if_false, reduceIte, ite_true, ite_false, true_and, and_true, reduceCtorEq, Int.toNat_zero, Int.toNat_one, Int.cast_ofNat_Int, Int.reduceLT, Int.reduceLE, Int.reduceNeg, Int.reduceToNat, Int.reducePow, Int.reduceMul, Int.reduceAdd, Int.reduceSub, decide_true, decide_false, sp_check_sum, sp_check_near, sp_exp_sum]
  exact ⟨x, m, rfl, h1, h2, x, rfl, hn, x, m, rfl, hx, h1, h2, h⟩
def sp_sine_between : SpD :=
  fun ds R => ∃ (x : Rat) (m : Int), ds = [rd x, .int m] ∧ Sz 8 x ∧ (x.num.natAbs : Int) ≤ x.den ∧ 1 ≤ m ∧ m ≤ 12 ∧ R (.tup [rd (cS x x 1 m.toNat - ra (cT x x 1 m.toNat)), rd (cS x x 1 m.toNat + ra (cT x x 1 m.toNat))])
set_option maxHeartbeats 0 in
theorem ok_sine_between (T : Txt K mg) (D0 : Dfn K mg "sine_between" "sine_between" s_sine_between ["ratio", "many"] [(["many", "ratio"], 0, [1, 0])]) (C_check_sum : Cal P w K mg base tabs "check_sum" 4 2 ["ratio", "many"] [] sp_check_sum) (C_check_near : Cal P w K mg base tabs "check_near" 1 1 ["ratio"] [] sp_check_near) (C_sine_sum : Cal P w K mg base tabs "sine_sum" 6 2 ["ratio", "many"] [] sp_sine_sum) : Cal P w K mg base tabs "sine_between" 7 2 ["ratio", "many"] [(["many", "ratio"], 0, [1, 0])] sp_sine_between := by
  refine cal_of D0 sc_sine_between fun f cdv A outer s H E p ht hg hk hr => ⟨_, (pdss_cons (pds_expr (pdcC (C_check_sum.cal ht) hg hr (pda_cons (pd_var 0) (pda_cons (pd_var 1) pda_nil))))
      (pdss_cons (pds_expr (pdcC (C_check_near.cal ht) hg hr (pda_cons (pd_var 0) pda_nil)))
      (pdss_one (pds_ret (pdcC (C_sine_sum.cal ht) hg hr (pda_cons (pd_var 0) (pda_cons (pd_var 1) pda_nil))))))), ?_⟩
  intro ds R hl h; unfold sp_sine_between at h
  clear hl hg hr hk ht
  obtain ⟨x, m, rfl, hx, hn, h1, h2, h⟩ := h
  simp (implicitDefEqProofs := false) (maxSteps := 3000000) only [startD, List.map_cons, List.map_nil, List.length_cons, List.length_nil, List.replicate, List.cons_append, List.nil_append, Nat.reduceAdd, Nat.reduceSub, Nat.zero_add, dSeq, dIfS, dOr, dAnd, dNot, dTst, dOp, dUn, dVar, dC, dB, dBK, dCons, dNil, dTup, dLst, dRet, dRetN, dNext, dNever, dAsg, dPar, dPar3, dIf, dAndV, dOrV, dNotV, dCh, dCt, cLast, cLink, tLast, tLink, dDrop, dFor, dBrk, dCnt, dOwn, dApp, dExt, dFree, gPutO, dIxO, dLend, dLendT, dLcF, gN, gTu, gCn, gNl, gP0, gP1, gII, gIIc, gAdd, gNeg, gIx, gEq, gNe, gIs, gIsNot, gIn, gNotIn, gSl, oNone, oSome, gMt, gIndex, cTuple, cList, cI1, cI2, cLen, cMax, cMin, cMaxT, cMinT, dAug, cAll, cAny, cRepr, cSqrt, cIsi, tyN, isNon, kb_tt, kb_ii, kb_ib, kb_bi, kb_bb, kb_it, kb_bt, kb_nt, kb_ni, kb_lt, kb_li, kb_ti, kb_si, kb_st, kb_ss, rd, dRgN, gEqF, dCallV, spOf, atD, ordD, dSq, dZip, zipD_map, ivD, dRg1, dRg2, dLc, dYes, dLcGo, dGen, dGenGo, wipeD, boolsOf, intsOf, maxL, minL, noL, noLs, Option.map_some, Option.bind_some, List.all_cons, List.all_nil, List.any_cons, List.any_nil, id_eq, List.set_cons_zero, List.set_cons_succ, List.getElem?_cons_zero, List.getElem?_cons_succ, List.getElem?_nil, List.getD_cons_zero, List.getD_cons_succ, decide_eq_true_eq, decide_eq_false_iff_not, Bool.not_eq_true', Bool.not_true, Bool.not_false, Bool.and_true, Bool.true_and, Bool.and_false, Bool.false_and, Bool.false_eq_true, if_true, if_false, reduceIte, ite_true, ite_false, true_and, and_true, reduceCtorEq, Int.toNat_zero, Int.toNat_one, Int.cast_ofNat_Int, Int.reduceLT, Int.reduceLE, Int.reduceNeg, Int.reduceToNat, Int.reducePow, Int.reduceMul, Int.reduceAdd, Int.reduceSub, decide_true, decide_false, sp_check_sum, sp_check_near, sp_sine_sum]
  exact ⟨x, m, rfl, h1, h2, x, rfl, hn, x, m, rfl, hx, h1, h2, h⟩
def sp_cosine_between : SpD :=
  fun ds R => ∃ (x : Rat) (m : Int), ds = [rd x, .int m] ∧ Sz 8 x ∧ (x.num.natAbs : Int) ≤ x.den ∧ 1 ≤ m ∧ m ≤ 12 ∧ R (.tup [rd (cS x 1 0 m.toNat - ra (cT x 1 0 m.toNat)), rd (cS x 1 0 m.toNat + ra (cT x 1 0 m.toNat))])
set_option maxHeartbeats 0 in
theorem ok_cosine_between (T : Txt K mg) (D0 : Dfn K mg "cosine_between" "cosine_between" s_cosine_between ["ratio", "many"] []) (C_check_sum : Cal P w K mg base tabs "check_sum" 4 2 ["ratio", "many"] [] sp_check_sum) (C_check_near : Cal P w K mg base tabs "check_near" 1 1 ["ratio"] [] sp_check_near) (C_cosine_sum : Cal P w K mg base tabs "cosine_sum" 6 2 ["ratio", "many"] [] sp_cosine_sum) : Cal P w K mg base tabs "cosine_between" 7 2 ["ratio", "many"] [] sp_cosine_between := by
  refine cal_of D0 sc_cosine_between fun f cdv A outer s H E p ht hg hk hr => ⟨_, (pdss_cons (pds_expr (pdcC (C_check_sum.cal ht) hg hr (pda_cons (pd_var 0) (pda_cons (pd_var 1) pda_nil))))
      (pdss_cons (pds_expr (pdcC (C_check_near.cal ht) hg hr (pda_cons (pd_var 0) pda_nil)))
      (pdss_one (pds_ret (pdcC (C_cosine_sum.cal ht) hg hr (pda_cons (pd_var 0) (pda_cons (pd_var 1) pda_nil))))))), ?_⟩
  intro ds R hl h; unfold sp_cosine_between at h
  clear hl hg hr hk ht
  obtain ⟨x, m, rfl, hx, hn, h1, h2, h⟩ := h
  simp (implicitDefEqProofs := false) (maxSteps := 3000000) only [startD, List.map_cons, List.map_nil, List.length_cons, List.length_nil, List.replicate, List.cons_append, List.nil_append, Nat.reduceAdd, Nat.reduceSub, Nat.zero_add, dSeq, dIfS, dOr, dAnd, dNot, dTst, dOp, dUn, dVar, dC, dB, dBK, dCons, dNil, dTup, dLst, dRet, dRetN, dNext, dNever, dAsg, dPar, dPar3, dIf, dAndV, dOrV, dNotV, dCh, dCt, cLast, cLink, tLast, tLink, dDrop, dFor, dBrk, dCnt, dOwn, dApp, dExt, dFree, gPutO, dIxO, dLend, dLendT, dLcF, gN, gTu, gCn, gNl, gP0, gP1, gII, gIIc, gAdd, gNeg, gIx, gEq, gNe, gIs, gIsNot, gIn, gNotIn, gSl, oNone, oSome, gMt, gIndex, cTuple, cList, cI1, cI2, cLen, cMax, cMin, cMaxT, cMinT, dAug, cAll, cAny, cRepr, cSqrt, cIsi, tyN, isNon, kb_tt, kb_ii, kb_ib, kb_bi, kb_bb, kb_it, kb_bt, kb_nt, kb_ni, kb_lt, kb_li, kb_ti, kb_si, kb_st, kb_ss, rd, dRgN, gEqF, dCallV, spOf, atD, ordD, dSq, dZip, zipD_map, ivD, dRg1, dRg2, dLc, dYes, dLcGo, dGen, dGenGo, wipeD, boolsOf, intsOf, maxL, minL, noL, noLs, Option.map_some, Option.bind_some, List.all_cons, List.all_nil, List.any_cons, List.any_nil, id_eq, List.set_cons_zero, List.set_cons_succ, List.getElem?_cons_zero, List.getElem?_cons_succ, List.getElem?_nil, List.getD_cons_zero, List.getD_cons_succ, decide_eq_true_eq, decide_eq_false_iff_not, Bool.not_eq_true', Bool.not_true, Bool.not_false, Bool.and_true, Bool.true_and, Bool.and_false, Bool.false_and, Bool.false_eq_true, if_true, if_false, reduceIte, ite_true, ite_false, true_and, and_true, reduceCtorEq, Int.toNat_zero, Int.toNat_one, Int.cast_ofNat_Int, Int.reduceLT, Int.reduceLE, Int.reduceNeg, Int.reduceToNat, Int.reducePow, Int.reduceMul, Int.reduceAdd, Int.reduceSub, decide_true, decide_false, sp_check_sum, sp_check_near, sp_cosine_sum]
  exact ⟨x, m, rfl, h1, h2, x, rfl, hn, x, m, rfl, hx, h1, h2, h⟩
def sp_log_between : SpD :=
  fun ds R => ∃ (x : Rat) (m : Int), ds = [rd x, .int m] ∧ Sz 8 x ∧ (x.den : Int) ≤ 2 * x.num ∧ x.num ≤ 2 * (x.den : Int) ∧ 1 ≤ m ∧ m ≤ 12 ∧ R (.tup [rd (2 * lS ((x - 1) / (x + 1)) m.toNat - ra (lP ((x - 1) / (x + 1)) m.toNat) * (((9 : Int) : Rat) / ((4 * (2 * m + 1) : Int) : Rat))), rd (2 * lS ((x - 1) / (x + 1)) m.toNat + ra (lP ((x - 1) / (x + 1)) m.toNat) * (((9 : Int) : Rat) / ((4 * (2 * m + 1) : Int) : Rat)))])
set_option maxHeartbeats 0 in
theorem ok_log_between (T : Txt K mg) (D0 : Dfn K mg "log_between" "log_between" s_log_between ["ratio", "many"] []) (C_check_sum : Cal P w K mg base tabs "check_sum" 4 2 ["ratio", "many"] [] sp_check_sum) (C_log_sum : Cal P w K mg base tabs "log_sum" 5 2 ["ratio", "many"] [] sp_log_sum) : Cal P w K mg base tabs "log_between" 6 2 ["ratio", "many"] [] sp_log_between := by
  refine cal_of D0 sc_log_between fun f cdv A outer s H E p ht hg hk hr => ⟨_, (pdss_cons (pds_expr (pdcC (C_check_sum.cal ht) hg hr (pda_cons (pd_var 0) (pda_cons (pd_var 1) pda_nil))))
      (pdss_cons (pds_asg (pd_var 0) (pdg_tup (n := 2) rfl (pdgs_cons (pdg_name (i := 2) sc_log_between.nd rfl (Or.inl rfl)) (pdgs_cons (pdg_name (i := 3) sc_log_between.nd rfl (Or.inl rfl)) pdgs_nil))))
      (pdss_cons (pds_if (pdw_t (pdw_or (pdt_cmp opd_lt (pd_bin opd_mul pd_int (pd_var 2)) (pd_var 3)) (pdw_or1 (pdt_cmp opd_gt (pd_var 2) (pd_bin opd_mul pd_int (pd_var 3)))))) (pdss_one pds_never) pdss_nil)
      (pdss_one (pds_ret (pdcC (C_log_sum.cal ht) hg hr (pda_cons (pd_var 0) (pda_cons (pd_var 1) pda_nil)))))))), ?_⟩
  intro ds R hl h; unfold sp_log_between at h
  clear hl hg hr hk ht
  obtain ⟨x, m, rfl, hx, hn, hn2, h1, h2, h⟩ := h
  have dp := den_pos x
  simp (implicitDefEqProofs := false) (maxSteps := 3000000) only [startD, List.map_cons, List.map_nil, List.length_cons, List.length_nil, List.replicate, List.cons_append, List.nil_append, Nat.reduceAdd, Nat.reduceSub, Nat.zero_add, dSeq, dIfS, dOr, dAnd, dNot, dTst, dOp, dUn, dVar, dC, dB, dBK, dCons, dNil, dTup, dLst, dRet, dRetN, dNext, dNever, dAsg, dPar, dPar3, dIf, dAndV, dOrV, dNotV, dCh, dCt, cLast, cLink, tLast, tLink, dDrop, dFor, dBrk, dCnt, dOwn, dApp, dExt, dFree, gPutO, dIxO, dLend, dLendT, dLcF, gN, gTu, gCn, gNl, gP0, gP1, gII, gIIc, gAdd, gNeg, gIx, gEq, gNe, gIs, gIsNot, gIn, gNotIn, gSl, oNone, oSome, gMt, gIndex, cTuple, cList, cI1, cI2, cLen, cMax, cMin, cMaxT, cMinT, dAug, cAll, cAny, cRepr, cSqrt, cIsi, tyN, isNon, kb_tt, kb_ii, kb_ib, kb_bi, kb_bb, kb_it, kb_bt, kb_nt, kb_ni, kb_lt, kb_li, kb_ti, kb_si, kb_st, kb_ss, rd, dRgN, gEqF, dCallV, spOf, atD, ordD, dSq, dZip, zipD_map, ivD, dRg1, dRg2, dLc, dYes, dLcGo, dGen, dGenGo, wipeD, boolsOf, intsOf, maxL, minL, noL, noLs, Option.map_some, Option.bind_some, List.all_cons, List.all_nil, List.any_cons, List.any_nil, id_eq, List.set_cons_zero, List.set_cons_succ, List.getElem?_cons_zero, List.getElem?_cons_succ, List.getElem?_nil, List.getD_cons_zero, List.getD_cons_succ, decide_eq_true_eq, decide_eq_false_iff_not, Bool.not_eq_true', Bool.not_true, Bool.not_false, Bool.and_true, Bool.true_and, Bool.and_false, Bool.false_and, Bool.false_eq_true, if_true, if_false, reduceIte, ite_true, ite_false, true_and, and_true, reduceCtorEq, Int.toNat_zero, Int.toNat_one, Int.cast_ofNat_Int, Int.reduceLT, Int.reduceLE, Int.reduceNeg, Int.reduceToNat, Int.reducePow, Int.reduceMul, Int.reduceAdd, Int.reduceSub, decide_true, decide_false, sp_check_sum, sp_log_sum]
  refine ⟨x, m, rfl, h1, h2, .left (by omega) (by omega), ifN (by omega) ?_⟩
  first
    | exact ⟨.left (by omega) (by omega), ifN (by omega) ⟨x, m, rfl, hx, nn_num hn, h1, h2, h⟩⟩
    | exact ifN (by omega) ⟨x, m, rfl, hx, nn_num hn, h1, h2, h⟩
    | trace_state
def sp__law_less : SpD :=
  fun ds R => ∃ (p q : Int × Int) (a : Nat), ds = [ivD p, ivD q] ∧ a ≤ 20000 ∧ Pr a p ∧ Pr a q ∧ R (ivD (pSub p q))
set_option maxHeartbeats 0 in
theorem ok__law_less (T : Txt K mg) (D0 : Dfn K mg "_law_less" "_law_less" s__law_less ["_law_one", "_law_other"] [])  : Cal P w K mg base tabs "_law_less" 1 2 ["_law_one", "_law_other"] [] sp__law_less := by
  refine cal_of D0 sc__law_less fun f cdv A outer s H E p ht hg hk hr => ⟨_, (pdss_one (pds_ret (pd_tup (pda_cons (pd_bin opd_sub (pd_bin opd_mul (pd_ix (pd_var 0) pd_int) (pd_ix (pd_var 1) pd_int)) (pd_bin opd_mul (pd_ix (pd_var 1) pd_int) (pd_ix (pd_var 0) pd_int))) (pda_cons (pd_bin opd_mul (pd_ix (pd_var 0) pd_int) (pd_ix (pd_var 1) pd_int)) pda_nil))))), ?_⟩
  intro ds R hl h; unfold sp__law_less at h
  clear hl hg hr hk ht
  obtain ⟨p, q, a, rfl, ha, hp, hq, h⟩ := h
  simp (implicitDefEqProofs := false) (maxSteps := 3000000) only [startD, List.map_cons, List.map_nil, List.length_cons, List.length_nil, List.replicate, List.cons_append, List.nil_append, Nat.reduceAdd, Nat.reduceSub, Nat.zero_add, dSeq, dIfS, dOr, dAnd, dNot, dTst, dOp, dUn, dVar, dC, dB, dBK, dCons, dNil, dTup, dLst, dRet, dRetN, dNext, dNever, dAsg, dPar, dPar3, dIf, dAndV, dOrV, dNotV, dCh, dCt, cLast, cLink, tLast, tLink, dDrop, dFor, dBrk, dCnt, dOwn, dApp, dExt, dFree, gPutO, dIxO, dLend, dLendT, dLcF, gN, gTu, gCn, gNl, gP0, gP1, gII, gIIc, gAdd, gNeg, gIx, gEq, gNe, gIs, gIsNot, gIn, gNotIn, gSl, oNone, oSome, gMt, gIndex, cTuple, cList, cI1, cI2, cLen, cMax, cMin, cMaxT, cMinT, dAug, cAll, cAny, cRepr, cSqrt, cIsi, tyN, isNon, kb_tt, kb_ii, kb_ib, kb_bi, kb_bb, kb_it, kb_bt, kb_nt, kb_ni, kb_lt, kb_li, kb_ti, kb_si, kb_st, kb_ss, rd, dRgN, gEqF, dCallV, spOf, atD, ordD, dSq, dZip, zipD_map, ivD, dRg1, dRg2, dLc, dYes, dLcGo, dGen, dGenGo, wipeD, boolsOf, intsOf, maxL, minL, noL, noLs, Option.map_some, Option.bind_some, List.all_cons, List.all_nil, List.any_cons, List.any_nil, id_eq, List.set_cons_zero, List.set_cons_succ, List.getElem?_cons_zero, List.getElem?_cons_succ, List.getElem?_nil, List.getD_cons_zero, List.getD_cons_succ, decide_eq_true_eq, decide_eq_false_iff_not, Bool.not_eq_true', Bool.not_true, Bool.not_false, Bool.and_true, Bool.true_and, Bool.and_false, Bool.false_and, Bool.false_eq_true, if_true, if_false, reduceIte, ite_true, ite_false, true_and, and_true, reduceCtorEq, Int.toNat_zero, Int.toNat_one, Int.cast_ofNat_Int, Int.reduceLT, Int.reduceLE, Int.reduceNeg, Int.reduceToNat, Int.reducePow, Int.reduceMul, Int.reduceAdd, Int.reduceSub, decide_true, decide_false]
  exact ⟨.big hp.n hq.d (by omega), .big hq.n hp.d (by omega), .big hp.d hq.d (by omega), h⟩
def sp__law_more : SpD :=
  fun ds R => ∃ (p q : Int × Int) (a : Nat), ds = [ivD p, ivD q] ∧ a ≤ 20000 ∧ Pr a p ∧ Pr a q ∧ R (ivD (pAdd p q))
set_option maxHeartbeats 0 in
theorem ok__law_more (T : Txt K mg) (D0 : Dfn K mg "_law_more" "_law_more" s__law_more ["_law_one", "_law_other"] [])  : Cal P w K mg base tabs "_law_more" 1 2 ["_law_one", "_law_other"] [] sp__law_more := by
  refine cal_of D0 sc__law_more fun f cdv A outer s H E p ht hg hk hr => ⟨_, (pdss_one (pds_ret (pd_tup (pda_cons (pd_bin opd_add (pd_bin opd_mul (pd_ix (pd_var 0) pd_int) (pd_ix (pd_var 1) pd_int)) (pd_bin opd_mul (pd_ix (pd_var 1) pd_int) (pd_ix (pd_var 0) pd_int))) (pda_cons (pd_bin opd_mul (pd_ix (pd_var 0) pd_int) (pd_ix (pd_var 1) pd_int)) pda_nil))))), ?_⟩
  intro ds R hl h; unfold sp__law_more at h
  clear hl hg hr hk ht
  obtain ⟨p, q, a, rfl, ha, hp, hq, h⟩ := h
  simp (implicitDefEqProofs := false) (maxSteps := 3000000) only [startD, List.map_cons, List.map_nil, List.length_cons, List.length_nil, List.replicate, List.cons_append, List.nil_append, Nat.reduceAdd, Nat.reduceSub, Nat.zero_add, dSeq, dIfS, dOr, dAnd, dNot, dTst, dOp, dUn, dVar, dC, dB, dBK, dCons, dNil, dTup, dLst, dRet, dRetN, dNext, dNever, dAsg, dPar, dPar3, dIf, dAndV, dOrV, dNotV, dCh, dCt, cLast, cLink, tLast, tLink, dDrop, dFor, dBrk, dCnt, dOwn, dApp, dExt, dFree, gPutO, dIxO, dLend, dLendT, dLcF, gN, gTu, gCn, gNl, gP0, gP1, gII, gIIc, gAdd, gNeg, gIx, gEq, gNe, gIs, gIsNot, gIn, gNotIn, gSl, oNone, oSome, gMt, gIndex, cTuple, cList, cI1, cI2, cLen, cMax, cMin, cMaxT, cMinT, dAug, cAll, cAny, cRepr, cSqrt, cIsi, tyN, isNon, kb_tt, kb_ii, kb_ib, kb_bi, kb_bb, kb_it, kb_bt, kb_nt, kb_ni, kb_lt, kb_li, kb_ti, kb_si, kb_st, kb_ss, rd, dRgN, gEqF, dCallV, spOf, atD, ordD, dSq, dZip, zipD_map, ivD, dRg1, dRg2, dLc, dYes, dLcGo, dGen, dGenGo, wipeD, boolsOf, intsOf, maxL, minL, noL, noLs, Option.map_some, Option.bind_some, List.all_cons, List.all_nil, List.any_cons, List.any_nil, id_eq, List.set_cons_zero, List.set_cons_succ, List.getElem?_cons_zero, List.getElem?_cons_succ, List.getElem?_nil, List.getD_cons_zero, List.getD_cons_succ, decide_eq_true_eq, decide_eq_false_iff_not, Bool.not_eq_true', Bool.not_true, Bool.not_false, Bool.and_true, Bool.true_and, Bool.and_false, Bool.false_and, Bool.false_eq_true, if_true, if_false, reduceIte, ite_true, ite_false, true_and, and_true, reduceCtorEq, Int.toNat_zero, Int.toNat_one, Int.cast_ofNat_Int, Int.reduceLT, Int.reduceLE, Int.reduceNeg, Int.reduceToNat, Int.reducePow, Int.reduceMul, Int.reduceAdd, Int.reduceSub, decide_true, decide_false]
  exact ⟨.big hp.n hq.d (by omega), .big hq.n hp.d (by omega), .big hp.d hq.d (by omega), h⟩
def sp__law_power : SpD :=
  fun ds R => ∃ (b : Int) (e : Nat), ds = [.int b, .int (e : Int)] ∧ Big 8 b ∧ e ≤ 30 ∧ R (.int (b ^ e))
set_option maxHeartbeats 0 in
theorem ok__law_power (T : Txt K mg) (D0 : Dfn K mg "_law_power" "_law_power" s__law_power ["_law_number", "_law_often"] [])  : Cal P w K mg base tabs "_law_power" 1 2 ["_law_number", "_law_often"] [] sp__law_power := by
  refine cal_of D0 sc__law_power fun f cdv A outer s H E p ht hg hk hr => ⟨_, (pdss_cons (pds_set (i := 2) sc__law_power.nd rfl (Or.inl rfl) pd_int)
      (pdss_cons (pds_for rfl PassesOwn.never (pdi_rg1 T.b_range (pda_cons (pd_var 1) pda_nil)) (pdg_name (i := 3) sc__law_power.nd rfl (Or.inl rfl)) (pdss_one (pds_set (i := 2) sc__law_power.nd rfl (Or.inl rfl) (pd_bin opd_mul (pd_var 2) (pd_var 0)))))
      (pdss_one (pds_ret (pd_var 2))))), ?_⟩
  intro ds R hl h; unfold sp__law_power at h
  clear hl hg hr hk ht
  obtain ⟨b, e, rfl, hb, he, h⟩ := h
  simp (implicitDefEqProofs := false) (maxSteps := 3000000) only [startD, List.map_cons, List.map_nil, List.length_cons, List.length_nil, List.replicate, List.cons_append, List.nil_append, Nat.reduceAdd, Nat.reduceSub, Nat.zero_add, dSeq, dIfS, dOr, dAnd, dNot, dTst, dOp, dUn, dVar, dC, dB, dBK, dCons, dNil, dTup, dLst, dRet, dRetN, dNext, dNever, dAsg, dPar, dPar3, dIf, dAndV, dOrV, dNotV, dCh, dCt, cLast, cLink, tLast, tLink, dDrop, dFor, dBrk, dCnt, dOwn, dApp, dExt, dFree, gPutO, dIxO, dLend, dLendT, dLcF, gN, gTu, gCn, gNl, gP0, gP1, gII, gIIc, gAdd, gNeg, gIx, gEq, gNe, gIs, gIsNot, gIn, gNotIn, gSl, oNone, oSome, gMt, gIndex, cTuple, cList, cI1, cI2, cLen, cMax, cMin, cMaxT, cMinT, dAug, cAll, cAny, cRepr, cSqrt, cIsi, tyN, isNon, kb_tt, kb_ii, kb_ib, kb_bi, kb_bb, kb_it, kb_bt, kb_nt, kb_ni, kb_lt, kb_li, kb_ti, kb_si, kb_st, kb_ss, rd, dRgN, gEqF, dCallV, spOf, atD, ordD, dSq, dZip, zipD_map, ivD, dRg1, dRg2, dLc, dYes, dLcGo, dGen, dGenGo, wipeD, boolsOf, intsOf, maxL, minL, noL, noLs, Option.map_some, Option.bind_some, List.all_cons, List.all_nil, List.any_cons, List.any_nil, id_eq, List.set_cons_zero, List.set_cons_succ, List.getElem?_cons_zero, List.getElem?_cons_succ, List.getElem?_nil, List.getD_cons_zero, List.getD_cons_succ, decide_eq_true_eq, decide_eq_false_iff_not, Bool.not_eq_true', Bool.not_true, Bool.not_false, Bool.and_true, Bool.true_and, Bool.and_false, Bool.false_and, Bool.false_eq_true, if_true, if_false, reduceIte, ite_true, ite_false, true_and, and_true, reduceCtorEq, Int.toNat_zero, Int.toNat_one, Int.cast_ofNat_Int, Int.reduceLT, Int.reduceLE, Int.reduceNeg, Int.reduceToNat, Int.reducePow, Int.reduceMul, Int.reduceAdd, Int.reduceSub, decide_true, decide_false]
  refine ⟨⟨by omega, by omega⟩, ?_⟩
  refine forInv (fun i τ => ∃ o, τ = [some (.int b), some (.int (e : Int)), some (.int (b ^ i)), o]) _ _ ⟨none, by rw [Int.pow_zero]⟩ ?_ ?_
  · rintro k i x τ hx hk ⟨o, rfl⟩
    obtain ⟨hl, rfl⟩ := rng_at hx
    have hl' : i < e := by simpa using hl
    simp (implicitDefEqProofs := false) (maxSteps := 3000000) only [startD, List.map_cons, List.map_nil, List.length_cons, List.length_nil, List.replicate, List.cons_append, List.nil_append, Nat.reduceAdd, Nat.reduceSub, Nat.zero_add, dSeq, dIfS, dOr, dAnd, dNot, dTst, dOp, dUn, dVar, dC, dB, dBK, dCons, dNil, dTup, dLst, dRet, dRetN, dNext, dNever, dAsg, dPar, dPar3, dIf, dAndV, dOrV, dNotV, dCh, dCt, cLast, cLink, tLast, tLink, dDrop, dFor, dBrk, dCnt, dOwn, dApp, dExt, dFree, gPutO, dIxO, dLend, dLendT, dLcF, gN, gTu, gCn, gNl, gP0, gP1, gII, gIIc, gAdd, gNeg, gIx, gEq, gNe, gIs, gIsNot, gIn, gNotIn, gSl, oNone, oSome, gMt, gIndex, cTuple, cList, cI1, cI2, cLen, cMax, cMin, cMaxT, cMinT, dAug, cAll, cAny, cRepr, cSqrt, cIsi, tyN, isNon, kb_tt, kb_ii, kb_ib, kb_bi, kb_bb, kb_it, kb_bt, kb_nt, kb_ni, kb_lt, kb_li, kb_ti, kb_si, kb_st, kb_ss, rd, dRgN, gEqF, dCallV, spOf, atD, ordD, dSq, dZip, zipD_map, ivD, dRg1, dRg2, dLc, dYes, dLcGo, dGen, dGenGo, wipeD, boolsOf, intsOf, maxL, minL, noL, noLs, Option.map_some, Option.bind_some, List.all_cons, List.all_nil, List.any_cons, List.any_nil, id_eq, List.set_cons_zero, List.set_cons_succ, List.getElem?_cons_zero, List.getElem?_cons_succ, List.getElem?_nil, List.getD_cons_zero, List.getD_cons_succ, decide_eq_true_eq, decide_eq_false_iff_not, Bool.not_eq_true', Bool.not_true, Bool.not_false, Bool.and_true, Bool.true_and, Bool.and_false, Bool.false_and, Bool.false_eq_true, if_true, if_false, reduceIte, ite_true, ite_false, true_and, and_true, reduceCtorEq, Int.toNat_zero, Int.toNat_one, Int.cast_ofNat_Int, Int.reduceLT, Int.reduceLE, Int.reduceNeg, Int.reduceToNat, Int.reducePow, Int.reduceMul, Int.reduceAdd, Int.reduceSub, decide_true, decide_false]
    exact ⟨.big (hb.pow i) hb (by omega), hk _ ⟨_, by rw [Int.pow_succ]⟩⟩
  · rintro τ ⟨o, rfl⟩
    rw [rng_len]
    simp (implicitDefEqProofs := false) (maxSteps := 3000000) only [startD, List.map_cons, List.map_nil, List.length_cons, List.length_nil, List.replicate, List.cons_append, List.nil_append, Nat.reduceAdd, Nat.reduceSub, Nat.zero_add, dSeq, dIfS, dOr, dAnd, dNot, dTst, dOp, dUn, dVar, dC, dB, dBK, dCons, dNil, dTup, dLst, dRet, dRetN, dNext, dNever, dAsg, dPar, dPar3, dIf, dAndV, dOrV, dNotV, dCh, dCt, cLast, cLink, tLast, tLink, dDrop, dFor, dBrk, dCnt, dOwn, dApp, dExt, dFree, gPutO, dIxO, dLend, dLendT, dLcF, gN, gTu, gCn, gNl, gP0, gP1, gII, gIIc, gAdd, gNeg, gIx, gEq, gNe, gIs, gIsNot, gIn, gNotIn, gSl, oNone, oSome, gMt, gIndex, cTuple, cList, cI1, cI2, cLen, cMax, cMin, cMaxT, cMinT, dAug, cAll, cAny, cRepr, cSqrt, cIsi, tyN, isNon, kb_tt, kb_ii, kb_ib, kb_bi, kb_bb, kb_it, kb_bt, kb_nt, kb_ni, kb_lt, kb_li, kb_ti, kb_si, kb_st, kb_ss, rd, dRgN, gEqF, dCallV, spOf, atD, ordD, dSq, dZip, zipD_map, ivD, dRg1, dRg2, dLc, dYes, dLcGo, dGen, dGenGo, wipeD, boolsOf, intsOf, maxL, minL, noL, noLs, Option.map_some, Option.bind_some, List.all_cons, List.all_nil, List.any_cons, List.any_nil, id_eq, List.set_cons_zero, List.set_cons_succ, List.getElem?_cons_zero, List.getElem?_cons_succ, List.getElem?_nil, List.getD_cons_zero, List.getD_cons_succ, decide_eq_true_eq, decide_eq_false_iff_not, Bool.not_eq_true', Bool.not_true, Bool.not_false, Bool.and_true, Bool.true_and, Bool.and_false, Bool.false_and, Bool.false_eq_true, if_true, if_false, reduceIte, ite_true, ite_false, true_and, and_true, reduceCtorEq, Int.toNat_zero, Int.toNat_one, Int.cast_ofNat_Int, Int.reduceLT, Int.reduceLE, Int.reduceNeg, Int.reduceToNat, Int.reducePow, Int.reduceMul, Int.reduceAdd, Int.reduceSub, decide_true, decide_false]
    simpa using h
def sp__law_factorial : SpD :=
  fun ds R => ∃ (m : Nat), ds = [.int (m : Int)] ∧ m ≤ 25 ∧ R (.int (fac m))
set_option maxHeartbeats 0 in
theorem ok__law_factorial (T : Txt K mg) (D0 : Dfn K mg "_law_factorial" "_law_factorial" s__law_factorial ["_law_many"] [])  : Cal P w K mg base tabs "_law_factorial" 1 1 ["_law_many"] [] sp__law_factorial := by
  refine cal_of D0 sc__law_factorial fun f cdv A outer s H E p ht hg hk hr => ⟨_, (pdss_cons (pds_set (i := 1) sc__law_factorial.nd rfl (Or.inl rfl) pd_int)
      (pdss_cons (pds_for rfl PassesOwn.never (pdi_rg2 T.b_range (pda_cons pd_int (pda_cons (pd_bin opd_add (pd_var 0) pd_int) pda_nil))) (pdg_name (i := 2) sc__law_factorial.nd rfl (Or.inl rfl)) (pdss_one (pds_set (i := 1) sc__law_factorial.nd rfl (Or.inl rfl) (pd_bin opd_mul (pd_var 1) (pd_var 2)))))
      (pdss_one (pds_ret (pd_var 1))))), ?_⟩
  intro ds R hl h; unfold sp__law_factorial at h
  clear hl hg hr hk ht
  obtain ⟨m, rfl, hm, h⟩ := h
  simp (implicitDefEqProofs := false) (maxSteps := 3000000) only [startD, List.map_cons, List.map_nil, List.length_cons, List.length_nil, List.replicate, List.cons_append, List.nil_append, Nat.reduceAdd, Nat.reduceSub, Nat.zero_add, dSeq, dIfS, dOr, dAnd, dNot, dTst, dOp, dUn, dVar, dC, dB, dBK, dCons, dNil, dTup, dLst, dRet, dRetN, dNext, dNever, dAsg, dPar, dPar3, dIf, dAndV, dOrV, dNotV, dCh, dCt, cLast, cLink, tLast, tLink, dDrop, dFor, dBrk, dCnt, dOwn, dApp, dExt, dFree, gPutO, dIxO, dLend, dLendT, dLcF, gN, gTu, gCn, gNl, gP0, gP1, gII, gIIc, gAdd, gNeg, gIx, gEq, gNe, gIs, gIsNot, gIn, gNotIn, gSl, oNone, oSome, gMt, gIndex, cTuple, cList, cI1, cI2, cLen, cMax, cMin, cMaxT, cMinT, dAug, cAll, cAny, cRepr, cSqrt, cIsi, tyN, isNon, kb_tt, kb_ii, kb_ib, kb_bi, kb_bb, kb_it, kb_bt, kb_nt, kb_ni, kb_lt, kb_li, kb_ti, kb_si, kb_st, kb_ss, rd, dRgN, gEqF, dCallV, spOf, atD, ordD, dSq, dZip, zipD_map, ivD, dRg1, dRg2, dLc, dYes, dLcGo, dGen, dGenGo, wipeD, boolsOf, intsOf, maxL, minL, noL, noLs, Option.map_some, Option.bind_some, List.all_cons, List.all_nil, List.any_cons, List.any_nil, id_eq, List.set_cons_zero, List.set_cons_succ, List.getElem?_cons_zero, List.getElem?_cons_succ, List.getElem?_nil, List.getD_cons_zero, List.getD_cons_succ, decide_eq_true_eq, decide_eq_false_iff_not, Bool.not_eq_true', Bool.not_true, Bool.not_false, Bool.and_true, Bool.true_and, Bool.and_false, Bool.false_and, Bool.false_eq_true, if_true, if_false, reduceIte, ite_true, ite_false, true_and, and_true, reduceCtorEq, Int.toNat_zero, Int.toNat_one, Int.cast_ofNat_Int, Int.reduceLT, Int.reduceLE, Int.reduceNeg, Int.reduceToNat, Int.reducePow, Int.reduceMul, Int.reduceAdd, Int.reduceSub, decide_true, decide_false]
  refine ⟨⟨by omega, by omega⟩, ?_⟩
  refine forInv (fun i τ => ∃ o, τ = [some (.int (m : Int)), some (.int (fac (i + 1))), o]) _ _ ⟨none, rfl⟩ ?_ ?_
  · rintro k i x τ hx hk ⟨o, rfl⟩
    obtain ⟨hl, rfl⟩ := rng_at hx
    have e : (2 : Int) + (i : Int) = ((i + 1 : Nat) : Int) + 1 := by omega
    simp (implicitDefEqProofs := false) (maxSteps := 3000000) only [startD, List.map_cons, List.map_nil, List.length_cons, List.length_nil, List.replicate, List.cons_append, List.nil_append, Nat.reduceAdd, Nat.reduceSub, Nat.zero_add, dSeq, dIfS, dOr, dAnd, dNot, dTst, dOp, dUn, dVar, dC, dB, dBK, dCons, dNil, dTup, dLst, dRet, dRetN, dNext, dNever, dAsg, dPar, dPar3, dIf, dAndV, dOrV, dNotV, dCh, dCt, cLast, cLink, tLast, tLink, dDrop, dFor, dBrk, dCnt, dOwn, dApp, dExt, dFree, gPutO, dIxO, dLend, dLendT, dLcF, gN, gTu, gCn, gNl, gP0, gP1, gII, gIIc, gAdd, gNeg, gIx, gEq, gNe, gIs, gIsNot, gIn, gNotIn, gSl, oNone, oSome, gMt, gIndex, cTuple, cList, cI1, cI2, cLen, cMax, cMin, cMaxT, cMinT, dAug, cAll, cAny, cRepr, cSqrt, cIsi, tyN, isNon, kb_tt, kb_ii, kb_ib, kb_bi, kb_bb, kb_it, kb_bt, kb_nt, kb_ni, kb_lt, kb_li, kb_ti, kb_si, kb_st, kb_ss, rd, dRgN, gEqF, dCallV, spOf, atD, ordD, dSq, dZip, zipD_map, ivD, dRg1, dRg2, dLc, dYes, dLcGo, dGen, dGenGo, wipeD, boolsOf, intsOf, maxL, minL, noL, noLs, Option.map_some, Option.bind_some, List.all_cons, List.all_nil, List.any_cons, List.any_nil, id_eq, List.set_cons_zero, List.set_cons_succ, List.getElem?_cons_zero, List.getElem?_cons_succ, List.getElem?_nil, List.getD_cons_zero, List.getD_cons_succ, decide_eq_true_eq, decide_eq_false_iff_not, Bool.not_eq_true', Bool.not_true, Bool.not_false, Bool.and_true, Bool.true_and, Bool.and_false, Bool.false_and, Bool.false_eq_true, if_true, if_false, reduceIte, ite_true, ite_false, true_and, and_true, reduceCtorEq, Int.toNat_zero, Int.toNat_one, Int.cast_ofNat_Int, Int.reduceLT, Int.reduceLE, Int.reduceNeg, Int.reduceToNat, Int.reducePow, Int.reduceMul, Int.reduceAdd, Int.reduceSub, decide_true, decide_false]
    rw [e]
    exact ⟨.right (by omega) (by omega), hk _ ⟨_, rfl⟩⟩
  · rintro τ ⟨o, rfl⟩
    rw [rng_len]
    simp (implicitDefEqProofs := false) (maxSteps := 3000000) only [startD, List.map_cons, List.map_nil, List.length_cons, List.length_nil, List.replicate, List.cons_append, List.nil_append, Nat.reduceAdd, Nat.reduceSub, Nat.zero_add, dSeq, dIfS, dOr, dAnd, dNot, dTst, dOp, dUn, dVar, dC, dB, dBK, dCons, dNil, dTup, dLst, dRet, dRetN, dNext, dNever, dAsg, dPar, dPar3, dIf, dAndV, dOrV, dNotV, dCh, dCt, cLast, cLink, tLast, tLink, dDrop, dFor, dBrk, dCnt, dOwn, dApp, dExt, dFree, gPutO, dIxO, dLend, dLendT, dLcF, gN, gTu, gCn, gNl, gP0, gP1, gII, gIIc, gAdd, gNeg, gIx, gEq, gNe, gIs, gIsNot, gIn, gNotIn, gSl, oNone, oSome, gMt, gIndex, cTuple, cList, cI1, cI2, cLen, cMax, cMin, cMaxT, cMinT, dAug, cAll, cAny, cRepr, cSqrt, cIsi, tyN, isNon, kb_tt, kb_ii, kb_ib, kb_bi, kb_bb, kb_it, kb_bt, kb_nt, kb_ni, kb_lt, kb_li, kb_ti, kb_si, kb_st, kb_ss, rd, dRgN, gEqF, dCallV, spOf, atD, ordD, dSq, dZip, zipD_map, ivD, dRg1, dRg2, dLc, dYes, dLcGo, dGen, dGenGo, wipeD, boolsOf, intsOf, maxL, minL, noL, noLs, Option.map_some, Option.bind_some, List.all_cons, List.all_nil, List.any_cons, List.any_nil, id_eq, List.set_cons_zero, List.set_cons_succ, List.getElem?_cons_zero, List.getElem?_cons_succ, List.getElem?_nil, List.getD_cons_zero, List.getD_cons_succ, decide_eq_true_eq, decide_eq_false_iff_not, Bool.not_eq_true', Bool.not_true, Bool.not_false, Bool.and_true, Bool.true_and, Bool.and_false, Bool.false_and, Bool.false_eq_true, if_true, if_false, reduceIte, ite_true, ite_false, true_and, and_true, reduceCtorEq, Int.toNat_zero, Int.toNat_one, Int.cast_ofNat_Int, Int.reduceLT, Int.reduceLE, Int.reduceNeg, Int.reduceToNat, Int.reducePow, Int.reduceMul, Int.reduceAdd, Int.reduceSub, decide_true, decide_false]
    cases m with
    | zero => exact h
    | succ m =>
      have e : ((((m + 1 : Nat) : Int) + 1 - 2).toNat + 1) = m + 1 := by omega
      rw [e]
      exact h
def sp__law_is_same : SpD :=
  fun ds R => ∃ (p : Int × Int) (z : Rat) (a : Nat), ds = [ivD p, rd z] ∧ a ≤ 20000 ∧ Pr a p ∧ Sz a z ∧ vl p = z ∧ R (.bl true)
set_option maxHeartbeats 0 in
theorem ok__law_is_same (T : Txt K mg) (D0 : Dfn K mg "_law_is_same" "_law_is_same" s__law_is_same ["_law_one", "_law_told"] [])  : Cal P w K mg base tabs "_law_is_same" 1 2 ["_law_one", "_law_told"] [] sp__law_is_same := by
  refine cal_of D0 sc__law_is_same fun f cdv A outer s H E p ht hg hk hr => ⟨_, (pdss_cons (pds_if (pdw_t (pdw_or (pdt_not (pdt_val (pd_callB cd_isi rfl T.b_isinstance PyProof.Rows.boot_isinstance (pda_cons (pd_var 1) (pda_cons (pd_ty rfl T.b_tuple PyProof.Rows.boot_tuple) pda_nil))))) (pdw_or1 (pdt_cmp (opd_ne hr.units) (pd_callB cd_len rfl T.b_len PySem.boot_len (pda_cons (pd_var 1) pda_nil)) pd_int)))) (pdss_one (pds_ret pd_bl)) pdss_nil)
      (pdss_cons (pds_if (pdt_not (pdt_val (pd_callB (cd_all rfl) rfl T.b_all PyProof.Rows.boot_all (pda_cons (pd_lc (own := [("_law_late", 4)]) (t := (L2.gName 4)) rfl sc__law_is_same.nd (pdi_sq (pd_var 1)) (show blkC ["_law_one", "_law_told", "_law_near", "_law_far", "_law_late"] (defScope s__law_is_same) _ _ = true by decide +kernel) (fun _ _ _ _ _ => (pgw_name (i := 4) (vs := [4]) sc__law_is_same.nd rfl (Or.inl rfl))) (fun _ _ _ _ _ => (pd_and (pd_callB cd_isi rfl T.b_isinstance PyProof.Rows.boot_isinstance (pda_cons (pd_var 4) (pda_cons (pd_ty rfl T.b_int PyProof.Rows.boot_int) pda_nil))) (pd_one (pd_not (pd_callB cd_isi rfl T.b_isinstance PyProof.Rows.boot_isinstance (pda_cons (pd_var 4) (pda_cons (pd_ty rfl T.b_bool PyProof.Rows.boot_bool) pda_nil))))))) (sh := s)) pda_nil)))) (pdss_one (pds_ret pd_bl)) pdss_nil)
      (pdss_cons (pds_asg (pd_var 1) (pdg_tup (n := 2) rfl (pdgs_cons (pdg_name (i := 2) sc__law_is_same.nd rfl (Or.inl rfl)) (pdgs_cons (pdg_name (i := 3) sc__law_is_same.nd rfl (Or.inl rfl)) pdgs_nil))))
      (pdss_cons (pds_while PassesOwn.never (pdt_cmp (opd_ne hr.units) (pd_var 3) pd_int) (pdss_one (pds_par (i := 2) (j := 3) rfl sc__law_is_same.nd rfl rfl (by decide) rfl rfl (pda_cons (pd_var 3) (pda_cons (pd_bin opd_mod (pd_var 2) (pd_var 3)) pda_nil)) (by rfl))))
      (pdss_one (pds_ret (pd_and (pd_cmp (opd_eq hr.units) (pd_bin opd_mul (pd_ix (pd_var 0) pd_int) (pd_ix (pd_var 1) pd_int)) (pd_bin opd_mul (pd_ix (pd_var 1) pd_int) (pd_ix (pd_var 0) pd_int))) (pd_and (pd_cmp opd_gt (pd_ix (pd_var 1) pd_int) pd_int) (pd_one (pd_cmp (opd_eq hr.units) (pd_callB cd_abs rfl T.b_abs PyProof.Rows.boot_abs (pda_cons (pd_var 2) pda_nil)) pd_int)))))))))), ?_⟩
  intro ds R hl h; unfold sp__law_is_same at h
  clear hl hg hr hk ht
  obtain ⟨p, z, a, rfl, ha, hp, hz, e, h⟩ := h
  have hd := den_pos z
  have e2 : p.1 * (z.den : Int) = z.num * p.2 := (vl_eq (p := p) (q := (z.num, (z.den : Int))) hp.pos hd).mp (by rw [e, vl_rd])
  have m1 : MulC p.1 (z.den : Int) := .big hp.n hz.d (by omega)
  have m2 : MulC z.num p.2 := .big hz.n hp.d (by omega)
  have red : Nat.gcd z.num.natAbs (z.den : Int).natAbs = 1 := by rw [Int.natAbs_natCast]; exact z.reduced
  simp (implicitDefEqProofs := false) (maxSteps := 3000000) only [startD, List.map_cons, List.map_nil, List.length_cons, List.length_nil, List.replicate, List.cons_append, List.nil_append, Nat.reduceAdd, Nat.reduceSub, Nat.zero_add, dSeq, dIfS, dOr, dAnd, dNot, dTst, dOp, dUn, dVar, dC, dB, dBK, dCons, dNil, dTup, dLst, dRet, dRetN, dNext, dNever, dAsg, dPar, dPar3, dIf, dAndV, dOrV, dNotV, dCh, dCt, cLast, cLink, tLast, tLink, dDrop, dFor, dBrk, dCnt, dOwn, dApp, dExt, dFree, gPutO, dIxO, dLend, dLendT, dLcF, gN, gTu, gCn, gNl, gP0, gP1, gII, gIIc, gAdd, gNeg, gIx, gEq, gNe, gIs, gIsNot, gIn, gNotIn, gSl, oNone, oSome, gMt, gIndex, cTuple, cList, cI1, cI2, cLen, cMax, cMin, cMaxT, cMinT, dAug, cAll, cAny, cRepr, cSqrt, cIsi, tyN, isNon, kb_tt, kb_ii, kb_ib, kb_bi, kb_bb, kb_it, kb_bt, kb_nt, kb_ni, kb_lt, kb_li, kb_ti, kb_si, kb_st, kb_ss, rd, dRgN, gEqF, dCallV, spOf, atD, ordD, dSq, dZip, zipD_map, ivD, dRg1, dRg2, dLc, dYes, dLcGo, dGen, dGenGo, wipeD, boolsOf, intsOf, maxL, minL, noL, noLs, Option.map_some, Option.bind_some, List.all_cons, List.all_nil, List.any_cons, List.any_nil, id_eq, List.set_cons_zero, List.set_cons_succ, List.getElem?_cons_zero, List.getElem?_cons_succ, List.getElem?_nil, List.getD_cons_zero, List.getD_cons_succ, decide_eq_true_eq, decide_eq_false_iff_not, Bool.not_eq_true', Bool.not_true, Bool.not_false, Bool.and_true, Bool.true_and, Bool.and_false, Bool.false_and, Bool.false_eq_true, if_true, if_false, reduceIte, ite_true, ite_false, true_and, and_true, reduceCtorEq, Int.toNat_zero, Int.toNat_one, Int.cast_ofNat_Int, Int.reduceLT, Int.reduceLE, Int.reduceNeg, Int.reduceToNat, Int.reducePow, Int.reduceMul, Int.reduceAdd, Int.reduceSub, decide_true, decide_false]
  refine ⟨.of 2 rfl (by decide), ?_⟩
  refine whileI (fun m τ => ∃ (o : Option D) (u v : Int), τ = [some (.tup [.int p.1, .int p.2]), some (.tup [.int z.num, .int (z.den : Int)]), some (.int u), some (.int v), o] ∧ 0 ≤ v ∧ v.toNat = m ∧ Nat.gcd u.natAbs v.natAbs = 1) _ _ ⟨_, _, _, rfl, by omega, rfl, red⟩ ?_
  rintro m τ k hk ⟨o, u, v, rfl, hv, hm, hg⟩
  simp (implicitDefEqProofs := false) (maxSteps := 3000000) only [startD, List.map_cons, List.map_nil, List.length_cons, List.length_nil, List.replicate, List.cons_append, List.nil_append, Nat.reduceAdd, Nat.reduceSub, Nat.zero_add, dSeq, dIfS, dOr, dAnd, dNot, dTst, dOp, dUn, dVar, dC, dB, dBK, dCons, dNil, dTup, dLst, dRet, dRetN, dNext, dNever, dAsg, dPar, dPar3, dIf, dAndV, dOrV, dNotV, dCh, dCt, cLast, cLink, tLast, tLink, dDrop, dFor, dBrk, dCnt, dOwn, dApp, dExt, dFree, gPutO, dIxO, dLend, dLendT, dLcF, gN, gTu, gCn, gNl, gP0, gP1, gII, gIIc, gAdd, gNeg, gIx, gEq, gNe, gIs, gIsNot, gIn, gNotIn, gSl, oNone, oSome, gMt, gIndex, cTuple, cList, cI1, cI2, cLen, cMax, cMin, cMaxT, cMinT, dAug, cAll, cAny, cRepr, cSqrt, cIsi, tyN, isNon, kb_tt, kb_ii, kb_ib, kb_bi, kb_bb, kb_it, kb_bt, kb_nt, kb_ni, kb_lt, kb_li, kb_ti, kb_si, kb_st, kb_ss, rd, dRgN, gEqF, dCallV, spOf, atD, ordD, dSq, dZip, zipD_map, ivD, dRg1, dRg2, dLc, dYes, dLcGo, dGen, dGenGo, wipeD, boolsOf, intsOf, maxL, minL, noL, noLs, Option.map_some, Option.bind_some, List.all_cons, List.all_nil, List.any_cons, List.any_nil, id_eq, List.set_cons_zero, List.set_cons_succ, List.getElem?_cons_zero, List.getElem?_cons_succ, List.getElem?_nil, List.getD_cons_zero, List.getD_cons_succ, decide_eq_true_eq, decide_eq_false_iff_not, Bool.not_eq_true', Bool.not_true, Bool.not_false, Bool.and_true, Bool.true_and, Bool.and_false, Bool.false_and, Bool.false_eq_true, if_true, if_false, reduceIte, ite_true, ite_false, true_and, and_true, reduceCtorEq, Int.toNat_zero, Int.toNat_one, Int.cast_ofNat_Int, Int.reduceLT, Int.reduceLE, Int.reduceNeg, Int.reduceToNat, Int.reducePow, Int.reduceMul, Int.reduceAdd, Int.reduceSub, decide_true, decide_false]
  refine ite2P (fun c => ?_) (fun c => ?_)
  · have v0 : v ≠ 0 := by simpa using c
    have r0 := Int.emod_nonneg u v0
    have r1 := Int.emod_lt_of_pos u (show 0 < v by omega)
    refine ⟨by omega, hk _ (u % v).toNat (by omega) ⟨_, _, _, rfl, r0, rfl, ?_⟩⟩
    have e3 : Nat.gcd v.natAbs (u % v).natAbs = Int.gcd v (u % v) := rfl
    have e4 : Nat.gcd u.natAbs v.natAbs = Int.gcd u v := rfl
    have e5 : Int.gcd v (u % v) = Int.gcd u v := by
      rw [Int.gcd_comm u v, Int.emod_def]
      exact Int.gcd_sub_mul_left_right v u (u / v)
    rw [e3, e5, ← e4]
    exact hg
  · have v0 : v = 0 := by simpa using c
    subst v0
    have u1 : u.natAbs = 1 := by simpa using hg
    refine ⟨m1, m2, ?_⟩
    have hd2 := z.den_pos
    simp [e2, u1, hd2]
    exact h
def sp__law_row : SpD :=
  fun ds R => ∃ (x o : Int × Int) (rows : List Row) (e : Nat) (u : Int), ds = [ivD x, .lst (rows.map rowD), .tup [.int (e : Int), .int u], ivD o] ∧ Pr 8 x ∧ Pr 4 o ∧ rows.length ≤ 12 ∧ (∀ r ∈ rows, RowOk r) ∧ e ≤ 26 ∧ Big 140 u ∧ R (.tup [ivD (rows.foldl (rowF x) (0, 1)), ivD (o.1 * (x.1.natAbs : Int) ^ e, o.2 * x.2 ^ e * u)])
set_option maxHeartbeats 0 in
theorem ok__law_row (T : Txt K mg) (D0 : Dfn K mg "_law_row" "_law_row" s__law_row ["_law_ratio_here", "_law_rows", "_law_last", "_law_often"] []) (C__law_more : Cal P w K mg base tabs "_law_more" 1 2 ["_law_one", "_law_other"] [] sp__law_more) (C__law_power : Cal P w K mg base tabs "_law_power" 1 2 ["_law_number", "_law_often"] [] sp__law_power) : Cal P w K mg base tabs "_law_row" 2 4 ["_law_ratio_here", "_law_rows", "_law_last", "_law_often"] [] sp__law_row := by
  refine cal_of D0 sc__law_row fun f cdv A outer s H E p ht hg hk hr => ⟨_, (pdss_cons (pds_set (i := 4) sc__law_row.nd rfl (Or.inl rfl) (pd_tup (pda_cons pd_int (pda_cons pd_int pda_nil))))
      (pdss_cons (pds_for rfl PassesOwn.never (pdi_sq (pd_var 1)) (pdg_tup (n := 3) rfl (pdgs_cons (pdg_name (i := 5) sc__law_row.nd rfl (Or.inl rfl)) (pdgs_cons (pdg_name (i := 6) sc__law_row.nd rfl (Or.inl rfl)) (pdgs_cons (pdg_name (i := 7) sc__law_row.nd rfl (Or.inl rfl)) pdgs_nil)))) (pdss_one (pds_set (i := 4) sc__law_row.nd rfl (Or.inl rfl) (pdcC (C__law_more.cal ht) hg hr (pda_cons (pd_var 4) (pda_cons (pd_tup (pda_cons (pd_bin opd_mul (pd_var 5) (pdcC (C__law_power.cal ht) hg hr (pda_cons (pd_ix (pd_var 0) pd_int) (pda_cons (pd_var 6) pda_nil)))) (pda_cons (pd_bin opd_mul (pdcC (C__law_power.cal ht) hg hr (pda_cons (pd_ix (pd_var 0) pd_int) (pda_cons (pd_var 6) pda_nil))) (pd_var 7)) pda_nil))) pda_nil))))))
      (pdss_cons (pds_asg (pd_var 2) (pdg_tup (n := 2) rfl (pdgs_cons (pdg_name (i := 6) sc__law_row.nd rfl (Or.inl rfl)) (pdgs_cons (pdg_name (i := 7) sc__law_row.nd rfl (Or.inl rfl)) pdgs_nil))))
      (pdss_one (pds_ret (pd_tup (pda_cons (pd_var 4) (pda_cons (pd_tup (pda_cons (pd_bin opd_mul (pd_ix (pd_var 3) pd_int) (pdcC (C__law_power.cal ht) hg hr (pda_cons (pd_callB cd_abs rfl T.b_abs PyProof.Rows.boot_abs (pda_cons (pd_ix (pd_var 0) pd_int) pda_nil)) (pda_cons (pd_var 6) pda_nil)))) (pda_cons (pd_bin opd_mul (pd_bin opd_mul (pd_ix (pd_var 3) pd_int) (pdcC (C__law_power.cal ht) hg hr (pda_cons (pd_ix (pd_var 0) pd_int) (pda_cons (pd_var 6) pda_nil)))) (pd_var 7)) pda_nil))) pda_nil)))))))), ?_⟩
  intro ds R hl h; unfold sp__law_row at h
  clear hl hg hr hk ht
  obtain ⟨x, o, rows, e, u, rfl, hx, ho, hl, hr, he, hu, h⟩ := h
  simp (implicitDefEqProofs := false) (maxSteps := 3000000) only [startD, List.map_cons, List.map_nil, List.length_cons, List.length_nil, List.replicate, List.cons_append, List.nil_append, Nat.reduceAdd, Nat.reduceSub, Nat.zero_add, dSeq, dIfS, dOr, dAnd, dNot, dTst, dOp, dUn, dVar, dC, dB, dBK, dCons, dNil, dTup, dLst, dRet, dRetN, dNext, dNever, dAsg, dPar, dPar3, dIf, dAndV, dOrV, dNotV, dCh, dCt, cLast, cLink, tLast, tLink, dDrop, dFor, dBrk, dCnt, dOwn, dApp, dExt, dFree, gPutO, dIxO, dLend, dLendT, dLcF, gN, gTu, gCn, gNl, gP0, gP1, gII, gIIc, gAdd, gNeg, gIx, gEq, gNe, gIs, gIsNot, gIn, gNotIn, gSl, oNone, oSome, gMt, gIndex, cTuple, cList, cI1, cI2, cLen, cMax, cMin, cMaxT, cMinT, dAug, cAll, cAny, cRepr, cSqrt, cIsi, tyN, isNon, kb_tt, kb_ii, kb_ib, kb_bi, kb_bb, kb_it, kb_bt, kb_nt, kb_ni, kb_lt, kb_li, kb_ti, kb_si, kb_st, kb_ss, rd, dRgN, gEqF, dCallV, spOf, atD, ordD, dSq, dZip, zipD_map, ivD, dRg1, dRg2, dLc, dYes, dLcGo, dGen, dGenGo, wipeD, boolsOf, intsOf, maxL, minL, noL, noLs, Option.map_some, Option.bind_some, List.all_cons, List.all_nil, List.any_cons, List.any_nil, id_eq, List.set_cons_zero, List.set_cons_succ, List.getElem?_cons_zero, List.getElem?_cons_succ, List.getElem?_nil, List.getD_cons_zero, List.getD_cons_succ, decide_eq_true_eq, decide_eq_false_iff_not, Bool.not_eq_true', Bool.not_true, Bool.not_false, Bool.and_true, Bool.true_and, Bool.and_false, Bool.false_and, Bool.false_eq_true, if_true, if_false, reduceIte, ite_true, ite_false, true_and, and_true, reduceCtorEq, Int.toNat_zero, Int.toNat_one, Int.cast_ofNat_Int, Int.reduceLT, Int.reduceLE, Int.reduceNeg, Int.reduceToNat, Int.reducePow, Int.reduceMul, Int.reduceAdd, Int.reduceSub, decide_true, decide_false, sp__law_more, sp__law_power]
  refine forList rowD rows (fun done τ => ∃ o5 o6 o7, τ = [some (ivD x), some (.lst (rows.map rowD)), some (.tup [.int (e : Int), .int u]), some (ivD o), some (ivD (done.foldl (rowF x) (0, 1))), o5, o6, o7]) _ ⟨none, none, none, rfl⟩ ?_ ?_
  · rintro k done r rest τ er hk ⟨o5, o6, o7, rfl⟩
    have hr1 := hr r (by rw [er]; simp)
    have hd : done.length ≤ 11 := by
      have := congrArg List.length er
      rw [List.length_append, List.length_cons] at this
      omega
    obtain ⟨k1, k2⟩ := fold_ok hx done (0, 1) 1 (fun q hq => hr q (by rw [er]; simp [hq])) ⟨Big.zero, Big.one, by decide⟩
    have rp := row_pr hx hr1
    have e2 := hr1.e
    have e1 : 8 * r.2.1 ≤ 8 * 25 := Nat.mul_le_mul_left 8 hr1.e
    unfold rowD
    simp (implicitDefEqProofs := false) (maxSteps := 3000000) only [startD, List.map_cons, List.map_nil, List.length_cons, List.length_nil, List.replicate, List.cons_append, List.nil_append, Nat.reduceAdd, Nat.reduceSub, Nat.zero_add, dSeq, dIfS, dOr, dAnd, dNot, dTst, dOp, dUn, dVar, dC, dB, dBK, dCons, dNil, dTup, dLst, dRet, dRetN, dNext, dNever, dAsg, dPar, dPar3, dIf, dAndV, dOrV, dNotV, dCh, dCt, cLast, cLink, tLast, tLink, dDrop, dFor, dBrk, dCnt, dOwn, dApp, dExt, dFree, gPutO, dIxO, dLend, dLendT, dLcF, gN, gTu, gCn, gNl, gP0, gP1, gII, gIIc, gAdd, gNeg, gIx, gEq, gNe, gIs, gIsNot, gIn, gNotIn, gSl, oNone, oSome, gMt, gIndex, cTuple, cList, cI1, cI2, cLen, cMax, cMin, cMaxT, cMinT, dAug, cAll, cAny, cRepr, cSqrt, cIsi, tyN, isNon, kb_tt, kb_ii, kb_ib, kb_bi, kb_bb, kb_it, kb_bt, kb_nt, kb_ni, kb_lt, kb_li, kb_ti, kb_si, kb_st, kb_ss, rd, dRgN, gEqF, dCallV, spOf, atD, ordD, dSq, dZip, zipD_map, ivD, dRg1, dRg2, dLc, dYes, dLcGo, dGen, dGenGo, wipeD, boolsOf, intsOf, maxL, minL, noL, noLs, Option.map_some, Option.bind_some, List.all_cons, List.all_nil, List.any_cons, List.any_nil, id_eq, List.set_cons_zero, List.set_cons_succ, List.getElem?_cons_zero, List.getElem?_cons_succ, List.getElem?_nil, List.getD_cons_zero, List.getD_cons_succ, decide_eq_true_eq, decide_eq_false_iff_not, Bool.not_eq_true', Bool.not_true, Bool.not_false, Bool.and_true, Bool.true_and, Bool.and_false, Bool.false_and, Bool.false_eq_true, if_true, if_false, reduceIte, ite_true, ite_false, true_and, and_true, reduceCtorEq, Int.toNat_zero, Int.toNat_one, Int.cast_ofNat_Int, Int.reduceLT, Int.reduceLE, Int.reduceNeg, Int.reduceToNat, Int.reducePow, Int.reduceMul, Int.reduceAdd, Int.reduceSub, decide_true, decide_false, sp__law_more, sp__law_power]
    refine ⟨_, _, rfl, hx.n, by omega, .big hr1.s (hx.n.pow r.2.1) (by omega), _, _, rfl, hx.d, by omega, .big (hx.d.pow r.2.1) hr1.u (by omega), _, (r.1 * x.1 ^ r.2.1, x.2 ^ r.2.1 * r.2.2), 6000, rfl, by decide, pr_mono k1 (by omega), pr_mono rp (by decide), hk _ ⟨some (.int r.1), some (.int (r.2.1 : Int)), some (.int r.2.2), ?_⟩⟩
    rw [List.foldl_append]
    rfl
  · rintro τ ⟨o5, o6, o7, rfl⟩
    have e1 : 8 * e ≤ 8 * 26 := Nat.mul_le_mul_left 8 he
    simp (implicitDefEqProofs := false) (maxSteps := 3000000) only [startD, List.map_cons, List.map_nil, List.length_cons, List.length_nil, List.replicate, List.cons_append, List.nil_append, Nat.reduceAdd, Nat.reduceSub, Nat.zero_add, dSeq, dIfS, dOr, dAnd, dNot, dTst, dOp, dUn, dVar, dC, dB, dBK, dCons, dNil, dTup, dLst, dRet, dRetN, dNext, dNever, dAsg, dPar, dPar3, dIf, dAndV, dOrV, dNotV, dCh, dCt, cLast, cLink, tLast, tLink, dDrop, dFor, dBrk, dCnt, dOwn, dApp, dExt, dFree, gPutO, dIxO, dLend, dLendT, dLcF, gN, gTu, gCn, gNl, gP0, gP1, gII, gIIc, gAdd, gNeg, gIx, gEq, gNe, gIs, gIsNot, gIn, gNotIn, gSl, oNone, oSome, gMt, gIndex, cTuple, cList, cI1, cI2, cLen, cMax, cMin, cMaxT, cMinT, dAug, cAll, cAny, cRepr, cSqrt, cIsi, tyN, isNon, kb_tt, kb_ii, kb_ib, kb_bi, kb_bb, kb_it, kb_bt, kb_nt, kb_ni, kb_lt, kb_li, kb_ti, kb_si, kb_st, kb_ss, rd, dRgN, gEqF, dCallV, spOf, atD, ordD, dSq, dZip, zipD_map, ivD, dRg1, dRg2, dLc, dYes, dLcGo, dGen, dGenGo, wipeD, boolsOf, intsOf, maxL, minL, noL, noLs, Option.map_some, Option.bind_some, List.all_cons, List.all_nil, List.any_cons, List.any_nil, id_eq, List.set_cons_zero, List.set_cons_succ, List.getElem?_cons_zero, List.getElem?_cons_succ, List.getElem?_nil, List.getD_cons_zero, List.getD_cons_succ, decide_eq_true_eq, decide_eq_false_iff_not, Bool.not_eq_true', Bool.not_true, Bool.not_false, Bool.and_true, Bool.true_and, Bool.and_false, Bool.false_and, Bool.false_eq_true, if_true, if_false, reduceIte, ite_true, ite_false, true_and, and_true, reduceCtorEq, Int.toNat_zero, Int.toNat_one, Int.cast_ofNat_Int, Int.reduceLT, Int.reduceLE, Int.reduceNeg, Int.reduceToNat, Int.reducePow, Int.reduceMul, Int.reduceAdd, Int.reduceSub, decide_true, decide_false, sp__law_more, sp__law_power]
    exact ⟨_, _, rfl, hx.n.abs, by omega, .big ho.n (hx.n.abs.pow e) (by omega), _, _, rfl, hx.d, by omega, .big ho.d (hx.d.pow e) (by omega), .big (ho.d.mul (hx.d.pow e)) hu (by omega), h⟩
def sp__law_exp : SpD :=
  fun ds R => ∃ (x : Int × Int) (m : Nat), ds = [ivD x, .int (m : Int)] ∧ Pr 8 x ∧ m ≤ 12 ∧ R (.tup [ivD (ownT x ((List.range m).map eRow)), ivD (ownR x (2, 1) m (fac m))])
set_option maxHeartbeats 0 in
theorem ok__law_exp (T : Txt K mg) (D0 : Dfn K mg "_law_exp" "_law_exp" s__law_exp ["_law_ratio_here", "_law_many"] []) (C__law_factorial : Cal P w K mg base tabs "_law_factorial" 1 1 ["_law_many"] [] sp__law_factorial) (C__law_row : Cal P w K mg base tabs "_law_row" 2 4 ["_law_ratio_here", "_law_rows", "_law_last", "_law_often"] [] sp__law_row) : Cal P w K mg base tabs "_law_exp" 3 2 ["_law_ratio_here", "_law_many"] [] sp__law_exp := by
  refine cal_of D0 sc__law_exp fun f cdv A outer s H E p ht hg hk hr => ⟨_, (pdss_cons (pds_setLc (i := 2) (own := [("_law_at", 3)]) (t := (L2.gName 3)) rfl sc__law_exp.nd rfl rfl (pdi_rg1 T.b_range (pda_cons (pd_var 1) pda_nil)) (show blkC ["_law_ratio_here", "_law_many", "_law_rows", "_law_at"] (defScope s__law_exp) _ _ = true by decide +kernel) (fun _ _ _ _ _ => (pgw_name (i := 3) (vs := [3]) sc__law_exp.nd rfl (Or.inl rfl))) (fun _ _ _ _ _ => (pd_tup (pda_cons pd_int (pda_cons (pd_var 3) (pda_cons (pdcC (C__law_factorial.cal ht) hg hr (pda_cons (pd_var 3) pda_nil)) pda_nil))))) (sh := s))
      (pdss_one (pds_ret (pdcC (C__law_row.cal ht) hg hr (pda_cons (pd_var 0) (pda_cons (pd_var 2) (pda_cons (pd_tup (pda_cons (pd_var 1) (pda_cons (pdcC (C__law_factorial.cal ht) hg hr (pda_cons (pd_var 1) pda_nil)) pda_nil))) (pda_cons (pd_tup (pda_cons pd_int (pda_cons pd_int pda_nil))) pda_nil)))))))), ?_⟩
  intro ds R hl h; unfold sp__law_exp at h
  clear hl hg hr hk ht
  obtain ⟨x, m, rfl, hx, hm, h⟩ := h
  obtain ⟨h1, h2⟩ := rows_ok (fun k => eRow_ok (k := k)) hm
  simp (implicitDefEqProofs := false) (maxSteps := 3000000) only [startD, List.map_cons, List.map_nil, List.length_cons, List.length_nil, List.replicate, List.cons_append, List.nil_append, Nat.reduceAdd, Nat.reduceSub, Nat.zero_add, dSeq, dIfS, dOr, dAnd, dNot, dTst, dOp, dUn, dVar, dC, dB, dBK, dCons, dNil, dTup, dLst, dRet, dRetN, dNext, dNever, dAsg, dPar, dPar3, dIf, dAndV, dOrV, dNotV, dCh, dCt, cLast, cLink, tLast, tLink, dDrop, dFor, dBrk, dCnt, dOwn, dApp, dExt, dFree, gPutO, dIxO, dLend, dLendT, dLcF, gN, gTu, gCn, gNl, gP0, gP1, gII, gIIc, gAdd, gNeg, gIx, gEq, gNe, gIs, gIsNot, gIn, gNotIn, gSl, oNone, oSome, gMt, gIndex, cTuple, cList, cI1, cI2, cLen, cMax, cMin, cMaxT, cMinT, dAug, cAll, cAny, cRepr, cSqrt, cIsi, tyN, isNon, kb_tt, kb_ii, kb_ib, kb_bi, kb_bb, kb_it, kb_bt, kb_nt, kb_ni, kb_lt, kb_li, kb_ti, kb_si, kb_st, kb_ss, rd, dRgN, gEqF, dCallV, spOf, atD, ordD, dSq, dZip, zipD_map, ivD, dRg1, dRg2, dLc, dYes, dLcGo, dGen, dGenGo, wipeD, boolsOf, intsOf, maxL, minL, noL, noLs, Option.map_some, Option.bind_some, List.all_cons, List.all_nil, List.any_cons, List.any_nil, id_eq, List.set_cons_zero, List.set_cons_succ, List.getElem?_cons_zero, List.getElem?_cons_succ, List.getElem?_nil, List.getD_cons_zero, List.getD_cons_succ, decide_eq_true_eq, decide_eq_false_iff_not, Bool.not_eq_true', Bool.not_true, Bool.not_false, Bool.and_true, Bool.true_and, Bool.and_false, Bool.false_and, Bool.false_eq_true, if_true, if_false, reduceIte, ite_true, ite_false, true_and, and_true, reduceCtorEq, Int.toNat_zero, Int.toNat_one, Int.cast_ofNat_Int, Int.reduceLT, Int.reduceLE, Int.reduceNeg, Int.reduceToNat, Int.reducePow, Int.reduceMul, Int.reduceAdd, Int.reduceSub, decide_true, decide_false, sp__law_factorial, sp__law_row]
  refine ⟨⟨by omega, by omega⟩, by rw [Int.toNat_natCast]; exact lenRng m (by omega), ?_⟩
  rw [Int.toNat_natCast]
  refine lc_map (fun k : Nat => D.int (0 + (k : Int))) (fun k => rowD (eRow k)) (List.range m) [] ?_ ?_
  · intro k hk Q hQ
    have := List.mem_range.mp hk
    have e0 : (0 : Int) + (k : Int) = (k : Int) := by omega
    rw [e0]
    simp (implicitDefEqProofs := false) (maxSteps := 3000000) only [startD, List.map_cons, List.map_nil, List.length_cons, List.length_nil, List.replicate, List.cons_append, List.nil_append, Nat.reduceAdd, Nat.reduceSub, Nat.zero_add, dSeq, dIfS, dOr, dAnd, dNot, dTst, dOp, dUn, dVar, dC, dB, dBK, dCons, dNil, dTup, dLst, dRet, dRetN, dNext, dNever, dAsg, dPar, dPar3, dIf, dAndV, dOrV, dNotV, dCh, dCt, cLast, cLink, tLast, tLink, dDrop, dFor, dBrk, dCnt, dOwn, dApp, dExt, dFree, gPutO, dIxO, dLend, dLendT, dLcF, gN, gTu, gCn, gNl, gP0, gP1, gII, gIIc, gAdd, gNeg, gIx, gEq, gNe, gIs, gIsNot, gIn, gNotIn, gSl, oNone, oSome, gMt, gIndex, cTuple, cList, cI1, cI2, cLen, cMax, cMin, cMaxT, cMinT, dAug, cAll, cAny, cRepr, cSqrt, cIsi, tyN, isNon, kb_tt, kb_ii, kb_ib, kb_bi, kb_bb, kb_it, kb_bt, kb_nt, kb_ni, kb_lt, kb_li, kb_ti, kb_si, kb_st, kb_ss, rd, dRgN, gEqF, dCallV, spOf, atD, ordD, dSq, dZip, zipD_map, ivD, dRg1, dRg2, dLc, dYes, dLcGo, dGen, dGenGo, wipeD, boolsOf, intsOf, maxL, minL, noL, noLs, Option.map_some, Option.bind_some, List.all_cons, List.all_nil, List.any_cons, List.any_nil, id_eq, List.set_cons_zero, List.set_cons_succ, List.getElem?_cons_zero, List.getElem?_cons_succ, List.getElem?_nil, List.getD_cons_zero, List.getD_cons_succ, decide_eq_true_eq, decide_eq_false_iff_not, Bool.not_eq_true', Bool.not_true, Bool.not_false, Bool.and_true, Bool.true_and, Bool.and_false, Bool.false_and, Bool.false_eq_true, if_true, if_false, reduceIte, ite_true, ite_false, true_and, and_true, reduceCtorEq, Int.toNat_zero, Int.toNat_one, Int.cast_ofNat_Int, Int.reduceLT, Int.reduceLE, Int.reduceNeg, Int.reduceToNat, Int.reducePow, Int.reduceMul, Int.reduceAdd, Int.reduceSub, decide_true, decide_false, sp__law_factorial, sp__law_row]
    exact ⟨k, rfl, by omega, hQ⟩
  · rw [List.nil_append]
    repeat (refine ⟨MulC.left (by decide) (by decide), ?_⟩)
    refine ⟨m, rfl, by omega, x, (2, 1), (List.range m).map eRow, m, fac m, ?_, hx, ⟨⟨by decide⟩, ⟨by decide⟩, by decide⟩, h1, h2, by omega, (fac_big (by omega)).mono (by omega), h⟩
    rw [List.map_map]
    rfl
def sp__law_sine : SpD :=
  fun ds R => ∃ (x : Int × Int) (m : Nat), ds = [ivD x, .int (m : Int)] ∧ Pr 8 x ∧ m ≤ 12 ∧ R (.tup [ivD (ownT x ((List.range m).map sRow)), ivD (ownR x (1, 1) (2 * m + 1) (fac (2 * m + 1)))])
set_option maxHeartbeats 0 in
theorem ok__law_sine (T : Txt K mg) (D0 : Dfn K mg "_law_sine" "_law_sine" s__law_sine ["_law_ratio_here", "_law_many"] []) (C__law_factorial : Cal P w K mg base tabs "_law_factorial" 1 1 ["_law_many"] [] sp__law_factorial) (C__law_row : Cal P w K mg base tabs "_law_row" 2 4 ["_law_ratio_here", "_law_rows", "_law_last", "_law_often"] [] sp__law_row) : Cal P w K mg base tabs "_law_sine" 3 2 ["_law_ratio_here", "_law_many"] [] sp__law_sine := by
  refine cal_of D0 sc__law_sine fun f cdv A outer s H E p ht hg hk hr => ⟨_, (pdss_cons (pds_setLc (i := 2) (own := [("_law_at", 3)]) (t := (L2.gName 3)) rfl sc__law_sine.nd rfl rfl (pdi_rg1 T.b_range (pda_cons (pd_var 1) pda_nil)) (show blkC ["_law_ratio_here", "_law_many", "_law_rows", "_law_at"] (defScope s__law_sine) _ _ = true by decide +kernel) (fun _ _ _ _ _ => (pgw_name (i := 3) (vs := [3]) sc__law_sine.nd rfl (Or.inl rfl))) (fun _ _ _ _ _ => (pd_tup (pda_cons (pd_bin opd_sub pd_int (pd_bin opd_mul pd_int (pd_bin opd_mod (pd_var 3) pd_int))) (pda_cons (pd_bin opd_add (pd_bin opd_mul pd_int (pd_var 3)) pd_int) (pda_cons (pdcC (C__law_factorial.cal ht) hg hr (pda_cons (pd_bin opd_add (pd_bin opd_mul pd_int (pd_var 3)) pd_int) pda_nil)) pda_nil))))) (sh := s))
      (pdss_one (pds_ret (pdcC (C__law_row.cal ht) hg hr (pda_cons (pd_var 0) (pda_cons (pd_var 2) (pda_cons (pd_tup (pda_cons (pd_bin opd_add (pd_bin opd_mul pd_int (pd_var 1)) pd_int) (pda_cons (pdcC (C__law_factorial.cal ht) hg hr (pda_cons (pd_bin opd_add (pd_bin opd_mul pd_int (pd_var 1)) pd_int) pda_nil)) pda_nil))) (pda_cons (pd_tup (pda_cons pd_int (pda_cons pd_int pda_nil))) pda_nil)))))))), ?_⟩
  intro ds R hl h; unfold sp__law_sine at h
  clear hl hg hr hk ht
  obtain ⟨x, m, rfl, hx, hm, h⟩ := h
  obtain ⟨h1, h2⟩ := rows_ok (fun k => sRow_ok (k := k)) hm
  simp (implicitDefEqProofs := false) (maxSteps := 3000000) only [startD, List.map_cons, List.map_nil, List.length_cons, List.length_nil, List.replicate, List.cons_append, List.nil_append, Nat.reduceAdd, Nat.reduceSub, Nat.zero_add, dSeq, dIfS, dOr, dAnd, dNot, dTst, dOp, dUn, dVar, dC, dB, dBK, dCons, dNil, dTup, dLst, dRet, dRetN, dNext, dNever, dAsg, dPar, dPar3, dIf, dAndV, dOrV, dNotV, dCh, dCt, cLast, cLink, tLast, tLink, dDrop, dFor, dBrk, dCnt, dOwn, dApp, dExt, dFree, gPutO, dIxO, dLend, dLendT, dLcF, gN, gTu, gCn, gNl, gP0, gP1, gII, gIIc, gAdd, gNeg, gIx, gEq, gNe, gIs, gIsNot, gIn, gNotIn, gSl, oNone, oSome, gMt, gIndex, cTuple, cList, cI1, cI2, cLen, cMax, cMin, cMaxT, cMinT, dAug, cAll, cAny, cRepr, cSqrt, cIsi, tyN, isNon, kb_tt, kb_ii, kb_ib, kb_bi, kb_bb, kb_it, kb_bt, kb_nt, kb_ni, kb_lt, kb_li, kb_ti, kb_si, kb_st, kb_ss, rd, dRgN, gEqF, dCallV, spOf, atD, ordD, dSq, dZip, zipD_map, ivD, dRg1, dRg2, dLc, dYes, dLcGo, dGen, dGenGo, wipeD, boolsOf, intsOf, maxL, minL, noL, noLs, Option.map_some, Option.bind_some, List.all_cons, List.all_nil, List.any_cons, List.any_nil, id_eq, List.set_cons_zero, List.set_cons_succ, List.getElem?_cons_zero, List.getElem?_cons_succ, List.getElem?_nil, List.getD_cons_zero, List.getD_cons_succ, decide_eq_true_eq, decide_eq_false_iff_not, Bool.not_eq_true', Bool.not_true, Bool.not_false, Bool.and_true, Bool.true_and, Bool.and_false, Bool.false_and, Bool.false_eq_true, if_true, if_false, reduceIte, ite_true, ite_false, true_and, and_true, reduceCtorEq, Int.toNat_zero, Int.toNat_one, Int.cast_ofNat_Int, Int.reduceLT, Int.reduceLE, Int.reduceNeg, Int.reduceToNat, Int.reducePow, Int.reduceMul, Int.reduceAdd, Int.reduceSub, decide_true, decide_false, sp__law_factorial, sp__law_row]
  refine ⟨⟨by omega, by omega⟩, by rw [Int.toNat_natCast]; exact lenRng m (by omega), ?_⟩
  rw [Int.toNat_natCast]
  refine lc_map (fun k : Nat => D.int (0 + (k : Int))) (fun k => rowD (sRow k)) (List.range m) [] ?_ ?_
  · intro k hk Q hQ
    have := List.mem_range.mp hk
    have e0 : (0 : Int) + (k : Int) = (k : Int) := by omega
    rw [e0]
    simp (implicitDefEqProofs := false) (maxSteps := 3000000) only [startD, List.map_cons, List.map_nil, List.length_cons, List.length_nil, List.replicate, List.cons_append, List.nil_append, Nat.reduceAdd, Nat.reduceSub, Nat.zero_add, dSeq, dIfS, dOr, dAnd, dNot, dTst, dOp, dUn, dVar, dC, dB, dBK, dCons, dNil, dTup, dLst, dRet, dRetN, dNext, dNever, dAsg, dPar, dPar3, dIf, dAndV, dOrV, dNotV, dCh, dCt, cLast, cLink, tLast, tLink, dDrop, dFor, dBrk, dCnt, dOwn, dApp, dExt, dFree, gPutO, dIxO, dLend, dLendT, dLcF, gN, gTu, gCn, gNl, gP0, gP1, gII, gIIc, gAdd, gNeg, gIx, gEq, gNe, gIs, gIsNot, gIn, gNotIn, gSl, oNone, oSome, gMt, gIndex, cTuple, cList, cI1, cI2, cLen, cMax, cMin, cMaxT, cMinT, dAug, cAll, cAny, cRepr, cSqrt, cIsi, tyN, isNon, kb_tt, kb_ii, kb_ib, kb_bi, kb_bb, kb_it, kb_bt, kb_nt, kb_ni, kb_lt, kb_li, kb_ti, kb_si, kb_st, kb_ss, rd, dRgN, gEqF, dCallV, spOf, atD, ordD, dSq, dZip, zipD_map, ivD, dRg1, dRg2, dLc, dYes, dLcGo, dGen, dGenGo, wipeD, boolsOf, intsOf, maxL, minL, noL, noLs, Option.map_some, Option.bind_some, List.all_cons, List.all_nil, List.any_cons, List.any_nil, id_eq, List.set_cons_zero, List.set_cons_succ, List.getElem?_cons_zero, List.getElem?_cons_succ, List.getElem?_nil, List.getD_cons_zero, List.getD_cons_succ, decide_eq_true_eq, decide_eq_false_iff_not, Bool.not_eq_true', Bool.not_true, Bool.not_false, Bool.and_true, Bool.true_and, Bool.and_false, Bool.false_and, Bool.false_eq_true, if_true, if_false, reduceIte, ite_true, ite_false, true_and, and_true, reduceCtorEq, Int.toNat_zero, Int.toNat_one, Int.cast_ofNat_Int, Int.reduceLT, Int.reduceLE, Int.reduceNeg, Int.reduceToNat, Int.reducePow, Int.reduceMul, Int.reduceAdd, Int.reduceSub, decide_true, decide_false, sp__law_factorial, sp__law_row]
    repeat (refine ⟨MulC.left (by decide) (by decide), ?_⟩)
    exact ⟨2 * k + 1, by norm_cast, by omega, hQ⟩
  · rw [List.nil_append]
    repeat (refine ⟨MulC.left (by decide) (by decide), ?_⟩)
    refine ⟨2 * m + 1, by norm_cast, by omega, x, (1, 1), (List.range m).map sRow, 2 * m + 1, fac (2 * m + 1), ?_, hx, ⟨⟨by decide⟩, ⟨by decide⟩, by decide⟩, h1, h2, by omega, (fac_big (by omega)).mono (by omega), h⟩
    rw [List.map_map]
    rfl
def sp__law_cosine : SpD :=
  fun ds R => ∃ (x : Int × Int) (m : Nat), ds = [ivD x, .int (m : Int)] ∧ Pr 8 x ∧ m ≤ 12 ∧ R (.tup [ivD (ownT x ((List.range m).map cRow)), ivD (ownR x (1, 1) (2 * m) (fac (2 * m)))])
set_option maxHeartbeats 0 in
theorem ok__law_cosine (T : Txt K mg) (D0 : Dfn K mg "_law_cosine" "_law_cosine" s__law_cosine ["_law_ratio_here", "_law_many"] []) (C__law_factorial : Cal P w K mg base tabs "_law_factorial" 1 1 ["_law_many"] [] sp__law_factorial) (C__law_row : Cal P w K mg base tabs "_law_row" 2 4 ["_law_ratio_here", "_law_rows", "_law_last", "_law_often"] [] sp__law_row) : Cal P w K mg base tabs "_law_cosine" 3 2 ["_law_ratio_here", "_law_many"] [] sp__law_cosine := by
  refine cal_of D0 sc__law_cosine fun f cdv A outer s H E p ht hg hk hr => ⟨_, (pdss_cons (pds_setLc (i := 2) (own := [("_law_at", 3)]) (t := (L2.gName 3)) rfl sc__law_cosine.nd rfl rfl (pdi_rg1 T.b_range (pda_cons (pd_var 1) pda_nil)) (show blkC ["_law_ratio_here", "_law_many", "_law_rows", "_law_at"] (defScope s__law_cosine) _ _ = true by decide +kernel) (fun _ _ _ _ _ => (pgw_name (i := 3) (vs := [3]) sc__law_cosine.nd rfl (Or.inl rfl))) (fun _ _ _ _ _ => (pd_tup (pda_cons (pd_bin opd_sub pd_int (pd_bin opd_mul pd_int (pd_bin opd_mod (pd_var 3) pd_int))) (pda_cons (pd_bin opd_mul pd_int (pd_var 3)) (pda_cons (pdcC (C__law_factorial.cal ht) hg hr (pda_cons (pd_bin opd_mul pd_int (pd_var 3)) pda_nil)) pda_nil))))) (sh := s))
      (pdss_one (pds_ret (pdcC (C__law_row.cal ht) hg hr (pda_cons (pd_var 0) (pda_cons (pd_var 2) (pda_cons (pd_tup (pda_cons (pd_bin opd_mul pd_int (pd_var 1)) (pda_cons (pdcC (C__law_factorial.cal ht) hg hr (pda_cons (pd_bin opd_mul pd_int (pd_var 1)) pda_nil)) pda_nil))) (pda_cons (pd_tup (pda_cons pd_int (pda_cons pd_int pda_nil))) pda_nil)))))))), ?_⟩
  intro ds R hl h; unfold sp__law_cosine at h
  clear hl hg hr hk ht
  obtain ⟨x, m, rfl, hx, hm, h⟩ := h
  obtain ⟨h1, h2⟩ := rows_ok (fun k => cRow_ok (k := k)) hm
  simp (implicitDefEqProofs := false) (maxSteps := 3000000) only [startD, List.map_cons, List.map_nil, List.length_cons, List.length_nil, List.replicate, List.cons_append, List.nil_append, Nat.reduceAdd, Nat.reduceSub, Nat.zero_add, dSeq, dIfS, dOr, dAnd, dNot, dTst, dOp, dUn, dVar, dC, dB, dBK, dCons, dNil, dTup, dLst, dRet, dRetN, dNext, dNever, dAsg, dPar, dPar3, dIf, dAndV, dOrV, dNotV, dCh, dCt, cLast, cLink, tLast, tLink, dDrop, dFor, dBrk, dCnt, dOwn, dApp, dExt, dFree, gPutO, dIxO, dLend, dLendT, dLcF, gN, gTu, gCn, gNl, gP0, gP1, gII, gIIc, gAdd, gNeg, gIx, gEq, gNe, gIs, gIsNot, gIn, gNotIn, gSl, oNone, oSome, gMt, gIndex, cTuple, cList, cI1, cI2, cLen, cMax, cMin, cMaxT, cMinT, dAug, cAll, cAny, cRepr, cSqrt, cIsi, tyN, isNon, kb_tt, kb_ii, kb_ib, kb_bi, kb_bb, kb_it, kb_bt, kb_nt, kb_ni, kb_lt, kb_li, kb_ti, kb_si, kb_st, kb_ss, rd, dRgN, gEqF, dCallV, spOf, atD, ordD, dSq, dZip, zipD_map, ivD, dRg1, dRg2, dLc, dYes, dLcGo, dGen, dGenGo, wipeD, boolsOf, intsOf, maxL, minL, noL, noLs, Option.map_some, Option.bind_some, List.all_cons, List.all_nil, List.any_cons, List.any_nil, id_eq, List.set_cons_zero, List.set_cons_succ, List.getElem?_cons_zero, List.getElem?_cons_succ, List.getElem?_nil, List.getD_cons_zero, List.getD_cons_succ, decide_eq_true_eq, decide_eq_false_iff_not, Bool.not_eq_true', Bool.not_true, Bool.not_false, Bool.and_true, Bool.true_and, Bool.and_false, Bool.false_and, Bool.false_eq_true, if_true, if_false, reduceIte, ite_true, ite_false, true_and, and_true, reduceCtorEq, Int.toNat_zero, Int.toNat_one, Int.cast_ofNat_Int, Int.reduceLT, Int.reduceLE, Int.reduceNeg, Int.reduceToNat, Int.reducePow, Int.reduceMul, Int.reduceAdd, Int.reduceSub, decide_true, decide_false, sp__law_factorial, sp__law_row]
  refine ⟨⟨by omega, by omega⟩, by rw [Int.toNat_natCast]; exact lenRng m (by omega), ?_⟩
  rw [Int.toNat_natCast]
  refine lc_map (fun k : Nat => D.int (0 + (k : Int))) (fun k => rowD (cRow k)) (List.range m) [] ?_ ?_
  · intro k hk Q hQ
    have := List.mem_range.mp hk
    have e0 : (0 : Int) + (k : Int) = (k : Int) := by omega
    rw [e0]
    simp (implicitDefEqProofs := false) (maxSteps := 3000000) only [startD, List.map_cons, List.map_nil, List.length_cons, List.length_nil, List.replicate, List.cons_append, List.nil_append, Nat.reduceAdd, Nat.reduceSub, Nat.zero_add, dSeq, dIfS, dOr, dAnd, dNot, dTst, dOp, dUn, dVar, dC, dB, dBK, dCons, dNil, dTup, dLst, dRet, dRetN, dNext, dNever, dAsg, dPar, dPar3, dIf, dAndV, dOrV, dNotV, dCh, dCt, cLast, cLink, tLast, tLink, dDrop, dFor, dBrk, dCnt, dOwn, dApp, dExt, dFree, gPutO, dIxO, dLend, dLendT, dLcF, gN, gTu, gCn, gNl, gP0, gP1, gII, gIIc, gAdd, gNeg, gIx, gEq, gNe, gIs, gIsNot, gIn, gNotIn, gSl, oNone, oSome, gMt, gIndex, cTuple, cList, cI1, cI2, cLen, cMax, cMin, cMaxT, cMinT, dAug, cAll, cAny, cRepr, cSqrt, cIsi, tyN, isNon, kb_tt, kb_ii, kb_ib, kb_bi, kb_bb, kb_it, kb_bt, kb_nt, kb_ni, kb_lt, kb_li, kb_ti, kb_si, kb_st, kb_ss, rd, dRgN, gEqF, dCallV, spOf, atD, ordD, dSq, dZip, zipD_map, ivD, dRg1, dRg2, dLc, dYes, dLcGo, dGen, dGenGo, wipeD, boolsOf, intsOf, maxL, minL, noL, noLs, Option.map_some, Option.bind_some, List.all_cons, List.all_nil, List.any_cons, List.any_nil, id_eq, List.set_cons_zero, List.set_cons_succ, List.getElem?_cons_zero, List.getElem?_cons_succ, List.getElem?_nil, List.getD_cons_zero, List.getD_cons_succ, decide_eq_true_eq, decide_eq_false_iff_not, Bool.not_eq_true', Bool.not_true, Bool.not_false, Bool.and_true, Bool.true_and, Bool.and_false, Bool.false_and, Bool.false_eq_true, if_true, if_false, reduceIte, ite_true, ite_false, true_and, and_true, reduceCtorEq, Int.toNat_zero, Int.toNat_one, Int.cast_ofNat_Int, Int.reduceLT, Int.reduceLE, Int.reduceNeg, Int.reduceToNat, Int.reducePow, Int.reduceMul, Int.reduceAdd, Int.reduceSub, decide_true, decide_false, sp__law_factorial, sp__law_row]
    repeat (refine ⟨MulC.left (by decide) (by decide), ?_⟩)
    exact ⟨2 * k, by norm_cast, by omega, hQ⟩
  · rw [List.nil_append]
    repeat (refine ⟨MulC.left (by decide) (by decide), ?_⟩)
    refine ⟨2 * m, by norm_cast, by omega, x, (1, 1), (List.range m).map cRow, 2 * m, fac (2 * m), ?_, hx, ⟨⟨by decide⟩, ⟨by decide⟩, by decide⟩, h1, h2, by omega, (fac_big (by omega)).mono (by omega), h⟩
    rw [List.map_map]
    rfl
def sp__law_log : SpD :=
  fun ds R => ∃ (x : Int × Int) (m : Nat), ds = [ivD x, .int (m : Int)] ∧ Pr 8 (x.1 - x.2, x.1 + x.2) ∧ m ≤ 12 ∧ R (.tup [ivD (ownT (x.1 - x.2, x.1 + x.2) ((List.range m).map lRow)), ivD (ownR (x.1 - x.2, x.1 + x.2) (9, 4) (2 * m + 1) (2 * (m : Int) + 1))])
set_option maxHeartbeats 0 in
theorem ok__law_log (T : Txt K mg) (D0 : Dfn K mg "_law_log" "_law_log" s__law_log ["_law_ratio_here", "_law_many"] []) (C__law_row : Cal P w K mg base tabs "_law_row" 2 4 ["_law_ratio_here", "_law_rows", "_law_last", "_law_often"] [] sp__law_row) : Cal P w K mg base tabs "_law_log" 3 2 ["_law_ratio_here", "_law_many"] [] sp__law_log := by
  refine cal_of D0 sc__law_log fun f cdv A outer s H E p ht hg hk hr => ⟨_, (pdss_cons (pds_set (i := 2) sc__law_log.nd rfl (Or.inl rfl) (pd_bin opd_add (pd_ix (pd_var 0) pd_int) (pd_ix (pd_var 0) pd_int)))
      (pdss_cons (pds_set (i := 3) sc__law_log.nd rfl (Or.inl rfl) (pd_tup (pda_cons (pd_bin opd_sub (pd_ix (pd_var 0) pd_int) (pd_ix (pd_var 0) pd_int)) (pda_cons (pd_var 2) pda_nil))))
      (pdss_cons (pds_setLc (i := 4) (own := [("_law_at", 5)]) (t := (L2.gName 5)) rfl sc__law_log.nd rfl rfl (pdi_rg1 T.b_range (pda_cons (pd_var 1) pda_nil)) (show blkC ["_law_ratio_here", "_law_many", "_law_under", "_law_part", "_law_rows", "_law_at"] (defScope s__law_log) _ _ = true by decide +kernel) (fun _ _ _ _ _ => (pgw_name (i := 5) (vs := [5]) sc__law_log.nd rfl (Or.inl rfl))) (fun _ _ _ _ _ => (pd_tup (pda_cons pd_int (pda_cons (pd_bin opd_add (pd_bin opd_mul pd_int (pd_var 5)) pd_int) (pda_cons (pd_bin opd_add (pd_bin opd_mul pd_int (pd_var 5)) pd_int) pda_nil))))) (sh := s))
      (pdss_one (pds_ret (pdcC (C__law_row.cal ht) hg hr (pda_cons (pd_var 3) (pda_cons (pd_var 4) (pda_cons (pd_tup (pda_cons (pd_bin opd_add (pd_bin opd_mul pd_int (pd_var 1)) pd_int) (pda_cons (pd_bin opd_add (pd_bin opd_mul pd_int (pd_var 1)) pd_int) pda_nil))) (pda_cons (pd_tup (pda_cons pd_int (pda_cons pd_int pda_nil))) pda_nil)))))))))), ?_⟩
  intro ds R hl h; unfold sp__law_log at h
  clear hl hg hr hk ht
  obtain ⟨x, m, rfl, hx, hm, h⟩ := h
  obtain ⟨h1, h2⟩ := rows_ok (fun k => lRow_ok (k := k)) hm
  simp (implicitDefEqProofs := false) (maxSteps := 3000000) only [startD, List.map_cons, List.map_nil, List.length_cons, List.length_nil, List.replicate, List.cons_append, List.nil_append, Nat.reduceAdd, Nat.reduceSub, Nat.zero_add, dSeq, dIfS, dOr, dAnd, dNot, dTst, dOp, dUn, dVar, dC, dB, dBK, dCons, dNil, dTup, dLst, dRet, dRetN, dNext, dNever, dAsg, dPar, dPar3, dIf, dAndV, dOrV, dNotV, dCh, dCt, cLast, cLink, tLast, tLink, dDrop, dFor, dBrk, dCnt, dOwn, dApp, dExt, dFree, gPutO, dIxO, dLend, dLendT, dLcF, gN, gTu, gCn, gNl, gP0, gP1, gII, gIIc, gAdd, gNeg, gIx, gEq, gNe, gIs, gIsNot, gIn, gNotIn, gSl, oNone, oSome, gMt, gIndex, cTuple, cList, cI1, cI2, cLen, cMax, cMin, cMaxT, cMinT, dAug, cAll, cAny, cRepr, cSqrt, cIsi, tyN, isNon, kb_tt, kb_ii, kb_ib, kb_bi, kb_bb, kb_it, kb_bt, kb_nt, kb_ni, kb_lt, kb_li, kb_ti, kb_si, kb_st, kb_ss, rd, dRgN, gEqF, dCallV, spOf, atD, ordD, dSq, dZip, zipD_map, ivD, dRg1, dRg2, dLc, dYes, dLcGo, dGen, dGenGo, wipeD, boolsOf, intsOf, maxL, minL, noL, noLs, Option.map_some, Option.bind_some, List.all_cons, List.all_nil, List.any_cons, List.any_nil, id_eq, List.set_cons_zero, List.set_cons_succ, List.getElem?_cons_zero, List.getElem?_cons_succ, List.getElem?_nil, List.getD_cons_zero, List.getD_cons_succ, decide_eq_true_eq, decide_eq_false_iff_not, Bool.not_eq_true', Bool.not_true, Bool.not_false, Bool.and_true, Bool.true_and, Bool.and_false, Bool.false_and, Bool.false_eq_true, if_true, if_false, reduceIte, ite_true, ite_false, true_and, and_true, reduceCtorEq, Int.toNat_zero, Int.toNat_one, Int.cast_ofNat_Int, Int.reduceLT, Int.reduceLE, Int.reduceNeg, Int.reduceToNat, Int.reducePow, Int.reduceMul, Int.reduceAdd, Int.reduceSub, decide_true, decide_false, sp__law_row]
  refine ⟨⟨by omega, by omega⟩, by rw [Int.toNat_natCast]; exact lenRng m (by omega), ?_⟩
  rw [Int.toNat_natCast]
  refine lc_map (fun k : Nat => D.int (0 + (k : Int))) (fun k => rowD (lRow k)) (List.range m) [] ?_ ?_
  · intro k hk Q hQ
    have := List.mem_range.mp hk
    have e0 : (0 : Int) + (k : Int) = (k : Int) := by omega
    rw [e0]
    simp (implicitDefEqProofs := false) (maxSteps := 3000000) only [startD, List.map_cons, List.map_nil, List.length_cons, List.length_nil, List.replicate, List.cons_append, List.nil_append, Nat.reduceAdd, Nat.reduceSub, Nat.zero_add, dSeq, dIfS, dOr, dAnd, dNot, dTst, dOp, dUn, dVar, dC, dB, dBK, dCons, dNil, dTup, dLst, dRet, dRetN, dNext, dNever, dAsg, dPar, dPar3, dIf, dAndV, dOrV, dNotV, dCh, dCt, cLast, cLink, tLast, tLink, dDrop, dFor, dBrk, dCnt, dOwn, dApp, dExt, dFree, gPutO, dIxO, dLend, dLendT, dLcF, gN, gTu, gCn, gNl, gP0, gP1, gII, gIIc, gAdd, gNeg, gIx, gEq, gNe, gIs, gIsNot, gIn, gNotIn, gSl, oNone, oSome, gMt, gIndex, cTuple, cList, cI1, cI2, cLen, cMax, cMin, cMaxT, cMinT, dAug, cAll, cAny, cRepr, cSqrt, cIsi, tyN, isNon, kb_tt, kb_ii, kb_ib, kb_bi, kb_bb, kb_it, kb_bt, kb_nt, kb_ni, kb_lt, kb_li, kb_ti, kb_si, kb_st, kb_ss, rd, dRgN, gEqF, dCallV, spOf, atD, ordD, dSq, dZip, zipD_map, ivD, dRg1, dRg2, dLc, dYes, dLcGo, dGen, dGenGo, wipeD, boolsOf, intsOf, maxL, minL, noL, noLs, Option.map_some, Option.bind_some, List.all_cons, List.all_nil, List.any_cons, List.any_nil, id_eq, List.set_cons_zero, List.set_cons_succ, List.getElem?_cons_zero, List.getElem?_cons_succ, List.getElem?_nil, List.getD_cons_zero, List.getD_cons_succ, decide_eq_true_eq, decide_eq_false_iff_not, Bool.not_eq_true', Bool.not_true, Bool.not_false, Bool.and_true, Bool.true_and, Bool.and_false, Bool.false_and, Bool.false_eq_true, if_true, if_false, reduceIte, ite_true, ite_false, true_and, and_true, reduceCtorEq, Int.toNat_zero, Int.toNat_one, Int.cast_ofNat_Int, Int.reduceLT, Int.reduceLE, Int.reduceNeg, Int.reduceToNat, Int.reducePow, Int.reduceMul, Int.reduceAdd, Int.reduceSub, decide_true, decide_false, sp__law_row]
    repeat (refine ⟨MulC.left (by decide) (by decide), ?_⟩)
    exact hQ
  · rw [List.nil_append]
    repeat (refine ⟨MulC.left (by decide) (by decide), ?_⟩)
    refine ⟨(x.1 - x.2, x.1 + x.2), (9, 4), (List.range m).map lRow, 2 * m + 1, 2 * (m : Int) + 1, ?_, hx, ⟨⟨by decide⟩, ⟨by decide⟩, by decide⟩, h1, h2, by omega, Big.mono (a := 5) ⟨by show _ < 32; omega⟩ (by decide), h⟩
    rw [List.map_map]
    rfl
def sp__law_told_right : SpD :=
  fun ds R => ∃ (lo hi S r : Rat) (T Q : Int × Int) (a : Nat), ds = [.tup [rd lo, rd hi], .tup [ivD T, ivD Q]] ∧ Own S r T Q ∧ a ≤ 9000 ∧ Sz a lo ∧ Sz a hi ∧ lo = S - r ∧ hi = S + r ∧ R (.bl true)
set_option maxHeartbeats 0 in
theorem ok__law_told_right (T : Txt K mg) (D0 : Dfn K mg "_law_told_right" "_law_told_right" s__law_told_right ["_law_told", "_law_own"] []) (C__law_is_same : Cal P w K mg base tabs "_law_is_same" 1 2 ["_law_one", "_law_told"] [] sp__law_is_same) (C__law_more : Cal P w K mg base tabs "_law_more" 1 2 ["_law_one", "_law_other"] [] sp__law_more) (C__law_less : Cal P w K mg base tabs "_law_less" 1 2 ["_law_one", "_law_other"] [] sp__law_less) : Cal P w K mg base tabs "_law_told_right" 2 2 ["_law_told", "_law_own"] [] sp__law_told_right := by
  refine cal_of D0 sc__law_told_right fun f cdv A outer s H E p ht hg hk hr => ⟨_, (pdss_cons (pds_asg (pd_var 1) (pdg_tup (n := 2) rfl (pdgs_cons (pdg_name (i := 2) sc__law_told_right.nd rfl (Or.inl rfl)) (pdgs_cons (pdg_name (i := 3) sc__law_told_right.nd rfl (Or.inl rfl)) pdgs_nil))))
      (pdss_cons (pds_if (pdw_t (pdw_or (pdt_not (pdt_val (pd_callB cd_isi rfl T.b_isinstance PyProof.Rows.boot_isinstance (pda_cons (pd_var 0) (pda_cons (pd_ty rfl T.b_tuple PyProof.Rows.boot_tuple) pda_nil))))) (pdw_or1 (pdt_cmp (opd_ne hr.units) (pd_callB cd_len rfl T.b_len PySem.boot_len (pda_cons (pd_var 0) pda_nil)) pd_int)))) (pdss_one (pds_ret pd_bl)) pdss_nil)
      (pdss_one (pds_ret (pd_and (pdcC (C__law_is_same.cal ht) hg hr (pda_cons (pdcC (C__law_less.cal ht) hg hr (pda_cons (pd_var 2) (pda_cons (pd_var 3) pda_nil))) (pda_cons (pd_ix (pd_var 0) pd_int) pda_nil))) (pd_one (pdcC (C__law_is_same.cal ht) hg hr (pda_cons (pdcC (C__law_more.cal ht) hg hr (pda_cons (pd_var 2) (pda_cons (pd_var 3) pda_nil))) (pda_cons (pd_ix (pd_var 0) pd_int) pda_nil))))))))), ?_⟩
  intro ds R hl h; unfold sp__law_told_right at h
  clear hl hg hr hk ht
  obtain ⟨lo, hi, S, r, T, Q, a, rfl, own, ha, hl, hh, e1, e2, h⟩ := h
  have s1 := pr_sub own.t own.q
  have s2 := pr_add own.t own.q
  have v1 := vl_pSub own.t own.q
  have v2 := vl_pAdd own.t own.q
  rw [own.vt, own.vq] at v1 v2
  simp (implicitDefEqProofs := false) (maxSteps := 3000000) only [startD, List.map_cons, List.map_nil, List.length_cons, List.length_nil, List.replicate, List.cons_append, List.nil_append, Nat.reduceAdd, Nat.reduceSub, Nat.zero_add, dSeq, dIfS, dOr, dAnd, dNot, dTst, dOp, dUn, dVar, dC, dB, dBK, dCons, dNil, dTup, dLst, dRet, dRetN, dNext, dNever, dAsg, dPar, dPar3, dIf, dAndV, dOrV, dNotV, dCh, dCt, cLast, cLink, tLast, tLink, dDrop, dFor, dBrk, dCnt, dOwn, dApp, dExt, dFree, gPutO, dIxO, dLend, dLendT, dLcF, gN, gTu, gCn, gNl, gP0, gP1, gII, gIIc, gAdd, gNeg, gIx, gEq, gNe, gIs, gIsNot, gIn, gNotIn, gSl, oNone, oSome, gMt, gIndex, cTuple, cList, cI1, cI2, cLen, cMax, cMin, cMaxT, cMinT, dAug, cAll, cAny, cRepr, cSqrt, cIsi, tyN, isNon, kb_tt, kb_ii, kb_ib, kb_bi, kb_bb, kb_it, kb_bt, kb_nt, kb_ni, kb_lt, kb_li, kb_ti, kb_si, kb_st, kb_ss, rd, dRgN, gEqF, dCallV, spOf, atD, ordD, dSq, dZip, zipD_map, ivD, dRg1, dRg2, dLc, dYes, dLcGo, dGen, dGenGo, wipeD, boolsOf, intsOf, maxL, minL, noL, noLs, Option.map_some, Option.bind_some, List.all_cons, List.all_nil, List.any_cons, List.any_nil, id_eq, List.set_cons_zero, List.set_cons_succ, List.getElem?_cons_zero, List.getElem?_cons_succ, List.getElem?_nil, List.getD_cons_zero, List.getD_cons_succ, decide_eq_true_eq, decide_eq_false_iff_not, Bool.not_eq_true', Bool.not_true, Bool.not_false, Bool.and_true, Bool.true_and, Bool.and_false, Bool.false_and, Bool.false_eq_true, if_true, if_false, reduceIte, ite_true, ite_false, true_and, and_true, reduceCtorEq, Int.toNat_zero, Int.toNat_one, Int.cast_ofNat_Int, Int.reduceLT, Int.reduceLE, Int.reduceNeg, Int.reduceToNat, Int.reducePow, Int.reduceMul, Int.reduceAdd, Int.reduceSub, decide_true, decide_false, sp__law_is_same, sp__law_more, sp__law_less]
  refine ⟨T, Q, 4400, rfl, by decide, own.t, pr_mono own.q (by decide), pSub T Q, lo, 9000, rfl, by decide, pr_mono s1 (by decide), hl.mono ha, v1.trans e1.symm, ?_⟩
  refine ⟨T, Q, 4400, rfl, by decide, own.t, pr_mono own.q (by decide), pAdd T Q, hi, 9000, rfl, by decide, pr_mono s2 (by decide), hh.mono ha, v2.trans e2.symm, h⟩
def sp__law_do_meet : SpD :=
  fun ds R => ∃ (p q u v : Int × Int), ds = [.tup [ivD p, ivD q], .tup [ivD u, ivD v]] ∧ Pr 20000 p ∧ Pr 20000 q ∧ Pr 20000 u ∧ Pr 20000 v ∧ vl u ≤ vl q ∧ vl p ≤ vl v ∧ R (.bl true)
set_option maxHeartbeats 0 in
theorem ok__law_do_meet (T : Txt K mg) (D0 : Dfn K mg "_law_do_meet" "_law_do_meet" s__law_do_meet ["_law_one", "_law_other"] []) (C__law_less : Cal P w K mg base tabs "_law_less" 1 2 ["_law_one", "_law_other"] [] sp__law_less) : Cal P w K mg base tabs "_law_do_meet" 2 2 ["_law_one", "_law_other"] [] sp__law_do_meet := by
  refine cal_of D0 sc__law_do_meet fun f cdv A outer s H E p ht hg hk hr => ⟨_, (pdss_cons (pds_par (i := 2) (j := 3) rfl sc__law_do_meet.nd rfl rfl (by decide) rfl rfl (pda_cons (pdcC (C__law_less.cal ht) hg hr (pda_cons (pd_ix (pd_var 0) pd_int) (pda_cons (pd_ix (pd_var 1) pd_int) pda_nil))) (pda_cons (pdcC (C__law_less.cal ht) hg hr (pda_cons (pd_ix (pd_var 1) pd_int) (pda_cons (pd_ix (pd_var 0) pd_int) pda_nil))) pda_nil)) (by rfl))
      (pdss_one (pds_ret (pd_and (pd_cmp opd_ge (pd_ix (pd_var 2) pd_int) pd_int) (pd_one (pd_cmp opd_ge (pd_ix (pd_var 3) pd_int) pd_int)))))), ?_⟩
  intro ds R hl h; unfold sp__law_do_meet at h
  clear hl hg hr hk ht
  obtain ⟨p, q, u, v, rfl, hp, hq, hu, hv, h1, h2, h⟩ := h
  have g1 := le_of_vl hq hu h1
  have g2 := le_of_vl hv hp h2
  simp (implicitDefEqProofs := false) (maxSteps := 3000000) only [startD, List.map_cons, List.map_nil, List.length_cons, List.length_nil, List.replicate, List.cons_append, List.nil_append, Nat.reduceAdd, Nat.reduceSub, Nat.zero_add, dSeq, dIfS, dOr, dAnd, dNot, dTst, dOp, dUn, dVar, dC, dB, dBK, dCons, dNil, dTup, dLst, dRet, dRetN, dNext, dNever, dAsg, dPar, dPar3, dIf, dAndV, dOrV, dNotV, dCh, dCt, cLast, cLink, tLast, tLink, dDrop, dFor, dBrk, dCnt, dOwn, dApp, dExt, dFree, gPutO, dIxO, dLend, dLendT, dLcF, gN, gTu, gCn, gNl, gP0, gP1, gII, gIIc, gAdd, gNeg, gIx, gEq, gNe, gIs, gIsNot, gIn, gNotIn, gSl, oNone, oSome, gMt, gIndex, cTuple, cList, cI1, cI2, cLen, cMax, cMin, cMaxT, cMinT, dAug, cAll, cAny, cRepr, cSqrt, cIsi, tyN, isNon, kb_tt, kb_ii, kb_ib, kb_bi, kb_bb, kb_it, kb_bt, kb_nt, kb_ni, kb_lt, kb_li, kb_ti, kb_si, kb_st, kb_ss, rd, dRgN, gEqF, dCallV, spOf, atD, ordD, dSq, dZip, zipD_map, ivD, dRg1, dRg2, dLc, dYes, dLcGo, dGen, dGenGo, wipeD, boolsOf, intsOf, maxL, minL, noL, noLs, Option.map_some, Option.bind_some, List.all_cons, List.all_nil, List.any_cons, List.any_nil, id_eq, List.set_cons_zero, List.set_cons_succ, List.getElem?_cons_zero, List.getElem?_cons_succ, List.getElem?_nil, List.getD_cons_zero, List.getD_cons_succ, decide_eq_true_eq, decide_eq_false_iff_not, Bool.not_eq_true', Bool.not_true, Bool.not_false, Bool.and_true, Bool.true_and, Bool.and_false, Bool.false_and, Bool.false_eq_true, if_true, if_false, reduceIte, ite_true, ite_false, true_and, and_true, reduceCtorEq, Int.toNat_zero, Int.toNat_one, Int.cast_ofNat_Int, Int.reduceLT, Int.reduceLE, Int.reduceNeg, Int.reduceToNat, Int.reducePow, Int.reduceMul, Int.reduceAdd, Int.reduceSub, decide_true, decide_false, sp__law_less]
  refine ⟨q, u, 20000, rfl, by decide, hq, hu, v, p, 20000, rfl, by decide, hv, hp, ?_⟩
  simp [g1, g2]
  exact h
def sp__law_product : SpD :=
  fun ds R => ∃ (p q u v : Int × Int), ds = [.tup [ivD p, ivD q], .tup [ivD u, ivD v]] ∧ Pr 3000 p ∧ Pr 3000 q ∧ Pr 3000 u ∧ Pr 3000 v ∧
    ∀ l g : Int × Int, Pr 6000 l → Pr 6000 g → (∀ x y : Int × Int, (x = p ∨ x = q) → (y = u ∨ y = v) → vl l ≤ vl x * vl y ∧ vl x * vl y ≤ vl g) → R (.tup [ivD l, ivD g])
set_option maxHeartbeats 0 in
theorem ok__law_product (T : Txt K mg) (D0 : Dfn K mg "_law_product" "_law_product" s__law_product ["_law_one", "_law_other"] []) (C__law_less : Cal P w K mg base tabs "_law_less" 1 2 ["_law_one", "_law_other"] [] sp__law_less) : Cal P w K mg base tabs "_law_product" 2 2 ["_law_one", "_law_other"] [] sp__law_product := by
  refine cal_of D0 sc__law_product fun f cdv A outer s H E p ht hg hk hr => ⟨_, (pdss_cons (pds_own (i := 2) sc__law_product.nd rfl (Or.inl rfl) (pdf_lst pda_nil))
      (pdss_cons (pds_for rfl PassesOwn.never (pdi_sq (pd_var 0)) (pdg_name (i := 3) sc__law_product.nd rfl (Or.inr rfl)) (pdss_one (pds_ext (i := 2) (pdf_lc (own := [("_law_far", 7)]) (t := (L2.gName 7)) rfl sc__law_product.nd (pdi_sq (pd_var 1)) (show blkC ["_law_one", "_law_other", "_law_some", "_law_near", "_law_least_here", "_law_greatest", "_law_late", "_law_far"] (defScope s__law_product) _ _ = true by decide +kernel) (fun _ _ _ _ _ => (pgw_name (i := 7) (vs := [7]) sc__law_product.nd rfl (Or.inl rfl))) (fun _ _ _ _ _ => (pd_tup (pda_cons (pd_bin opd_mul (pd_ix (pd_var 3) pd_int) (pd_ix (pd_var 7) pd_int)) (pda_cons (pd_bin opd_mul (pd_ix (pd_var 3) pd_int) (pd_ix (pd_var 7) pd_int)) pda_nil)))) (sh := s)))))
      (pdss_cons (pds_par (i := 4) (j := 5) rfl sc__law_product.nd rfl rfl (by decide) rfl rfl (pda_cons (pd_ixO (i := 2) pd_int) (pda_cons (pd_ixO (i := 2) pd_int) pda_nil)) (by rfl))
      (pdss_cons (pds_free 2 (pds_for rfl PassesOwn.never (pdi_sq (pd_var 2)) (pdg_name (i := 6) sc__law_product.nd rfl (Or.inl rfl)) (pdss_cons (pds_set (i := 4) sc__law_product.nd rfl (Or.inl rfl) (pd_ifx (pdt_cmp opd_lt (pd_ix (pdcC (C__law_less.cal ht) hg hr (pda_cons (pd_var 6) (pda_cons (pd_var 4) pda_nil))) pd_int) pd_int) (pd_var 6) (pd_var 4)))
      (pdss_one (pds_set (i := 5) sc__law_product.nd rfl (Or.inl rfl) (pd_ifx (pdt_cmp opd_gt (pd_ix (pdcC (C__law_less.cal ht) hg hr (pda_cons (pd_var 6) (pda_cons (pd_var 5) pda_nil))) pd_int) pd_int) (pd_var 6) (pd_var 5)))))))
      (pdss_one (pds_ret (pd_tup (pda_cons (pd_var 4) (pda_cons (pd_var 5) pda_nil))))))))), ?_⟩
  intro ds R hl h; unfold sp__law_product at h
  clear hl hg hr hk ht
  obtain ⟨p, q, u, v, rfl, hp, hq, hu, hv, h⟩ := h
  have m1 := pr_mul hp hu
  have m2 := pr_mul hp hv
  have m3 := pr_mul hq hu
  have m4 := pr_mul hq hv
  have w1 : vl (pMul p u) = vl p * vl u := vl_mul hp.pos hu.pos
  have w2 : vl (pMul p v) = vl p * vl v := vl_mul hp.pos hv.pos
  have w3 : vl (pMul q u) = vl q * vl u := vl_mul hq.pos hu.pos
  have w4 : vl (pMul q v) = vl q * vl v := vl_mul hq.pos hv.pos
  simp (implicitDefEqProofs := false) (maxSteps := 3000000) only [startD, List.map_cons, List.map_nil, List.length_cons, List.length_nil, List.replicate, List.cons_append, List.nil_append, Nat.reduceAdd, Nat.reduceSub, Nat.zero_add, dSeq, dIfS, dOr, dAnd, dNot, dTst, dOp, dUn, dVar, dC, dB, dBK, dCons, dNil, dTup, dLst, dRet, dRetN, dNext, dNever, dAsg, dPar, dPar3, dIf, dAndV, dOrV, dNotV, dCh, dCt, cLast, cLink, tLast, tLink, dDrop, dFor, dBrk, dCnt, dOwn, dApp, dExt, dFree, gPutO, dIxO, dLend, dLendT, dLcF, gN, gTu, gCn, gNl, gP0, gP1, gII, gIIc, gAdd, gNeg, gIx, gEq, gNe, gIs, gIsNot, gIn, gNotIn, gSl, oNone, oSome, gMt, gIndex, cTuple, cList, cI1, cI2, cLen, cMax, cMin, cMaxT, cMinT, dAug, cAll, cAny, cRepr, cSqrt, cIsi, tyN, isNon, kb_tt, kb_ii, kb_ib, kb_bi, kb_bb, kb_it, kb_bt, kb_nt, kb_ni, kb_lt, kb_li, kb_ti, kb_si, kb_st, kb_ss, rd, dRgN, gEqF, dCallV, spOf, atD, ordD, dSq, dZip, zipD_map, ivD, dRg1, dRg2, dLc, dYes, dLcGo, dGen, dGenGo, wipeD, boolsOf, intsOf, maxL, minL, noL, noLs, Option.map_some, Option.bind_some, List.all_cons, List.all_nil, List.any_cons, List.any_nil, id_eq, List.set_cons_zero, List.set_cons_succ, List.getElem?_cons_zero, List.getElem?_cons_succ, List.getElem?_nil, List.getD_cons_zero, List.getD_cons_succ, decide_eq_true_eq, decide_eq_false_iff_not, Bool.not_eq_true', Bool.not_true, Bool.not_false, Bool.and_true, Bool.true_and, Bool.and_false, Bool.false_and, Bool.false_eq_true, if_true, if_false, reduceIte, ite_true, ite_false, true_and, and_true, reduceCtorEq, Int.toNat_zero, Int.toNat_one, Int.cast_ofNat_Int, Int.reduceLT, Int.reduceLE, Int.reduceNeg, Int.reduceToNat, Int.reducePow, Int.reduceMul, Int.reduceAdd, Int.reduceSub, decide_true, decide_false, sp__law_less]
  rw [dForGo]
  simp (implicitDefEqProofs := false) (maxSteps := 3000000) only [startD, List.map_cons, List.map_nil, List.length_cons, List.length_nil, List.replicate, List.cons_append, List.nil_append, Nat.reduceAdd, Nat.reduceSub, Nat.zero_add, dSeq, dIfS, dOr, dAnd, dNot, dTst, dOp, dUn, dVar, dC, dB, dBK, dCons, dNil, dTup, dLst, dRet, dRetN, dNext, dNever, dAsg, dPar, dPar3, dIf, dAndV, dOrV, dNotV, dCh, dCt, cLast, cLink, tLast, tLink, dDrop, dFor, dBrk, dCnt, dOwn, dApp, dExt, dFree, gPutO, dIxO, dLend, dLendT, dLcF, gN, gTu, gCn, gNl, gP0, gP1, gII, gIIc, gAdd, gNeg, gIx, gEq, gNe, gIs, gIsNot, gIn, gNotIn, gSl, oNone, oSome, gMt, gIndex, cTuple, cList, cI1, cI2, cLen, cMax, cMin, cMaxT, cMinT, dAug, cAll, cAny, cRepr, cSqrt, cIsi, tyN, isNon, kb_tt, kb_ii, kb_ib, kb_bi, kb_bb, kb_it, kb_bt, kb_nt, kb_ni, kb_lt, kb_li, kb_ti, kb_si, kb_st, kb_ss, rd, dRgN, gEqF, dCallV, spOf, atD, ordD, dSq, dZip, zipD_map, ivD, dRg1, dRg2, dLc, dYes, dLcGo, dGen, dGenGo, wipeD, boolsOf, intsOf, maxL, minL, noL, noLs, Option.map_some, Option.bind_some, List.all_cons, List.all_nil, List.any_cons, List.any_nil, id_eq, List.set_cons_zero, List.set_cons_succ, List.getElem?_cons_zero, List.getElem?_cons_succ, List.getElem?_nil, List.getD_cons_zero, List.getD_cons_succ, decide_eq_true_eq, decide_eq_false_iff_not, Bool.not_eq_true', Bool.not_true, Bool.not_false, Bool.and_true, Bool.true_and, Bool.and_false, Bool.false_and, Bool.false_eq_true, if_true, if_false, reduceIte, ite_true, ite_false, true_and, and_true, reduceCtorEq, Int.toNat_zero, Int.toNat_one, Int.cast_ofNat_Int, Int.reduceLT, Int.reduceLE, Int.reduceNeg, Int.reduceToNat, Int.reducePow, Int.reduceMul, Int.reduceAdd, Int.reduceSub, decide_true, decide_false, sp__law_less]
  refine ⟨.of 2 rfl (by decide), .big hp.n hu.n (by decide), .big hp.d hu.d (by decide), .big hp.n hv.n (by decide), .big hp.d hv.d (by decide), by decide, ?_⟩
  rw [dForGo]
  simp (implicitDefEqProofs := false) (maxSteps := 3000000) only [startD, List.map_cons, List.map_nil, List.length_cons, List.length_nil, List.replicate, List.cons_append, List.nil_append, Nat.reduceAdd, Nat.reduceSub, Nat.zero_add, dSeq, dIfS, dOr, dAnd, dNot, dTst, dOp, dUn, dVar, dC, dB, dBK, dCons, dNil, dTup, dLst, dRet, dRetN, dNext, dNever, dAsg, dPar, dPar3, dIf, dAndV, dOrV, dNotV, dCh, dCt, cLast, cLink, tLast, tLink, dDrop, dFor, dBrk, dCnt, dOwn, dApp, dExt, dFree, gPutO, dIxO, dLend, dLendT, dLcF, gN, gTu, gCn, gNl, gP0, gP1, gII, gIIc, gAdd, gNeg, gIx, gEq, gNe, gIs, gIsNot, gIn, gNotIn, gSl, oNone, oSome, gMt, gIndex, cTuple, cList, cI1, cI2, cLen, cMax, cMin, cMaxT, cMinT, dAug, cAll, cAny, cRepr, cSqrt, cIsi, tyN, isNon, kb_tt, kb_ii, kb_ib, kb_bi, kb_bb, kb_it, kb_bt, kb_nt, kb_ni, kb_lt, kb_li, kb_ti, kb_si, kb_st, kb_ss, rd, dRgN, gEqF, dCallV, spOf, atD, ordD, dSq, dZip, zipD_map, ivD, dRg1, dRg2, dLc, dYes, dLcGo, dGen, dGenGo, wipeD, boolsOf, intsOf, maxL, minL, noL, noLs, Option.map_some, Option.bind_some, List.all_cons, List.all_nil, List.any_cons, List.any_nil, id_eq, List.set_cons_zero, List.set_cons_succ, List.getElem?_cons_zero, List.getElem?_cons_succ, List.getElem?_nil, List.getD_cons_zero, List.getD_cons_succ, decide_eq_true_eq, decide_eq_false_iff_not, Bool.not_eq_true', Bool.not_true, Bool.not_false, Bool.and_true, Bool.true_and, Bool.and_false, Bool.false_and, Bool.false_eq_true, if_true, if_false, reduceIte, ite_true, ite_false, true_and, and_true, reduceCtorEq, Int.toNat_zero, Int.toNat_one, Int.cast_ofNat_Int, Int.reduceLT, Int.reduceLE, Int.reduceNeg, Int.reduceToNat, Int.reducePow, Int.reduceMul, Int.reduceAdd, Int.reduceSub, decide_true, decide_false, sp__law_less]
  refine ⟨.of 2 rfl (by decide), .big hq.n hu.n (by decide), .big hq.d hu.d (by decide), .big hq.n hv.n (by decide), .big hq.d hv.d (by decide), by decide, ?_⟩
  rw [dForGo]
  simp (implicitDefEqProofs := false) (maxSteps := 3000000) only [startD, List.map_cons, List.map_nil, List.length_cons, List.length_nil, List.replicate, List.cons_append, List.nil_append, Nat.reduceAdd, Nat.reduceSub, Nat.zero_add, dSeq, dIfS, dOr, dAnd, dNot, dTst, dOp, dUn, dVar, dC, dB, dBK, dCons, dNil, dTup, dLst, dRet, dRetN, dNext, dNever, dAsg, dPar, dPar3, dIf, dAndV, dOrV, dNotV, dCh, dCt, cLast, cLink, tLast, tLink, dDrop, dFor, dBrk, dCnt, dOwn, dApp, dExt, dFree, gPutO, dIxO, dLend, dLendT, dLcF, gN, gTu, gCn, gNl, gP0, gP1, gII, gIIc, gAdd, gNeg, gIx, gEq, gNe, gIs, gIsNot, gIn, gNotIn, gSl, oNone, oSome, gMt, gIndex, cTuple, cList, cI1, cI2, cLen, cMax, cMin, cMaxT, cMinT, dAug, cAll, cAny, cRepr, cSqrt, cIsi, tyN, isNon, kb_tt, kb_ii, kb_ib, kb_bi, kb_bb, kb_it, kb_bt, kb_nt, kb_ni, kb_lt, kb_li, kb_ti, kb_si, kb_st, kb_ss, rd, dRgN, gEqF, dCallV, spOf, atD, ordD, dSq, dZip, zipD_map, ivD, dRg1, dRg2, dLc, dYes, dLcGo, dGen, dGenGo, wipeD, boolsOf, intsOf, maxL, minL, noL, noLs, Option.map_some, Option.bind_some, List.all_cons, List.all_nil, List.any_cons, List.any_nil, id_eq, List.set_cons_zero, List.set_cons_succ, List.getElem?_cons_zero, List.getElem?_cons_succ, List.getElem?_nil, List.getD_cons_zero, List.getD_cons_succ, decide_eq_true_eq, decide_eq_false_iff_not, Bool.not_eq_true', Bool.not_true, Bool.not_false, Bool.and_true, Bool.true_and, Bool.and_false, Bool.false_and, Bool.false_eq_true, if_true, if_false, reduceIte, ite_true, ite_false, true_and, and_true, reduceCtorEq, Int.toNat_zero, Int.toNat_one, Int.cast_ofNat_Int, Int.reduceLT, Int.reduceLE, Int.reduceNeg, Int.reduceToNat, Int.reducePow, Int.reduceMul, Int.reduceAdd, Int.reduceSub, decide_true, decide_false, sp__law_less]
  refine forList ivD [pMul p u, pMul p v, pMul q u, pMul q v] (fun done τ => ∃ (l g : Int × Int) (o2 o3 o6 o7 : Option D), τ = [some (.tup [ivD p, ivD q]), some (.tup [ivD u, ivD v]), o2, o3, some (ivD l), some (ivD g), o6, o7] ∧ Pr 6000 l ∧ Pr 6000 g ∧ ∀ z ∈ done, vl l ≤ vl z ∧ vl z ≤ vl g) _ ⟨pMul p u, pMul p u, _, _, _, _, rfl, m1, m1, fun z hz => absurd hz List.not_mem_nil⟩ ?_ ?_
  · rintro k done z rest τ er hk ⟨l, g, o2, o3, o6, o7, rfl, hl, hg, hz⟩
    have pz : Pr 6000 z := by
      have : z ∈ [pMul p u, pMul p v, pMul q u, pMul q v] := by rw [er]; simp
      simp only [List.mem_cons, List.not_mem_nil, or_false] at this
      rcases this with rfl | rfl | rfl | rfl <;> assumption
    simp (implicitDefEqProofs := false) (maxSteps := 3000000) only [startD, List.map_cons, List.map_nil, List.length_cons, List.length_nil, List.replicate, List.cons_append, List.nil_append, Nat.reduceAdd, Nat.reduceSub, Nat.zero_add, dSeq, dIfS, dOr, dAnd, dNot, dTst, dOp, dUn, dVar, dC, dB, dBK, dCons, dNil, dTup, dLst, dRet, dRetN, dNext, dNever, dAsg, dPar, dPar3, dIf, dAndV, dOrV, dNotV, dCh, dCt, cLast, cLink, tLast, tLink, dDrop, dFor, dBrk, dCnt, dOwn, dApp, dExt, dFree, gPutO, dIxO, dLend, dLendT, dLcF, gN, gTu, gCn, gNl, gP0, gP1, gII, gIIc, gAdd, gNeg, gIx, gEq, gNe, gIs, gIsNot, gIn, gNotIn, gSl, oNone, oSome, gMt, gIndex, cTuple, cList, cI1, cI2, cLen, cMax, cMin, cMaxT, cMinT, dAug, cAll, cAny, cRepr, cSqrt, cIsi, tyN, isNon, kb_tt, kb_ii, kb_ib, kb_bi, kb_bb, kb_it, kb_bt, kb_nt, kb_ni, kb_lt, kb_li, kb_ti, kb_si, kb_st, kb_ss, rd, dRgN, gEqF, dCallV, spOf, atD, ordD, dSq, dZip, zipD_map, ivD, dRg1, dRg2, dLc, dYes, dLcGo, dGen, dGenGo, wipeD, boolsOf, intsOf, maxL, minL, noL, noLs, Option.map_some, Option.bind_some, List.all_cons, List.all_nil, List.any_cons, List.any_nil, id_eq, List.set_cons_zero, List.set_cons_succ, List.getElem?_cons_zero, List.getElem?_cons_succ, List.getElem?_nil, List.getD_cons_zero, List.getD_cons_succ, decide_eq_true_eq, decide_eq_false_iff_not, Bool.not_eq_true', Bool.not_true, Bool.not_false, Bool.and_true, Bool.true_and, Bool.and_false, Bool.false_and, Bool.false_eq_true, if_true, if_false, reduceIte, ite_true, ite_false, true_and, and_true, reduceCtorEq, Int.toNat_zero, Int.toNat_one, Int.cast_ofNat_Int, Int.reduceLT, Int.reduceLE, Int.reduceNeg, Int.reduceToNat, Int.reducePow, Int.reduceMul, Int.reduceAdd, Int.reduceSub, decide_true, decide_false, sp__law_less]
    refine ⟨z, l, 6000, rfl, by decide, pz, hl, ?_⟩
    have up : ∀ (l' g' : Int × Int), vl l' ≤ vl l → vl l' ≤ vl z → vl g ≤ vl g' → vl z ≤ vl g' → ∀ y ∈ done ++ [z], vl l' ≤ vl y ∧ vl y ≤ vl g' := by
      intro l' g' h1 h2 h3 h4 y hy
      rcases List.mem_append.mp hy with e | e
      · have := hz y e
        exact ⟨by grind, by grind⟩
      · rw [List.mem_singleton.mp e]
        exact ⟨h2, h4⟩
    have rf := @Rat.le_refl
    refine ite2P (fun c => ⟨z, g, 6000, rfl, by decide, pz, hg, ite2P (fun d => ?_) (fun d => ?_)⟩) (fun c => ⟨z, g, 6000, rfl, by decide, pz, hg, ite2P (fun d => ?_) (fun d => ?_)⟩)
    · have c' := (lt_of_vl pz hl).mp c
      have d' := (gt_of_vl pz hg).mp d
      exact hk _ ⟨z, z, _, _, _, _, rfl, pz, pz, up z z (Rat.le_of_lt c') rf (Rat.le_of_lt d') rf⟩
    · have c' := (lt_of_vl pz hl).mp c
      have d' := fun w => d ((gt_of_vl pz hg).mpr w)
      exact hk _ ⟨z, g, _, _, _, _, rfl, pz, hg, up z g (Rat.le_of_lt c') rf rf (Rat.not_lt.mp d')⟩
    · have c' := fun w => c ((lt_of_vl pz hl).mpr w)
      have d' := (gt_of_vl pz hg).mp d
      exact hk _ ⟨l, z, _, _, _, _, rfl, hl, pz, up l z rf (Rat.not_lt.mp c') (Rat.le_of_lt d') rf⟩
    · have c' := fun w => c ((lt_of_vl pz hl).mpr w)
      have d' := fun w => d ((gt_of_vl pz hg).mpr w)
      exact hk _ ⟨l, g, _, _, _, _, rfl, hl, hg, up l g rf (Rat.not_lt.mp c') rf (Rat.not_lt.mp d')⟩
  · rintro τ ⟨l, g, o2, o3, o6, o7, rfl, hl, hg, hz⟩
    simp (implicitDefEqProofs := false) (maxSteps := 3000000) only [startD, List.map_cons, List.map_nil, List.length_cons, List.length_nil, List.replicate, List.cons_append, List.nil_append, Nat.reduceAdd, Nat.reduceSub, Nat.zero_add, dSeq, dIfS, dOr, dAnd, dNot, dTst, dOp, dUn, dVar, dC, dB, dBK, dCons, dNil, dTup, dLst, dRet, dRetN, dNext, dNever, dAsg, dPar, dPar3, dIf, dAndV, dOrV, dNotV, dCh, dCt, cLast, cLink, tLast, tLink, dDrop, dFor, dBrk, dCnt, dOwn, dApp, dExt, dFree, gPutO, dIxO, dLend, dLendT, dLcF, gN, gTu, gCn, gNl, gP0, gP1, gII, gIIc, gAdd, gNeg, gIx, gEq, gNe, gIs, gIsNot, gIn, gNotIn, gSl, oNone, oSome, gMt, gIndex, cTuple, cList, cI1, cI2, cLen, cMax, cMin, cMaxT, cMinT, dAug, cAll, cAny, cRepr, cSqrt, cIsi, tyN, isNon, kb_tt, kb_ii, kb_ib, kb_bi, kb_bb, kb_it, kb_bt, kb_nt, kb_ni, kb_lt, kb_li, kb_ti, kb_si, kb_st, kb_ss, rd, dRgN, gEqF, dCallV, spOf, atD, ordD, dSq, dZip, zipD_map, ivD, dRg1, dRg2, dLc, dYes, dLcGo, dGen, dGenGo, wipeD, boolsOf, intsOf, maxL, minL, noL, noLs, Option.map_some, Option.bind_some, List.all_cons, List.all_nil, List.any_cons, List.any_nil, id_eq, List.set_cons_zero, List.set_cons_succ, List.getElem?_cons_zero, List.getElem?_cons_succ, List.getElem?_nil, List.getD_cons_zero, List.getD_cons_succ, decide_eq_true_eq, decide_eq_false_iff_not, Bool.not_eq_true', Bool.not_true, Bool.not_false, Bool.and_true, Bool.true_and, Bool.and_false, Bool.false_and, Bool.false_eq_true, if_true, if_false, reduceIte, ite_true, ite_false, true_and, and_true, reduceCtorEq, Int.toNat_zero, Int.toNat_one, Int.cast_ofNat_Int, Int.reduceLT, Int.reduceLE, Int.reduceNeg, Int.reduceToNat, Int.reducePow, Int.reduceMul, Int.reduceAdd, Int.reduceSub, decide_true, decide_false, sp__law_less]
    refine h l g hl hg fun x y hx hy => ?_
    have z1 := hz (pMul p u) (by simp)
    have z2 := hz (pMul p v) (by simp)
    have z3 := hz (pMul q u) (by simp)
    have z4 := hz (pMul q v) (by simp)
    rw [w1] at z1
    rw [w2] at z2
    rw [w3] at z3
    rw [w4] at z4
    rcases hx with rfl | rfl <;> rcases hy with rfl | rfl <;> assumption
def sp__law_least : SpD :=
  fun ds R => ∃ (n u : Int), ds = [.int n, .int u] ∧ 1 ≤ u ∧ u ≤ 100 ∧ (n.natAbs : Int) ≤ 300 ∧ R (rd ((n : Rat) / (u : Rat)))
set_option maxHeartbeats 0 in
theorem ok__law_least (T : Txt K mg) (D0 : Dfn K mg "_law_least" "_law_least" s__law_least ["_law_number", "_law_under"] [])  : Cal P w K mg base tabs "_law_least" 1 2 ["_law_number", "_law_under"] [] sp__law_least := by
  refine cal_of D0 sc__law_least fun f cdv A outer s H E p ht hg hk hr => ⟨_, (pdss_cons (pds_for rfl PassesOwn.never (pdi_rgN T.b_range (pda_cons (pd_ifx (pdt_cmp (opd_ne hr.units) (pd_var 0) pd_int) (pd_callB (cd_minT rfl hr.u65) rfl T.b_min PyProof.Rows.boot_min (pda_cons (pd_callB cd_abs rfl T.b_abs PyProof.Rows.boot_abs (pda_cons (pd_var 0) pda_nil)) (pda_cons (pd_var 1) pda_nil))) (pd_var 1)) (pda_cons pd_int (pda_cons (pd_un und_neg pd_int) pda_nil)))) (pdg_name (i := 2) sc__law_least.nd rfl (Or.inl rfl)) (pdss_one (pds_if (pdw_t (pdw_and (pdt_cmp (opd_eq hr.units) (pd_bin opd_mod (pd_var 0) (pd_var 2)) pd_int) (pdw_and1 (pdt_cmp (opd_eq hr.units) (pd_bin opd_mod (pd_var 1) (pd_var 2)) pd_int)))) (pdss_one (pds_ret (pd_tup (pda_cons (pd_bin opd_div (pd_var 0) (pd_var 2)) (pda_cons (pd_bin opd_div (pd_var 1) (pd_var 2)) pda_nil))))) pdss_nil)))
      (pdss_one (pds_ret (pd_tup (pda_cons (pd_var 0) (pda_cons (pd_var 1) pda_nil)))))), ?_⟩
  intro ds R hl h; unfold sp__law_least at h
  clear hl hg hr hk ht
  obtain ⟨n, u, rfl, h1, h2, h3, h⟩ := h
  have gp : 0 < Nat.gcd n.natAbs u.natAbs := Nat.gcd_pos_of_pos_right _ (by omega)
  have gu : Nat.gcd n.natAbs u.natAbs ≤ u.natAbs := Nat.gcd_le_right _ (by omega)
  simp (implicitDefEqProofs := false) (maxSteps := 3000000) only [startD, List.map_cons, List.map_nil, List.length_cons, List.length_nil, List.replicate, List.cons_append, List.nil_append, Nat.reduceAdd, Nat.reduceSub, Nat.zero_add, dSeq, dIfS, dOr, dAnd, dNot, dTst, dOp, dUn, dVar, dC, dB, dBK, dCons, dNil, dTup, dLst, dRet, dRetN, dNext, dNever, dAsg, dPar, dPar3, dIf, dAndV, dOrV, dNotV, dCh, dCt, cLast, cLink, tLast, tLink, dDrop, dFor, dBrk, dCnt, dOwn, dApp, dExt, dFree, gPutO, dIxO, dLend, dLendT, dLcF, gN, gTu, gCn, gNl, gP0, gP1, gII, gIIc, gAdd, gNeg, gIx, gEq, gNe, gIs, gIsNot, gIn, gNotIn, gSl, oNone, oSome, gMt, gIndex, cTuple, cList, cI1, cI2, cLen, cMax, cMin, cMaxT, cMinT, dAug, cAll, cAny, cRepr, cSqrt, cIsi, tyN, isNon, kb_tt, kb_ii, kb_ib, kb_bi, kb_bb, kb_it, kb_bt, kb_nt, kb_ni, kb_lt, kb_li, kb_ti, kb_si, kb_st, kb_ss, rd, dRgN, gEqF, dCallV, spOf, atD, ordD, dSq, dZip, zipD_map, ivD, dRg1, dRg2, dLc, dYes, dLcGo, dGen, dGenGo, wipeD, boolsOf, intsOf, maxL, minL, noL, noLs, Option.map_some, Option.bind_some, List.all_cons, List.all_nil, List.any_cons, List.any_nil, id_eq, List.set_cons_zero, List.set_cons_succ, List.getElem?_cons_zero, List.getElem?_cons_succ, List.getElem?_nil, List.getD_cons_zero, List.getD_cons_succ, decide_eq_true_eq, decide_eq_false_iff_not, Bool.not_eq_true', Bool.not_true, Bool.not_false, Bool.and_true, Bool.true_and, Bool.and_false, Bool.false_and, Bool.false_eq_true, if_true, if_false, reduceIte, ite_true, ite_false, true_and, and_true, reduceCtorEq, Int.toNat_zero, Int.toNat_one, Int.cast_ofNat_Int, Int.reduceLT, Int.reduceLE, Int.reduceNeg, Int.reduceToNat, Int.reducePow, Int.reduceMul, Int.reduceAdd, Int.reduceSub, decide_true, decide_false]
  refine ite2P (fun c0 => ⟨⟨by omega, by omega⟩, ?_⟩) (fun c0 => ⟨⟨by omega, by omega⟩, ?_⟩)
  · have gn : Nat.gcd n.natAbs u.natAbs ≤ n.natAbs := Nat.gcd_le_left _ (by omega)
    have t1 : 1 ≤ (min ((n.natAbs : Nat) : Int) u) := by omega
    have t2 : ((Nat.gcd n.natAbs u.natAbs : Nat) : Int) ≤ min ((n.natAbs : Nat) : Int) u := by omega
    refine forInv (fun i τ => (i : Int) ≤ (min ((n.natAbs : Nat) : Int) u) - 1 ∧ (∃ o, τ = [some (.int n), some (.int u), o]) ∧ ∀ c : Nat, (min ((n.natAbs : Nat) : Int) u) - (i : Int) < (c : Int) → c ∣ n.natAbs → c ∣ u.natAbs → False) _ _ ⟨by omega, ⟨none, rfl⟩, fun c hc a b => ?_⟩ ?_ ?_
    · have := Nat.le_of_dvd gp (Nat.dvd_gcd a b)
      omega
    · rintro k i y τ hy hk ⟨hi, ⟨o, rfl⟩, inv⟩
      have hl : i < ((min ((n.natAbs : Nat) : Int) u) - 1).toNat := by
        have := (List.getElem?_eq_some_iff.mp hy).1
        simpa [rngC] using this
      rw [rngC_get hl] at hy
      cases hy
      have ep : (min ((n.natAbs : Nat) : Int) u) + (i : Int) * (-1) = (min ((n.natAbs : Nat) : Int) u) - (i : Int) := by omega
      have p0 : 0 < (min ((n.natAbs : Nat) : Int) u) - (i : Int) := by omega
      have yes : ∀ a : ((min ((n.natAbs : Nat) : Int) u) - (i : Int)) ∣ n, ∀ b : ((min ((n.natAbs : Nat) : Int) u) - (i : Int)) ∣ u, R (.tup [.int (n / ((min ((n.natAbs : Nat) : Int) u) - (i : Int))), .int (u / ((min ((n.natAbs : Nat) : Int) u) - (i : Int)))]) := fun a b => by
        have a1 : ((min ((n.natAbs : Nat) : Int) u) - (i : Int)).natAbs ∣ n.natAbs := Int.natAbs_dvd_natAbs.mpr a
        have b1 : ((min ((n.natAbs : Nat) : Int) u) - (i : Int)).natAbs ∣ u.natAbs := Int.natAbs_dvd_natAbs.mpr b
        have g1 := Nat.le_of_dvd gp (Nat.dvd_gcd a1 b1)
        have g2 : ¬ (min ((n.natAbs : Nat) : Int) u) - (i : Int) < ((Nat.gcd n.natAbs u.natAbs : Nat) : Int) := fun z => inv _ z (Nat.gcd_dvd_left _ _) (Nat.gcd_dvd_right _ _)
        have e : ((Nat.gcd n.natAbs u.natAbs : Nat) : Int) = (min ((n.natAbs : Nat) : Int) u) - (i : Int) := by omega
        rw [rd_frac (by omega), e] at h
        exact h
      have no : ¬ (((min ((n.natAbs : Nat) : Int) u) - (i : Int)) ∣ n ∧ ((min ((n.natAbs : Nat) : Int) u) - (i : Int)) ∣ u) → k [some (.int n), some (.int u), some (.int ((min ((n.natAbs : Nat) : Int) u) - (i : Int)))] := fun z => by
        refine hk _ ⟨by omega, ⟨_, rfl⟩, fun c hc a b => ?_⟩
        by_cases q : (min ((n.natAbs : Nat) : Int) u) - (i : Int) < (c : Int)
        · exact inv c q a b
        · have e : (min ((n.natAbs : Nat) : Int) u) - (i : Int) = (c : Int) := by omega
          rw [e] at z
          exact z ⟨Int.natAbs_dvd_natAbs.mp (by rw [Int.natAbs_natCast]; exact a), Int.natAbs_dvd_natAbs.mp (by rw [Int.natAbs_natCast]; exact b)⟩
      rw [ep]
      simp (implicitDefEqProofs := false) (maxSteps := 3000000) only [startD, List.map_cons, List.map_nil, List.length_cons, List.length_nil, List.replicate, List.cons_append, List.nil_append, Nat.reduceAdd, Nat.reduceSub, Nat.zero_add, dSeq, dIfS, dOr, dAnd, dNot, dTst, dOp, dUn, dVar, dC, dB, dBK, dCons, dNil, dTup, dLst, dRet, dRetN, dNext, dNever, dAsg, dPar, dPar3, dIf, dAndV, dOrV, dNotV, dCh, dCt, cLast, cLink, tLast, tLink, dDrop, dFor, dBrk, dCnt, dOwn, dApp, dExt, dFree, gPutO, dIxO, dLend, dLendT, dLcF, gN, gTu, gCn, gNl, gP0, gP1, gII, gIIc, gAdd, gNeg, gIx, gEq, gNe, gIs, gIsNot, gIn, gNotIn, gSl, oNone, oSome, gMt, gIndex, cTuple, cList, cI1, cI2, cLen, cMax, cMin, cMaxT, cMinT, dAug, cAll, cAny, cRepr, cSqrt, cIsi, tyN, isNon, kb_tt, kb_ii, kb_ib, kb_bi, kb_bb, kb_it, kb_bt, kb_nt, kb_ni, kb_lt, kb_li, kb_ti, kb_si, kb_st, kb_ss, rd, dRgN, gEqF, dCallV, spOf, atD, ordD, dSq, dZip, zipD_map, ivD, dRg1, dRg2, dLc, dYes, dLcGo, dGen, dGenGo, wipeD, boolsOf, intsOf, maxL, minL, noL, noLs, Option.map_some, Option.bind_some, List.all_cons, List.all_nil, List.any_cons, List.any_nil, id_eq, List.set_cons_zero, List.set_cons_succ, List.getElem?_cons_zero, List.getElem?_cons_succ, List.getElem?_nil, List.getD_cons_zero, List.getD_cons_succ, decide_eq_true_eq, decide_eq_false_iff_not, Bool.not_eq_true', Bool.not_true, Bool.not_false, Bool.and_true, Bool.true_and, Bool.and_false, Bool.false_and, Bool.false_eq_true, if_true, if_false, reduceIte, ite_true, ite_false, true_and, and_true, reduceCtorEq, Int.toNat_zero, Int.toNat_one, Int.cast_ofNat_Int, Int.reduceLT, Int.reduceLE, Int.reduceNeg, Int.reduceToNat, Int.reducePow, Int.reduceMul, Int.reduceAdd, Int.reduceSub, decide_true, decide_false]
      refine ⟨p0, ite2P (fun a => ⟨p0, ite2P (fun b => ?_) (fun b => ?_)⟩) (fun a => ?_)⟩
      · exact ⟨BD.of p0 (by omega), BD.of p0 (by omega), yes (Int.dvd_of_emod_eq_zero a) (Int.dvd_of_emod_eq_zero b)⟩
      · exact no fun z => b (Int.emod_eq_zero_of_dvd z.2)
      · exact no fun z => a (Int.emod_eq_zero_of_dvd z.1)
    · rintro τ ⟨_, ⟨o, rfl⟩, inv⟩
      have hl : (rngC ((min ((n.natAbs : Nat) : Int) u)) (-1) ((min ((n.natAbs : Nat) : Int) u) - 1).toNat).length = ((min ((n.natAbs : Nat) : Int) u) - 1).toNat := by simp [rngC]
      rw [hl] at inv
      have g2 : ¬ 1 < Nat.gcd n.natAbs u.natAbs := fun z => inv _ (by omega) (Nat.gcd_dvd_left _ _) (Nat.gcd_dvd_right _ _)
      have e : Nat.gcd n.natAbs u.natAbs = 1 := by omega
      rw [rd_frac (by omega), e] at h
      simp (implicitDefEqProofs := false) (maxSteps := 3000000) only [startD, List.map_cons, List.map_nil, List.length_cons, List.length_nil, List.replicate, List.cons_append, List.nil_append, Nat.reduceAdd, Nat.reduceSub, Nat.zero_add, dSeq, dIfS, dOr, dAnd, dNot, dTst, dOp, dUn, dVar, dC, dB, dBK, dCons, dNil, dTup, dLst, dRet, dRetN, dNext, dNever, dAsg, dPar, dPar3, dIf, dAndV, dOrV, dNotV, dCh, dCt, cLast, cLink, tLast, tLink, dDrop, dFor, dBrk, dCnt, dOwn, dApp, dExt, dFree, gPutO, dIxO, dLend, dLendT, dLcF, gN, gTu, gCn, gNl, gP0, gP1, gII, gIIc, gAdd, gNeg, gIx, gEq, gNe, gIs, gIsNot, gIn, gNotIn, gSl, oNone, oSome, gMt, gIndex, cTuple, cList, cI1, cI2, cLen, cMax, cMin, cMaxT, cMinT, dAug, cAll, cAny, cRepr, cSqrt, cIsi, tyN, isNon, kb_tt, kb_ii, kb_ib, kb_bi, kb_bb, kb_it, kb_bt, kb_nt, kb_ni, kb_lt, kb_li, kb_ti, kb_si, kb_st, kb_ss, rd, dRgN, gEqF, dCallV, spOf, atD, ordD, dSq, dZip, zipD_map, ivD, dRg1, dRg2, dLc, dYes, dLcGo, dGen, dGenGo, wipeD, boolsOf, intsOf, maxL, minL, noL, noLs, Option.map_some, Option.bind_some, List.all_cons, List.all_nil, List.any_cons, List.any_nil, id_eq, List.set_cons_zero, List.set_cons_succ, List.getElem?_cons_zero, List.getElem?_cons_succ, List.getElem?_nil, List.getD_cons_zero, List.getD_cons_succ, decide_eq_true_eq, decide_eq_false_iff_not, Bool.not_eq_true', Bool.not_true, Bool.not_false, Bool.and_true, Bool.true_and, Bool.and_false, Bool.false_and, Bool.false_eq_true, if_true, if_false, reduceIte, ite_true, ite_false, true_and, and_true, reduceCtorEq, Int.toNat_zero, Int.toNat_one, Int.cast_ofNat_Int, Int.reduceLT, Int.reduceLE, Int.reduceNeg, Int.reduceToNat, Int.reducePow, Int.reduceMul, Int.reduceAdd, Int.reduceSub, decide_true, decide_false]
      simpa using h
  · skip
    refine forInv (fun i τ => (i : Int) ≤ u - 1 ∧ (∃ o, τ = [some (.int n), some (.int u), o]) ∧ ∀ c : Nat, u - (i : Int) < (c : Int) → c ∣ n.natAbs → c ∣ u.natAbs → False) _ _ ⟨by omega, ⟨none, rfl⟩, fun c hc a b => ?_⟩ ?_ ?_
    · have := Nat.le_of_dvd gp (Nat.dvd_gcd a b)
      omega
    · rintro k i y τ hy hk ⟨hi, ⟨o, rfl⟩, inv⟩
      have hl : i < (u - 1).toNat := by
        have := (List.getElem?_eq_some_iff.mp hy).1
        simpa [rngC] using this
      rw [rngC_get hl] at hy
      cases hy
      have ep : u + (i : Int) * (-1) = u - (i : Int) := by omega
      have p0 : 0 < u - (i : Int) := by omega
      have yes : ∀ a : (u - (i : Int)) ∣ n, ∀ b : (u - (i : Int)) ∣ u, R (.tup [.int (n / (u - (i : Int))), .int (u / (u - (i : Int)))]) := fun a b => by
        have a1 : (u - (i : Int)).natAbs ∣ n.natAbs := Int.natAbs_dvd_natAbs.mpr a
        have b1 : (u - (i : Int)).natAbs ∣ u.natAbs := Int.natAbs_dvd_natAbs.mpr b
        have g1 := Nat.le_of_dvd gp (Nat.dvd_gcd a1 b1)
        have g2 : ¬ u - (i : Int) < ((Nat.gcd n.natAbs u.natAbs : Nat) : Int) := fun z => inv _ z (Nat.gcd_dvd_left _ _) (Nat.gcd_dvd_right _ _)
        have e : ((Nat.gcd n.natAbs u.natAbs : Nat) : Int) = u - (i : Int) := by omega
        rw [rd_frac (by omega), e] at h
        exact h
      have no : ¬ ((u - (i : Int)) ∣ n ∧ (u - (i : Int)) ∣ u) → k [some (.int n), some (.int u), some (.int (u - (i : Int)))] := fun z => by
        refine hk _ ⟨by omega, ⟨_, rfl⟩, fun c hc a b => ?_⟩
        by_cases q : u - (i : Int) < (c : Int)
        · exact inv c q a b
        · have e : u - (i : Int) = (c : Int) := by omega
          rw [e] at z
          exact z ⟨Int.natAbs_dvd_natAbs.mp (by rw [Int.natAbs_natCast]; exact a), Int.natAbs_dvd_natAbs.mp (by rw [Int.natAbs_natCast]; exact b)⟩
      rw [ep]
      simp (implicitDefEqProofs := false) (maxSteps := 3000000) only [startD, List.map_cons, List.map_nil, List.length_cons, List.length_nil, List.replicate, List.cons_append, List.nil_append, Nat.reduceAdd, Nat.reduceSub, Nat.zero_add, dSeq, dIfS, dOr, dAnd, dNot, dTst, dOp, dUn, dVar, dC, dB, dBK, dCons, dNil, dTup, dLst, dRet, dRetN, dNext, dNever, dAsg, dPar, dPar3, dIf, dAndV, dOrV, dNotV, dCh, dCt, cLast, cLink, tLast, tLink, dDrop, dFor, dBrk, dCnt, dOwn, dApp, dExt, dFree, gPutO, dIxO, dLend, dLendT, dLcF, gN, gTu, gCn, gNl, gP0, gP1, gII, gIIc, gAdd, gNeg, gIx, gEq, gNe, gIs, gIsNot, gIn, gNotIn, gSl, oNone, oSome, gMt, gIndex, cTuple, cList, cI1, cI2, cLen, cMax, cMin, cMaxT, cMinT, dAug, cAll, cAny, cRepr, cSqrt, cIsi, tyN, isNon, kb_tt, kb_ii, kb_ib, kb_bi, kb_bb, kb_it, kb_bt, kb_nt, kb_ni, kb_lt, kb_li, kb_ti, kb_si, kb_st, kb_ss, rd, dRgN, gEqF, dCallV, spOf, atD, ordD, dSq, dZip, zipD_map, ivD, dRg1, dRg2, dLc, dYes, dLcGo, dGen, dGenGo, wipeD, boolsOf, intsOf, maxL, minL, noL, noLs, Option.map_some, Option.bind_some, List.all_cons, List.all_nil, List.any_cons, List.any_nil, id_eq, List.set_cons_zero, List.set_cons_succ, List.getElem?_cons_zero, List.getElem?_cons_succ, List.getElem?_nil, List.getD_cons_zero, List.getD_cons_succ, decide_eq_true_eq, decide_eq_false_iff_not, Bool.not_eq_true', Bool.not_true, Bool.not_false, Bool.and_true, Bool.true_and, Bool.and_false, Bool.false_and, Bool.false_eq_true, if_true, if_false, reduceIte, ite_true, ite_false, true_and, and_true, reduceCtorEq, Int.toNat_zero, Int.toNat_one, Int.cast_ofNat_Int, Int.reduceLT, Int.reduceLE, Int.reduceNeg, Int.reduceToNat, Int.reducePow, Int.reduceMul, Int.reduceAdd, Int.reduceSub, decide_true, decide_false]
      refine ⟨p0, ite2P (fun a => ⟨p0, ite2P (fun b => ?_) (fun b => ?_)⟩) (fun a => ?_)⟩
      · exact ⟨BD.of p0 (by omega), BD.of p0 (by omega), yes (Int.dvd_of_emod_eq_zero a) (Int.dvd_of_emod_eq_zero b)⟩
      · exact no fun z => b (Int.emod_eq_zero_of_dvd z.2)
      · exact no fun z => a (Int.emod_eq_zero_of_dvd z.1)
    · rintro τ ⟨_, ⟨o, rfl⟩, inv⟩
      have hl : (rngC (u) (-1) (u - 1).toNat).length = (u - 1).toNat := by simp [rngC]
      rw [hl] at inv
      have g2 : ¬ 1 < Nat.gcd n.natAbs u.natAbs := fun z => inv _ (by omega) (Nat.gcd_dvd_left _ _) (Nat.gcd_dvd_right _ _)
      have e : Nat.gcd n.natAbs u.natAbs = 1 := by omega
      rw [rd_frac (by omega), e] at h
      simp (implicitDefEqProofs := false) (maxSteps := 3000000) only [startD, List.map_cons, List.map_nil, List.length_cons, List.length_nil, List.replicate, List.cons_append, List.nil_append, Nat.reduceAdd, Nat.reduceSub, Nat.zero_add, dSeq, dIfS, dOr, dAnd, dNot, dTst, dOp, dUn, dVar, dC, dB, dBK, dCons, dNil, dTup, dLst, dRet, dRetN, dNext, dNever, dAsg, dPar, dPar3, dIf, dAndV, dOrV, dNotV, dCh, dCt, cLast, cLink, tLast, tLink, dDrop, dFor, dBrk, dCnt, dOwn, dApp, dExt, dFree, gPutO, dIxO, dLend, dLendT, dLcF, gN, gTu, gCn, gNl, gP0, gP1, gII, gIIc, gAdd, gNeg, gIx, gEq, gNe, gIs, gIsNot, gIn, gNotIn, gSl, oNone, oSome, gMt, gIndex, cTuple, cList, cI1, cI2, cLen, cMax, cMin, cMaxT, cMinT, dAug, cAll, cAny, cRepr, cSqrt, cIsi, tyN, isNon, kb_tt, kb_ii, kb_ib, kb_bi, kb_bb, kb_it, kb_bt, kb_nt, kb_ni, kb_lt, kb_li, kb_ti, kb_si, kb_st, kb_ss, rd, dRgN, gEqF, dCallV, spOf, atD, ordD, dSq, dZip, zipD_map, ivD, dRg1, dRg2, dLc, dYes, dLcGo, dGen, dGenGo, wipeD, boolsOf, intsOf, maxL, minL, noL, noLs, Option.map_some, Option.bind_some, List.all_cons, List.all_nil, List.any_cons, List.any_nil, id_eq, List.set_cons_zero, List.set_cons_succ, List.getElem?_cons_zero, List.getElem?_cons_succ, List.getElem?_nil, List.getD_cons_zero, List.getD_cons_succ, decide_eq_true_eq, decide_eq_false_iff_not, Bool.not_eq_true', Bool.not_true, Bool.not_false, Bool.and_true, Bool.true_and, Bool.and_false, Bool.false_and, Bool.false_eq_true, if_true, if_false, reduceIte, ite_true, ite_false, true_and, and_true, reduceCtorEq, Int.toNat_zero, Int.toNat_one, Int.cast_ofNat_Int, Int.reduceLT, Int.reduceLE, Int.reduceNeg, Int.reduceToNat, Int.reducePow, Int.reduceMul, Int.reduceAdd, Int.reduceSub, decide_true, decide_false]
      simpa using h
def sp__law_ratio : SpD :=
  fun ds R => match ds with
  | [.pot, .bl true] => ∀ x : Rat, Mid x → R (rd x)
  | [.pot, .bl false] => ∀ x : Rat, Near x → R (rd x)
  | _ => False
set_option maxHeartbeats 0 in
theorem ok__law_ratio (T : Txt K mg) (D0 : Dfn K mg "_law_ratio" "_law_ratio" s__law_ratio ["_law_pot_here", "_law_is_log"] []) (C__law_draw : Cal P w K mg base tabs "_law_draw" 1 2 ["_law_pot_here", "_law_many"] [] sp__law_draw) (C__law_least : Cal P w K mg base tabs "_law_least" 1 2 ["_law_number", "_law_under"] [] sp__law_least) (C__law_pick : Cal P w K mg base tabs "_law_pick" 2 2 ["_law_pot_here", "_law_some"] [] sp__law_pick) : Cal P w K mg base tabs "_law_ratio" 3 2 ["_law_pot_here", "_law_is_log"] [] sp__law_ratio := by
  refine cal_of D0 sc__law_ratio fun f cdv A outer s H E p ht hg hk hr => ⟨_, (pdss_cons (pds_set (i := 2) sc__law_ratio.nd rfl (Or.inl rfl) (pd_bin opd_add pd_int (pdcC (C__law_draw.cal ht) hg hr (pda_cons (pd_var 0) (pda_cons pd_int pda_nil)))))
      (pdss_cons (pds_if (pdt_val (pd_var 1)) (pdss_cons (pds_set (i := 3) sc__law_ratio.nd rfl (Or.inl rfl) (pd_bin opd_div (pd_bin opd_add (pd_var 2) pd_int) pd_int))
      (pdss_one (pds_ret (pdcC (C__law_least.cal ht) hg hr (pda_cons (pdcC (C__law_pick.cal ht) hg hr (pda_cons (pd_var 0) (pda_cons (pd_lst (pda_cons (pd_var 3) (pda_cons (pd_var 2) (pda_cons (pd_bin opd_mul pd_int (pd_var 2)) (pda_cons (pd_bin opd_add (pd_var 3) (pdcC (C__law_draw.cal ht) hg hr (pda_cons (pd_var 0) (pda_cons (pd_bin opd_add (pd_bin opd_sub (pd_bin opd_mul pd_int (pd_var 2)) (pd_var 3)) pd_int) pda_nil)))) pda_nil))))) pda_nil))) (pda_cons (pd_var 2) pda_nil)))))) pdss_nil)
      (pdss_one (pds_ret (pdcC (C__law_least.cal ht) hg hr (pda_cons (pdcC (C__law_pick.cal ht) hg hr (pda_cons (pd_var 0) (pda_cons (pd_lst (pda_cons pd_int (pda_cons (pd_var 2) (pda_cons (pd_un und_neg (pd_var 2)) (pda_cons (pd_bin opd_sub (pdcC (C__law_draw.cal ht) hg hr (pda_cons (pd_var 0) (pda_cons (pd_bin opd_add (pd_bin opd_mul pd_int (pd_var 2)) pd_int) pda_nil))) (pd_var 2)) pda_nil))))) pda_nil))) (pda_cons (pd_var 2) pda_nil))))))), ?_⟩
  intro ds R hl h; unfold sp__law_ratio at h; split at h
  all_goals (try exact False.elim h)
  all_goals clear hl hg hr hk ht
  · simp (implicitDefEqProofs := false) (maxSteps := 3000000) only [startD, List.map_cons, List.map_nil, List.length_cons, List.length_nil, List.replicate, List.cons_append, List.nil_append, Nat.reduceAdd, Nat.reduceSub, Nat.zero_add, dSeq, dIfS, dOr, dAnd, dNot, dTst, dOp, dUn, dVar, dC, dB, dBK, dCons, dNil, dTup, dLst, dRet, dRetN, dNext, dNever, dAsg, dPar, dPar3, dIf, dAndV, dOrV, dNotV, dCh, dCt, cLast, cLink, tLast, tLink, dDrop, dFor, dBrk, dCnt, dOwn, dApp, dExt, dFree, gPutO, dIxO, dLend, dLendT, dLcF, gN, gTu, gCn, gNl, gP0, gP1, gII, gIIc, gAdd, gNeg, gIx, gEq, gNe, gIs, gIsNot, gIn, gNotIn, gSl, oNone, oSome, gMt, gIndex, cTuple, cList, cI1, cI2, cLen, cMax, cMin, cMaxT, cMinT, dAug, cAll, cAny, cRepr, cSqrt, cIsi, tyN, isNon, kb_tt, kb_ii, kb_ib, kb_bi, kb_bb, kb_it, kb_bt, kb_nt, kb_ni, kb_lt, kb_li, kb_ti, kb_si, kb_st, kb_ss, rd, dRgN, gEqF, dCallV, spOf, atD, ordD, dSq, dZip, zipD_map, ivD, dRg1, dRg2, dLc, dYes, dLcGo, dGen, dGenGo, wipeD, boolsOf, intsOf, maxL, minL, noL, noLs, Option.map_some, Option.bind_some, List.all_cons, List.all_nil, List.any_cons, List.any_nil, id_eq, List.set_cons_zero, List.set_cons_succ, List.getElem?_cons_zero, List.getElem?_cons_succ, List.getElem?_nil, List.getD_cons_zero, List.getD_cons_succ, decide_eq_true_eq, decide_eq_false_iff_not, Bool.not_eq_true', Bool.not_true, Bool.not_false, Bool.and_true, Bool.true_and, Bool.and_false, Bool.false_and, Bool.false_eq_true, if_true, if_false, reduceIte, ite_true, ite_false, true_and, and_true, reduceCtorEq, Int.toNat_zero, Int.toNat_one, Int.cast_ofNat_Int, Int.reduceLT, Int.reduceLE, Int.reduceNeg, Int.reduceToNat, Int.reducePow, Int.reduceMul, Int.reduceAdd, Int.reduceSub, decide_true, decide_false, sp__law_draw, sp__law_least, sp__law_pick]
    intro r hr0 hr1
    refine ⟨BD.of (by decide) (by decide), .left (by decide) (by decide), .left (by decide) (by decide), ⟨by omega, by omega⟩, fun s hs0 hs1 => ⟨⟨by decide, by decide⟩, fun x hx => ?_⟩⟩
    simp only [List.mem_cons, List.not_mem_nil, or_false] at hx
    rcases hx with rfl | rfl | rfl | rfl <;> exact ⟨_, _, rfl, by omega, by omega, by omega, h _ (mid_of (by omega) (by omega) (by omega) (by omega))⟩
  · simp (implicitDefEqProofs := false) (maxSteps := 3000000) only [startD, List.map_cons, List.map_nil, List.length_cons, List.length_nil, List.replicate, List.cons_append, List.nil_append, Nat.reduceAdd, Nat.reduceSub, Nat.zero_add, dSeq, dIfS, dOr, dAnd, dNot, dTst, dOp, dUn, dVar, dC, dB, dBK, dCons, dNil, dTup, dLst, dRet, dRetN, dNext, dNever, dAsg, dPar, dPar3, dIf, dAndV, dOrV, dNotV, dCh, dCt, cLast, cLink, tLast, tLink, dDrop, dFor, dBrk, dCnt, dOwn, dApp, dExt, dFree, gPutO, dIxO, dLend, dLendT, dLcF, gN, gTu, gCn, gNl, gP0, gP1, gII, gIIc, gAdd, gNeg, gIx, gEq, gNe, gIs, gIsNot, gIn, gNotIn, gSl, oNone, oSome, gMt, gIndex, cTuple, cList, cI1, cI2, cLen, cMax, cMin, cMaxT, cMinT, dAug, cAll, cAny, cRepr, cSqrt, cIsi, tyN, isNon, kb_tt, kb_ii, kb_ib, kb_bi, kb_bb, kb_it, kb_bt, kb_nt, kb_ni, kb_lt, kb_li, kb_ti, kb_si, kb_st, kb_ss, rd, dRgN, gEqF, dCallV, spOf, atD, ordD, dSq, dZip, zipD_map, ivD, dRg1, dRg2, dLc, dYes, dLcGo, dGen, dGenGo, wipeD, boolsOf, intsOf, maxL, minL, noL, noLs, Option.map_some, Option.bind_some, List.all_cons, List.all_nil, List.any_cons, List.any_nil, id_eq, List.set_cons_zero, List.set_cons_succ, List.getElem?_cons_zero, List.getElem?_cons_succ, List.getElem?_nil, List.getD_cons_zero, List.getD_cons_succ, decide_eq_true_eq, decide_eq_false_iff_not, Bool.not_eq_true', Bool.not_true, Bool.not_false, Bool.and_true, Bool.true_and, Bool.and_false, Bool.false_and, Bool.false_eq_true, if_true, if_false, reduceIte, ite_true, ite_false, true_and, and_true, reduceCtorEq, Int.toNat_zero, Int.toNat_one, Int.cast_ofNat_Int, Int.reduceLT, Int.reduceLE, Int.reduceNeg, Int.reduceToNat, Int.reducePow, Int.reduceMul, Int.reduceAdd, Int.reduceSub, decide_true, decide_false, sp__law_draw, sp__law_least, sp__law_pick]
    intro r hr0 hr1
    refine ⟨.left (by decide) (by decide), ⟨by omega, by omega⟩, fun s hs0 hs1 => ⟨⟨by decide, by decide⟩, fun x hx => ?_⟩⟩
    simp only [List.mem_cons, List.not_mem_nil, or_false] at hx
    rcases hx with rfl | rfl | rfl | rfl <;> exact ⟨_, _, rfl, by omega, by omega, by omega, h _ (near_of (by omega) (by omega) (by omega) (by omega))⟩
def sp__law_right : SpD :=
  fun ds R => match ds with
  | [.pot] => R (.bl true)
  | _ => False
set_option maxHeartbeats 0 in
theorem ok__law_right (T : Txt K mg) (D0 : Dfn K mg "_law_right" "_law_right" s__law_right ["_law_pot_here"] []) (hF : tabs.fns = mg) (FA : ∀ x ∈ (["exp_between", "sine_between", "cosine_between", "log_between"] : List Str), FnAt K tabs x) (C__law_log : Cal P w K mg base tabs "_law_log" 3 2 ["_law_ratio_here", "_law_many"] [] sp__law_log) (C_log_between : Cal P w K mg base tabs "log_between" 6 2 ["ratio", "many"] [] sp_log_between) (C__law_cosine : Cal P w K mg base tabs "_law_cosine" 3 2 ["_law_ratio_here", "_law_many"] [] sp__law_cosine) (C_cosine_between : Cal P w K mg base tabs "cosine_between" 7 2 ["ratio", "many"] [] sp_cosine_between) (C__law_sine : Cal P w K mg base tabs "_law_sine" 3 2 ["_law_ratio_here", "_law_many"] [] sp__law_sine) (C_sine_between : Cal P w K mg base tabs "sine_between" 7 2 ["ratio", "many"] [(["many", "ratio"], 0, [1, 0])] sp_sine_between) (C__law_exp : Cal P w K mg base tabs "_law_exp" 3 2 ["_law_ratio_here", "_law_many"] [] sp__law_exp) (C_exp_between : Cal P w K mg base tabs "exp_between" 6 2 ["ratio", "many"] [] sp_exp_between) (C__law_draw : Cal P w K mg base tabs "_law_draw" 1 2 ["_law_pot_here", "_law_many"] [] sp__law_draw) (C__law_ratio : Cal P w K mg base tabs "_law_ratio" 3 2 ["_law_pot_here", "_law_is_log"] [] sp__law_ratio) (C__law_told_right : Cal P w K mg base tabs "_law_told_right" 2 2 ["_law_told", "_law_own"] [] sp__law_told_right) (C__law_do_meet : Cal P w K mg base tabs "_law_do_meet" 2 2 ["_law_one", "_law_other"] [] sp__law_do_meet) (C__law_product : Cal P w K mg base tabs "_law_product" 2 2 ["_law_one", "_law_other"] [] sp__law_product) (C__law_more : Cal P w K mg base tabs "_law_more" 1 2 ["_law_one", "_law_other"] [] sp__law_more) : Cal P w K mg base tabs "_law_right" 8 1 ["_law_pot_here"] [] sp__law_right := by
  refine cal_of D0 sc__law_right fun f cdv A outer s H E p ht hg hk hr => ⟨_, (pdss_cons (pds_for rfl PassesOwn.never (pdi_sq (pd_lst (pda_cons (pd_tup (pda_cons (pd_fnC (C_exp_between.cal ht) (by rw [ht]; exact hF)) (pda_cons (pd_fnC (C__law_exp.cal ht) (by rw [ht]; exact hF)) pda_nil))) (pda_cons (pd_tup (pda_cons (pd_fnC (C_sine_between.cal ht) (by rw [ht]; exact hF)) (pda_cons (pd_fnC (C__law_sine.cal ht) (by rw [ht]; exact hF)) pda_nil))) (pda_cons (pd_tup (pda_cons (pd_fnC (C_cosine_between.cal ht) (by rw [ht]; exact hF)) (pda_cons (pd_fnC (C__law_cosine.cal ht) (by rw [ht]; exact hF)) pda_nil))) (pda_cons (pd_tup (pda_cons (pd_fnC (C_log_between.cal ht) (by rw [ht]; exact hF)) (pda_cons (pd_fnC (C__law_log.cal ht) (by rw [ht]; exact hF)) pda_nil))) pda_nil)))))) (pdg_tup (n := 2) rfl (pdgs_cons (pdg_name (i := 1) sc__law_right.nd rfl (Or.inl rfl)) (pdgs_cons (pdg_name (i := 2) sc__law_right.nd rfl (Or.inl rfl)) pdgs_nil))) (pdss_cons (pds_par (i := 3) (j := 4) rfl sc__law_right.nd rfl rfl (by decide) rfl rfl (pda_cons (pdcC (C__law_ratio.cal ht) hg hr (pda_cons (pd_var 0) (pda_cons (pd_cmp (opd_eqF (by rw [ht]; exact FA) hr.units) (pd_var 1) (pd_fnC (C_log_between.cal ht) (by rw [ht]; exact hF))) pda_nil))) (pda_cons (pd_bin opd_add pd_int (pdcC (C__law_draw.cal ht) hg hr (pda_cons (pd_var 0) (pda_cons pd_int pda_nil)))) pda_nil)) (by rfl))
      (pdss_cons (pds_par (i := 5) (j := 6) rfl sc__law_right.nd rfl rfl (by decide) rfl rfl (pda_cons (pd_callV (i := 1) (CalT.cons (C_exp_between.cal ht) (by decide) (CalT.cons (C_sine_between.cal ht) (by decide) (CalT.cons (C_cosine_between.cal ht) (by decide) (CalT.cons (C_log_between.cal ht) (by decide) CalT.nil)))) (by rw [ht]; exact hF) hg hr (pda_cons (pd_var 3) (pda_cons (pd_var 4) pda_nil))) (pda_cons (pd_callV (i := 1) (CalT.cons (C_exp_between.cal ht) (by decide) (CalT.cons (C_sine_between.cal ht) (by decide) (CalT.cons (C_cosine_between.cal ht) (by decide) (CalT.cons (C_log_between.cal ht) (by decide) CalT.nil)))) (by rw [ht]; exact hF) hg hr (pda_cons (pd_var 3) (pda_cons (pd_bin opd_add (pd_var 4) pd_int) pda_nil))) pda_nil)) (by rfl))
      (pdss_cons (pds_if (pdw_t (pdw_or (pdt_not (pdt_val (pdcC (C__law_told_right.cal ht) hg hr (pda_cons (pd_var 5) (pda_cons (pd_callV (i := 2) (CalT.cons (C__law_exp.cal ht) (by decide) (CalT.cons (C__law_sine.cal ht) (by decide) (CalT.cons (C__law_cosine.cal ht) (by decide) (CalT.cons (C__law_log.cal ht) (by decide) CalT.nil)))) (by rw [ht]; exact hF) hg hr (pda_cons (pd_var 3) (pda_cons (pd_var 4) pda_nil))) pda_nil))))) (pdw_or1 (pdt_not (pdt_val (pdcC (C__law_told_right.cal ht) hg hr (pda_cons (pd_var 6) (pda_cons (pd_callV (i := 2) (CalT.cons (C__law_exp.cal ht) (by decide) (CalT.cons (C__law_sine.cal ht) (by decide) (CalT.cons (C__law_cosine.cal ht) (by decide) (CalT.cons (C__law_log.cal ht) (by decide) CalT.nil)))) (by rw [ht]; exact hF) hg hr (pda_cons (pd_var 3) (pda_cons (pd_bin opd_add (pd_var 4) pd_int) pda_nil))) pda_nil)))))))) (pdss_one (pds_ret pd_bl)) pdss_nil)
      (pdss_one (pds_if (pdt_not (pdt_val (pdcC (C__law_do_meet.cal ht) hg hr (pda_cons (pd_var 5) (pda_cons (pd_var 6) pda_nil))))) (pdss_one (pds_ret pd_bl)) pdss_nil))))))
      (pdss_cons (pds_if (pdt_cmp (opd_ne hr.units) (pdcCK0 (ks := ["many", "ratio"]) (perm := [1, 0]) (C_sine_between.cal ht) hg hr (by decide) (pdk_cons pd_int (pdk_cons (pd_tup (pda_cons pd_int (pda_cons pd_int pda_nil))) pdk_nil))) (pdcC (C_sine_between.cal ht) hg hr (pda_cons (pd_tup (pda_cons pd_int (pda_cons pd_int pda_nil))) (pda_cons pd_int pda_nil)))) (pdss_one (pds_ret pd_bl)) pdss_nil)
      (pdss_cons (pds_par3 (i := 3) (j := 4) (l := 7) rfl sc__law_right.nd rfl rfl rfl (by decide) (by decide) (by decide) rfl rfl rfl (pda_cons (pdcC (C__law_ratio.cal ht) hg hr (pda_cons (pd_var 0) (pda_cons pd_bl pda_nil))) (pda_cons (pd_bin opd_add pd_int (pdcC (C__law_draw.cal ht) hg hr (pda_cons (pd_var 0) (pda_cons pd_int pda_nil)))) (pda_cons (pd_tup (pda_cons (pd_tup (pda_cons pd_int (pda_cons pd_int pda_nil))) (pda_cons (pd_tup (pda_cons pd_int (pda_cons pd_int pda_nil))) pda_nil))) pda_nil))) (by rfl))
      (pdss_cons (pds_set (i := 8) sc__law_right.nd rfl (Or.inl rfl) (pdcC (C__law_product.cal ht) hg hr (pda_cons (pdcC (C_exp_between.cal ht) hg hr (pda_cons (pd_var 3) (pda_cons (pd_var 4) pda_nil))) (pda_cons (pdcC (C_exp_between.cal ht) hg hr (pda_cons (pd_tup (pda_cons (pd_un und_neg (pd_ix (pd_var 3) pd_int)) (pda_cons (pd_ix (pd_var 3) pd_int) pda_nil))) (pda_cons (pd_var 4) pda_nil))) pda_nil))))
      (pdss_cons (pds_par (i := 9) (j := 10) rfl sc__law_right.nd rfl rfl (by decide) rfl rfl (pda_cons (pdcC (C_sine_between.cal ht) hg hr (pda_cons (pd_var 3) (pda_cons (pd_var 4) pda_nil))) (pda_cons (pdcC (C_cosine_between.cal ht) hg hr (pda_cons (pd_var 3) (pda_cons (pd_var 4) pda_nil))) pda_nil)) (by rfl))
      (pdss_cons (pds_par (i := 11) (j := 12) rfl sc__law_right.nd rfl rfl (by decide) rfl rfl (pda_cons (pdcC (C__law_product.cal ht) hg hr (pda_cons (pd_var 9) (pda_cons (pd_var 9) pda_nil))) (pda_cons (pdcC (C__law_product.cal ht) hg hr (pda_cons (pd_var 10) (pda_cons (pd_var 10) pda_nil))) pda_nil)) (by rfl))
      (pdss_cons (pds_set (i := 13) sc__law_right.nd rfl (Or.inl rfl) (pd_tup (pda_cons (pdcC (C__law_more.cal ht) hg hr (pda_cons (pd_ix (pd_var 11) pd_int) (pda_cons (pd_ix (pd_var 12) pd_int) pda_nil))) (pda_cons (pdcC (C__law_more.cal ht) hg hr (pda_cons (pd_ix (pd_var 11) pd_int) (pda_cons (pd_ix (pd_var 12) pd_int) pda_nil))) pda_nil))))
      (pdss_one (pds_ret (pd_and (pdcC (C__law_do_meet.cal ht) hg hr (pda_cons (pd_var 8) (pda_cons (pd_var 7) pda_nil))) (pd_one (pdcC (C__law_do_meet.cal ht) hg hr (pda_cons (pd_var 13) (pda_cons (pd_var 7) pda_nil)))))))))))))), ?_⟩
  intro ds R hl h; unfold sp__law_right at h; split at h
  all_goals (try exact False.elim h)
  all_goals clear hl hg hr hk ht
  simp (implicitDefEqProofs := false) (maxSteps := 3000000) only [startD, List.map_cons, List.map_nil, List.length_cons, List.length_nil, List.replicate, List.cons_append, List.nil_append, Nat.reduceAdd, Nat.reduceSub, Nat.zero_add, dSeq, dIfS, dOr, dAnd, dNot, dTst, dOp, dUn, dVar, dC, dB, dBK, dCons, dNil, dTup, dLst, dRet, dRetN, dNext, dNever, dAsg, dPar, dPar3, dIf, dAndV, dOrV, dNotV, dCh, dCt, cLast, cLink, tLast, tLink, dDrop, dFor, dBrk, dCnt, dOwn, dApp, dExt, dFree, gPutO, dIxO, dLend, dLendT, dLcF, gN, gTu, gCn, gNl, gP0, gP1, gII, gIIc, gAdd, gNeg, gIx, gEq, gNe, gIs, gIsNot, gIn, gNotIn, gSl, oNone, oSome, gMt, gIndex, cTuple, cList, cI1, cI2, cLen, cMax, cMin, cMaxT, cMinT, dAug, cAll, cAny, cRepr, cSqrt, cIsi, tyN, isNon, kb_tt, kb_ii, kb_ib, kb_bi, kb_bb, kb_it, kb_bt, kb_nt, kb_ni, kb_lt, kb_li, kb_ti, kb_si, kb_st, kb_ss, rd, dRgN, gEqF, dCallV, spOf, atD, ordD, dSq, dZip, zipD_map, ivD, dRg1, dRg2, dLc, dYes, dLcGo, dGen, dGenGo, wipeD, boolsOf, intsOf, maxL, minL, noL, noLs, Option.map_some, Option.bind_some, List.all_cons, List.all_nil, List.any_cons, List.any_nil, id_eq, List.set_cons_zero, List.set_cons_succ, List.getElem?_cons_zero, List.getElem?_cons_succ, List.getElem?_nil, List.getD_cons_zero, List.getD_cons_succ, decide_eq_true_eq, decide_eq_false_iff_not, Bool.not_eq_true', Bool.not_true, Bool.not_false, Bool.and_true, Bool.true_and, Bool.and_false, Bool.false_and, Bool.false_eq_true, if_true, if_false, reduceIte, ite_true, ite_false, true_and, and_true, reduceCtorEq, Int.toNat_zero, Int.toNat_one, Int.cast_ofNat_Int, Int.reduceLT, Int.reduceLE, Int.reduceNeg, Int.reduceToNat, Int.reducePow, Int.reduceMul, Int.reduceAdd, Int.reduceSub, decide_true, decide_false, sp__law_log, sp_log_between, sp__law_cosine, sp_cosine_between, sp__law_sine, sp_sine_between, sp__law_exp, sp_exp_between, sp__law_draw, sp__law_ratio, sp__law_told_right, sp__law_do_meet, sp__law_product, sp__law_more]
  refine forAll (fun q : Str × Str => D.tup [.fn q.1, .fn q.2]) [("exp_between", "_law_exp"), ("sine_between", "_law_sine"), ("cosine_between", "_law_cosine"), ("log_between", "_law_log")] (fun τ => ∃ o1 o2 o3 o4 o5 o6 o7 o8 o9 o10 o11 o12 o13, τ = [some .pot, o1, o2, o3, o4, o5, o6, o7, o8, o9, o10, o11, o12, o13]) _ ⟨_, _, _, _, _, _, _, _, _, _, _, _, _, rfl⟩ ?_ ?_
  · rintro k q τ hq hk ⟨o1, o2, o3, o4, o5, o6, o7, o8, o9, o10, o11, o12, o13, rfl⟩
    simp only [List.mem_cons, List.not_mem_nil, or_false] at hq
    rcases hq with rfl | rfl | rfl | rfl
    · simp (implicitDefEqProofs := false) (maxSteps := 3000000) only [startD, List.map_cons, List.map_nil, List.length_cons, List.length_nil, List.replicate, List.cons_append, List.nil_append, Nat.reduceAdd, Nat.reduceSub, Nat.zero_add, dSeq, dIfS, dOr, dAnd, dNot, dTst, dOp, dUn, dVar, dC, dB, dBK, dCons, dNil, dTup, dLst, dRet, dRetN, dNext, dNever, dAsg, dPar, dPar3, dIf, dAndV, dOrV, dNotV, dCh, dCt, cLast, cLink, tLast, tLink, dDrop, dFor, dBrk, dCnt, dOwn, dApp, dExt, dFree, gPutO, dIxO, dLend, dLendT, dLcF, gN, gTu, gCn, gNl, gP0, gP1, gII, gIIc, gAdd, gNeg, gIx, gEq, gNe, gIs, gIsNot, gIn, gNotIn, gSl, oNone, oSome, gMt, gIndex, cTuple, cList, cI1, cI2, cLen, cMax, cMin, cMaxT, cMinT, dAug, cAll, cAny, cRepr, cSqrt, cIsi, tyN, isNon, kb_tt, kb_ii, kb_ib, kb_bi, kb_bb, kb_it, kb_bt, kb_nt, kb_ni, kb_lt, kb_li, kb_ti, kb_si, kb_st, kb_ss, rd, dRgN, gEqF, dCallV, spOf, atD, ordD, dSq, dZip, zipD_map, ivD, dRg1, dRg2, dLc, dYes, dLcGo, dGen, dGenGo, wipeD, boolsOf, intsOf, maxL, minL, noL, noLs, Option.map_some, Option.bind_some, List.all_cons, List.all_nil, List.any_cons, List.any_nil, id_eq, List.set_cons_zero, List.set_cons_succ, List.getElem?_cons_zero, List.getElem?_cons_succ, List.getElem?_nil, List.getD_cons_zero, List.getD_cons_succ, decide_eq_true_eq, decide_eq_false_iff_not, Bool.not_eq_true', Bool.not_true, Bool.not_false, Bool.and_true, Bool.true_and, Bool.and_false, Bool.false_and, Bool.false_eq_true, if_true, if_false, reduceIte, ite_true, ite_false, true_and, and_true, reduceCtorEq, Int.toNat_zero, Int.toNat_one, Int.cast_ofNat_Int, Int.reduceLT, Int.reduceLE, Int.reduceNeg, Int.reduceToNat, Int.reducePow, Int.reduceMul, Int.reduceAdd, Int.reduceSub, decide_true, decide_false, sp__law_log, sp_log_between, sp__law_cosine, sp_cosine_between, sp__law_sine, sp_sine_between, sp__law_exp, sp_exp_between, sp__law_draw, sp__law_ratio, sp__law_told_right, sp__law_do_meet, sp__law_product, sp__law_more, ne_exp_between_sine_between, ne_exp_between_cosine_between, ne_exp_between_log_between, ne_sine_between_exp_between, ne_sine_between_cosine_between, ne_sine_between_log_between, ne_cosine_between_exp_between, ne_cosine_between_sine_between, ne_cosine_between_log_between, ne_log_between_exp_between, ne_log_between_sine_between, ne_log_between_cosine_between, ne__law_exp__law_sine, ne__law_exp__law_cosine, ne__law_exp__law_log, ne__law_sine__law_exp, ne__law_sine__law_cosine, ne__law_sine__law_log, ne__law_cosine__law_exp, ne__law_cosine__law_sine, ne__law_cosine__law_log, ne__law_log__law_exp, ne__law_log__law_sine, ne__law_log__law_cosine, s_refl, List.mem_cons, List.not_mem_nil, or_false, false_or, or_true, true_or, implies_true]
      intro x hx r hr0 hr1
      obtain ⟨n1, sz⟩ := near_num hx
      obtain ⟨m, rfl⟩ : ∃ m : Nat, r = (m : Int) := ⟨r.toNat, by omega⟩
      have c1 : (1 + (m : Int)) = ((m + 1 : Nat) : Int) := by omega
      have c2 : (((m + 1 : Nat) : Int) + 1) = ((m + 1 + 1 : Nat) : Int) := by omega
      rw [c1, c2]
      have m1 : m + 1 ≤ 12 := by omega
      have m2 : m + 1 + 1 ≤ 12 := by omega
      obtain ⟨e1, e2⟩ := exp_ends sz m1
      obtain ⟨f1, f2⟩ := exp_ends sz m2
      obtain ⟨g1, g2⟩ := exp_meet x (m + 1)
      refine ⟨x, ((m + 1 : Nat) : Int), rfl, sz, n1, by omega, by omega, x, ((m + 1 + 1 : Nat) : Int), rfl, sz, n1, by omega, by omega, (x.num, (x.den : Int)), m + 1, rfl, pr_rd sz, m1, ?_⟩
      refine ⟨_, _, _, _, _, _, 9000, rfl, exp_own sz m1, by decide, e1.mono (by omega), e2.mono (by omega), rfl, rfl, ?_⟩
      refine ⟨(x.num, (x.den : Int)), m + 1 + 1, rfl, pr_rd sz, m2, ?_⟩
      refine ⟨_, _, _, _, _, _, 9000, rfl, exp_own sz m2, by decide, f1.mono (by omega), f2.mono (by omega), rfl, rfl, ?_⟩
      refine ⟨(_, _), (_, _), (_, _), (_, _), rfl, prd e1 20000 (by omega), prd e2 20000 (by omega), prd f1 20000 (by omega), prd f2 20000 (by omega), ?_, ?_, ?_⟩
      · rw [vl_rd, vl_rd]
        exact g1
      · rw [vl_rd, vl_rd]
        exact g2
      · exact hk _ ⟨_, _, _, _, _, _, _, _, _, _, _, _, _, rfl⟩
    · simp (implicitDefEqProofs := false) (maxSteps := 3000000) only [startD, List.map_cons, List.map_nil, List.length_cons, List.length_nil, List.replicate, List.cons_append, List.nil_append, Nat.reduceAdd, Nat.reduceSub, Nat.zero_add, dSeq, dIfS, dOr, dAnd, dNot, dTst, dOp, dUn, dVar, dC, dB, dBK, dCons, dNil, dTup, dLst, dRet, dRetN, dNext, dNever, dAsg, dPar, dPar3, dIf, dAndV, dOrV, dNotV, dCh, dCt, cLast, cLink, tLast, tLink, dDrop, dFor, dBrk, dCnt, dOwn, dApp, dExt, dFree, gPutO, dIxO, dLend, dLendT, dLcF, gN, gTu, gCn, gNl, gP0, gP1, gII, gIIc, gAdd, gNeg, gIx, gEq, gNe, gIs, gIsNot, gIn, gNotIn, gSl, oNone, oSome, gMt, gIndex, cTuple, cList, cI1, cI2, cLen, cMax, cMin, cMaxT, cMinT, dAug, cAll, cAny, cRepr, cSqrt, cIsi, tyN, isNon, kb_tt, kb_ii, kb_ib, kb_bi, kb_bb, kb_it, kb_bt, kb_nt, kb_ni, kb_lt, kb_li, kb_ti, kb_si, kb_st, kb_ss, rd, dRgN, gEqF, dCallV, spOf, atD, ordD, dSq, dZip, zipD_map, ivD, dRg1, dRg2, dLc, dYes, dLcGo, dGen, dGenGo, wipeD, boolsOf, intsOf, maxL, minL, noL, noLs, Option.map_some, Option.bind_some, List.all_cons, List.all_nil, List.any_cons, List.any_nil, id_eq, List.set_cons_zero, List.set_cons_succ, List.getElem?_cons_zero, List.getElem?_cons_succ, List.getElem?_nil, List.getD_cons_zero, List.getD_cons_succ, decide_eq_true_eq, decide_eq_false_iff_not, Bool.not_eq_true', Bool.not_true, Bool.not_false, Bool.and_true, Bool.true_and, Bool.and_false, Bool.false_and, Bool.false_eq_true, if_true, if_false, reduceIte, ite_true, ite_false, true_and, and_true, reduceCtorEq, Int.toNat_zero, Int.toNat_one, Int.cast_ofNat_Int, Int.reduceLT, Int.reduceLE, Int.reduceNeg, Int.reduceToNat, Int.reducePow, Int.reduceMul, Int.reduceAdd, Int.reduceSub, decide_true, decide_false, sp__law_log, sp_log_between, sp__law_cosine, sp_cosine_between, sp__law_sine, sp_sine_between, sp__law_exp, sp_exp_between, sp__law_draw, sp__law_ratio, sp__law_told_right, sp__law_do_meet, sp__law_product, sp__law_more, ne_exp_between_sine_between, ne_exp_between_cosine_between, ne_exp_between_log_between, ne_sine_between_exp_between, ne_sine_between_cosine_between, ne_sine_between_log_between, ne_cosine_between_exp_between, ne_cosine_between_sine_between, ne_cosine_between_log_between, ne_log_between_exp_between, ne_log_between_sine_between, ne_log_between_cosine_between, ne__law_exp__law_sine, ne__law_exp__law_cosine, ne__law_exp__law_log, ne__law_sine__law_exp, ne__law_sine__law_cosine, ne__law_sine__law_log, ne__law_cosine__law_exp, ne__law_cosine__law_sine, ne__law_cosine__law_log, ne__law_log__law_exp, ne__law_log__law_sine, ne__law_log__law_cosine, s_refl, List.mem_cons, List.not_mem_nil, or_false, false_or, or_true, true_or, implies_true]
      intro x hx r hr0 hr1
      obtain ⟨n1, sz⟩ := near_num hx
      obtain ⟨m, rfl⟩ : ∃ m : Nat, r = (m : Int) := ⟨r.toNat, by omega⟩
      have c1 : (1 + (m : Int)) = ((m + 1 : Nat) : Int) := by omega
      have c2 : (((m + 1 : Nat) : Int) + 1) = ((m + 1 + 1 : Nat) : Int) := by omega
      rw [c1, c2]
      have m1 : m + 1 ≤ 12 := by omega
      have m2 : m + 1 + 1 ≤ 12 := by omega
      obtain ⟨e1, e2⟩ := circ_ends (b := 1) sz sz (by decide) (by decide) m1
      obtain ⟨f1, f2⟩ := circ_ends (b := 1) sz sz (by decide) (by decide) m2
      obtain ⟨g1, g2⟩ := circ_meet x x 1 (m + 1)
      refine ⟨x, ((m + 1 : Nat) : Int), rfl, sz, n1, by omega, by omega, x, ((m + 1 + 1 : Nat) : Int), rfl, sz, n1, by omega, by omega, (x.num, (x.den : Int)), m + 1, rfl, pr_rd sz, m1, ?_⟩
      refine ⟨_, _, _, _, _, _, 9000, rfl, sine_own sz m1, by decide, e1.mono (by omega), e2.mono (by omega), rfl, rfl, ?_⟩
      refine ⟨(x.num, (x.den : Int)), m + 1 + 1, rfl, pr_rd sz, m2, ?_⟩
      refine ⟨_, _, _, _, _, _, 9000, rfl, sine_own sz m2, by decide, f1.mono (by omega), f2.mono (by omega), rfl, rfl, ?_⟩
      refine ⟨(_, _), (_, _), (_, _), (_, _), rfl, prd e1 20000 (by omega), prd e2 20000 (by omega), prd f1 20000 (by omega), prd f2 20000 (by omega), ?_, ?_, ?_⟩
      · rw [vl_rd, vl_rd]
        exact g1
      · rw [vl_rd, vl_rd]
        exact g2
      · exact hk _ ⟨_, _, _, _, _, _, _, _, _, _, _, _, _, rfl⟩
    · simp (implicitDefEqProofs := false) (maxSteps := 3000000) only [startD, List.map_cons, List.map_nil, List.length_cons, List.length_nil, List.replicate, List.cons_append, List.nil_append, Nat.reduceAdd, Nat.reduceSub, Nat.zero_add, dSeq, dIfS, dOr, dAnd, dNot, dTst, dOp, dUn, dVar, dC, dB, dBK, dCons, dNil, dTup, dLst, dRet, dRetN, dNext, dNever, dAsg, dPar, dPar3, dIf, dAndV, dOrV, dNotV, dCh, dCt, cLast, cLink, tLast, tLink, dDrop, dFor, dBrk, dCnt, dOwn, dApp, dExt, dFree, gPutO, dIxO, dLend, dLendT, dLcF, gN, gTu, gCn, gNl, gP0, gP1, gII, gIIc, gAdd, gNeg, gIx, gEq, gNe, gIs, gIsNot, gIn, gNotIn, gSl, oNone, oSome, gMt, gIndex, cTuple, cList, cI1, cI2, cLen, cMax, cMin, cMaxT, cMinT, dAug, cAll, cAny, cRepr, cSqrt, cIsi, tyN, isNon, kb_tt, kb_ii, kb_ib, kb_bi, kb_bb, kb_it, kb_bt, kb_nt, kb_ni, kb_lt, kb_li, kb_ti, kb_si, kb_st, kb_ss, rd, dRgN, gEqF, dCallV, spOf, atD, ordD, dSq, dZip, zipD_map, ivD, dRg1, dRg2, dLc, dYes, dLcGo, dGen, dGenGo, wipeD, boolsOf, intsOf, maxL, minL, noL, noLs, Option.map_some, Option.bind_some, List.all_cons, List.all_nil, List.any_cons, List.any_nil, id_eq, List.set_cons_zero, List.set_cons_succ, List.getElem?_cons_zero, List.getElem?_cons_succ, List.getElem?_nil, List.getD_cons_zero, List.getD_cons_succ, decide_eq_true_eq, decide_eq_false_iff_not, Bool.not_eq_true', Bool.not_true, Bool.not_false, Bool.and_true, Bool.true_and, Bool.and_false, Bool.false_and, Bool.false_eq_true, if_true, if_false, reduceIte, ite_true, ite_false, true_and, and_true, reduceCtorEq, Int.toNat_zero, Int.toNat_one, Int.cast_ofNat_Int, Int.reduceLT, Int.reduceLE, Int.reduceNeg, Int.reduceToNat, Int.reducePow, Int.reduceMul, Int.reduceAdd, Int.reduceSub, decide_true, decide_false, sp__law_log, sp_log_between, sp__law_cosine, sp_cosine_between, sp__law_sine, sp_sine_between, sp__law_exp, sp_exp_between, sp__law_draw, sp__law_ratio, sp__law_told_right, sp__law_do_meet, sp__law_product, sp__law_more, ne_exp_between_sine_between, ne_exp_between_cosine_between, ne_exp_between_log_between, ne_sine_between_exp_between, ne_sine_between_cosine_between, ne_sine_between_log_between, ne_cosine_between_exp_between, ne_cosine_between_sine_between, ne_cosine_between_log_between, ne_log_between_exp_between, ne_log_between_sine_between, ne_log_between_cosine_between, ne__law_exp__law_sine, ne__law_exp__law_cosine, ne__law_exp__law_log, ne__law_sine__law_exp, ne__law_sine__law_cosine, ne__law_sine__law_log, ne__law_cosine__law_exp, ne__law_cosine__law_sine, ne__law_cosine__law_log, ne__law_log__law_exp, ne__law_log__law_sine, ne__law_log__law_cosine, s_refl, List.mem_cons, List.not_mem_nil, or_false, false_or, or_true, true_or, implies_true]
      intro x hx r hr0 hr1
      obtain ⟨n1, sz⟩ := near_num hx
      obtain ⟨m, rfl⟩ : ∃ m : Nat, r = (m : Int) := ⟨r.toNat, by omega⟩
      have c1 : (1 + (m : Int)) = ((m + 1 : Nat) : Int) := by omega
      have c2 : (((m + 1 : Nat) : Int) + 1) = ((m + 1 + 1 : Nat) : Int) := by omega
      rw [c1, c2]
      have m1 : m + 1 ≤ 12 := by omega
      have m2 : m + 1 + 1 ≤ 12 := by omega
      obtain ⟨e1, e2⟩ := circ_ends (b := 0) sz (Sz.one.mono (by decide)) (by decide) (by decide) m1
      obtain ⟨f1, f2⟩ := circ_ends (b := 0) sz (Sz.one.mono (by decide)) (by decide) (by decide) m2
      obtain ⟨g1, g2⟩ := circ_meet x 1 0 (m + 1)
      refine ⟨x, ((m + 1 : Nat) : Int), rfl, sz, n1, by omega, by omega, x, ((m + 1 + 1 : Nat) : Int), rfl, sz, n1, by omega, by omega, (x.num, (x.den : Int)), m + 1, rfl, pr_rd sz, m1, ?_⟩
      refine ⟨_, _, _, _, _, _, 9000, rfl, cos_own sz m1, by decide, e1.mono (by omega), e2.mono (by omega), rfl, rfl, ?_⟩
      refine ⟨(x.num, (x.den : Int)), m + 1 + 1, rfl, pr_rd sz, m2, ?_⟩
      refine ⟨_, _, _, _, _, _, 9000, rfl, cos_own sz m2, by decide, f1.mono (by omega), f2.mono (by omega), rfl, rfl, ?_⟩
      refine ⟨(_, _), (_, _), (_, _), (_, _), rfl, prd e1 20000 (by omega), prd e2 20000 (by omega), prd f1 20000 (by omega), prd f2 20000 (by omega), ?_, ?_, ?_⟩
      · rw [vl_rd, vl_rd]
        exact g1
      · rw [vl_rd, vl_rd]
        exact g2
      · exact hk _ ⟨_, _, _, _, _, _, _, _, _, _, _, _, _, rfl⟩
    · simp (implicitDefEqProofs := false) (maxSteps := 3000000) only [startD, List.map_cons, List.map_nil, List.length_cons, List.length_nil, List.replicate, List.cons_append, List.nil_append, Nat.reduceAdd, Nat.reduceSub, Nat.zero_add, dSeq, dIfS, dOr, dAnd, dNot, dTst, dOp, dUn, dVar, dC, dB, dBK, dCons, dNil, dTup, dLst, dRet, dRetN, dNext, dNever, dAsg, dPar, dPar3, dIf, dAndV, dOrV, dNotV, dCh, dCt, cLast, cLink, tLast, tLink, dDrop, dFor, dBrk, dCnt, dOwn, dApp, dExt, dFree, gPutO, dIxO, dLend, dLendT, dLcF, gN, gTu, gCn, gNl, gP0, gP1, gII, gIIc, gAdd, gNeg, gIx, gEq, gNe, gIs, gIsNot, gIn, gNotIn, gSl, oNone, oSome, gMt, gIndex, cTuple, cList, cI1, cI2, cLen, cMax, cMin, cMaxT, cMinT, dAug, cAll, cAny, cRepr, cSqrt, cIsi, tyN, isNon, kb_tt, kb_ii, kb_ib, kb_bi, kb_bb, kb_it, kb_bt, kb_nt, kb_ni, kb_lt, kb_li, kb_ti, kb_si, kb_st, kb_ss, rd, dRgN, gEqF, dCallV, spOf, atD, ordD, dSq, dZip, zipD_map, ivD, dRg1, dRg2, dLc, dYes, dLcGo, dGen, dGenGo, wipeD, boolsOf, intsOf, maxL, minL, noL, noLs, Option.map_some, Option.bind_some, List.all_cons, List.all_nil, List.any_cons, List.any_nil, id_eq, List.set_cons_zero, List.set_cons_succ, List.getElem?_cons_zero, List.getElem?_cons_succ, List.getElem?_nil, List.getD_cons_zero, List.getD_cons_succ, decide_eq_true_eq, decide_eq_false_iff_not, Bool.not_eq_true', Bool.not_true, Bool.not_false, Bool.and_true, Bool.true_and, Bool.and_false, Bool.false_and, Bool.false_eq_true, if_true, if_false, reduceIte, ite_true, ite_false, true_and, and_true, reduceCtorEq, Int.toNat_zero, Int.toNat_one, Int.cast_ofNat_Int, Int.reduceLT, Int.reduceLE, Int.reduceNeg, Int.reduceToNat, Int.reducePow, Int.reduceMul, Int.reduceAdd, Int.reduceSub, decide_true, decide_false, sp__law_log, sp_log_between, sp__law_cosine, sp_cosine_between, sp__law_sine, sp_sine_between, sp__law_exp, sp_exp_between, sp__law_draw, sp__law_ratio, sp__law_told_right, sp__law_do_meet, sp__law_product, sp__law_more, ne_exp_between_sine_between, ne_exp_between_cosine_between, ne_exp_between_log_between, ne_sine_between_exp_between, ne_sine_between_cosine_between, ne_sine_between_log_between, ne_cosine_between_exp_between, ne_cosine_between_sine_between, ne_cosine_between_log_between, ne_log_between_exp_between, ne_log_between_sine_between, ne_log_between_cosine_between, ne__law_exp__law_sine, ne__law_exp__law_cosine, ne__law_exp__law_log, ne__law_sine__law_exp, ne__law_sine__law_cosine, ne__law_sine__law_log, ne__law_cosine__law_exp, ne__law_cosine__law_sine, ne__law_cosine__law_log, ne__law_log__law_exp, ne__law_log__law_sine, ne__law_log__law_cosine, s_refl, List.mem_cons, List.not_mem_nil, or_false, false_or, or_true, true_or, implies_true]
      intro x hx r hr0 hr1
      obtain ⟨n1, n2, sz, pz⟩ := mid_num hx
      have xp := nn_num n1
      have xn : 0 < x.num := by have := den_pos x; omega
      obtain ⟨m, rfl⟩ : ∃ m : Nat, r = (m : Int) := ⟨r.toNat, by omega⟩
      have c1 : (1 + (m : Int)) = ((m + 1 : Nat) : Int) := by omega
      have c2 : (((m + 1 : Nat) : Int) + 1) = ((m + 1 + 1 : Nat) : Int) := by omega
      rw [c1, c2]
      have m1 : m + 1 ≤ 12 := by omega
      have m2 : m + 1 + 1 ≤ 12 := by omega
      obtain ⟨e1, e2⟩ := log_ends (part_sz sz xp) m1
      obtain ⟨f1, f2⟩ := log_ends (part_sz sz xp) m2
      obtain ⟨g1, g2⟩ := log_meet ((x - 1) / (x + 1)) (m + 1)
      refine ⟨x, ((m + 1 : Nat) : Int), rfl, sz, n1, n2, by omega, by omega, x, ((m + 1 + 1 : Nat) : Int), rfl, sz, n1, n2, by omega, by omega, (x.num, (x.den : Int)), m + 1, rfl, pz, m1, ?_⟩
      refine ⟨_, _, _, _, _, _, 9000, rfl, log_own pz xn m1, by decide, e1.mono (by decide), e2.mono (by decide), rfl, rfl, ?_⟩
      refine ⟨(x.num, (x.den : Int)), m + 1 + 1, rfl, pz, m2, ?_⟩
      refine ⟨_, _, _, _, _, _, 9000, rfl, log_own pz xn m2, by decide, f1.mono (by decide), f2.mono (by decide), rfl, rfl, ?_⟩
      refine ⟨(_, _), (_, _), (_, _), (_, _), rfl, prd e1 20000 (by omega), prd e2 20000 (by omega), prd f1 20000 (by omega), prd f2 20000 (by omega), ?_, ?_, ?_⟩
      · rw [vl_rd, vl_rd]
        exact g1
      · rw [vl_rd, vl_rd]
        exact g2
      · exact hk _ ⟨_, _, _, _, _, _, _, _, _, _, _, _, _, rfl⟩
  · rintro τ ⟨o1, o2, o3, o4, o5, o6, o7, o8, o9, o10, o11, o12, o13, rfl⟩
    simp (implicitDefEqProofs := false) (maxSteps := 3000000) only [startD, List.map_cons, List.map_nil, List.length_cons, List.length_nil, List.replicate, List.cons_append, List.nil_append, Nat.reduceAdd, Nat.reduceSub, Nat.zero_add, dSeq, dIfS, dOr, dAnd, dNot, dTst, dOp, dUn, dVar, dC, dB, dBK, dCons, dNil, dTup, dLst, dRet, dRetN, dNext, dNever, dAsg, dPar, dPar3, dIf, dAndV, dOrV, dNotV, dCh, dCt, cLast, cLink, tLast, tLink, dDrop, dFor, dBrk, dCnt, dOwn, dApp, dExt, dFree, gPutO, dIxO, dLend, dLendT, dLcF, gN, gTu, gCn, gNl, gP0, gP1, gII, gIIc, gAdd, gNeg, gIx, gEq, gNe, gIs, gIsNot, gIn, gNotIn, gSl, oNone, oSome, gMt, gIndex, cTuple, cList, cI1, cI2, cLen, cMax, cMin, cMaxT, cMinT, dAug, cAll, cAny, cRepr, cSqrt, cIsi, tyN, isNon, kb_tt, kb_ii, kb_ib, kb_bi, kb_bb, kb_it, kb_bt, kb_nt, kb_ni, kb_lt, kb_li, kb_ti, kb_si, kb_st, kb_ss, rd, dRgN, gEqF, dCallV, spOf, atD, ordD, dSq, dZip, zipD_map, ivD, dRg1, dRg2, dLc, dYes, dLcGo, dGen, dGenGo, wipeD, boolsOf, intsOf, maxL, minL, noL, noLs, Option.map_some, Option.bind_some, List.all_cons, List.all_nil, List.any_cons, List.any_nil, id_eq, List.set_cons_zero, List.set_cons_succ, List.getElem?_cons_zero, List.getElem?_cons_succ, List.getElem?_nil, List.getD_cons_zero, List.getD_cons_succ, decide_eq_true_eq, decide_eq_false_iff_not, Bool.not_eq_true', Bool.not_true, Bool.not_false, Bool.and_true, Bool.true_and, Bool.and_false, Bool.false_and, Bool.false_eq_true, if_true, if_false, reduceIte, ite_true, ite_false, true_and, and_true, reduceCtorEq, Int.toNat_zero, Int.toNat_one, Int.cast_ofNat_Int, Int.reduceLT, Int.reduceLE, Int.reduceNeg, Int.reduceToNat, Int.reducePow, Int.reduceMul, Int.reduceAdd, Int.reduceSub, decide_true, decide_false, sp__law_log, sp_log_between, sp__law_cosine, sp_cosine_between, sp__law_sine, sp_sine_between, sp__law_exp, sp_exp_between, sp__law_draw, sp__law_ratio, sp__law_told_right, sp__law_do_meet, sp__law_product, sp__law_more]
    have nh : Near (⟨1, 2, by decide, by decide⟩ : Rat) := ⟨by decide +kernel, by decide +kernel, by decide⟩
    obtain ⟨n1, sz⟩ := near_num nh
    refine ⟨⟨1, 2, by decide, by decide⟩, 2, rfl, sz, n1, by decide, by decide, ⟨1, 2, by decide, by decide⟩, 2, rfl, sz, n1, by decide, by decide, ⟨rfl, rfl⟩, ?_⟩
    rw [if_neg (fun z => Bool.noConfusion (z.symm.trans (eqv_self rfl)))]
    clear nh n1 sz
    intro x hx r hr0 hr1
    obtain ⟨n1, sz⟩ := near_num hx
    obtain ⟨m, rfl⟩ : ∃ m : Nat, r = (m : Int) := ⟨r.toNat, by omega⟩
    have c1 : (1 + (m : Int)) = ((m + 1 : Nat) : Int) := by omega
    rw [c1]
    have m1 : m + 1 ≤ 12 := by omega
    have nn : ((-x).num.natAbs : Int) ≤ (-x).den := by rw [Rat.neg_num, Rat.neg_den, Int.natAbs_neg]; exact n1
    obtain ⟨e1, e2⟩ := exp_ends sz m1
    obtain ⟨f1, f2⟩ := exp_ends sz.neg m1
    obtain ⟨s1, s2⟩ := circ_ends (b := 1) sz sz (by decide) (by decide) m1
    obtain ⟨t1, t2⟩ := circ_ends (b := 0) sz (Sz.one.mono (by decide)) (by decide) (by decide) m1
    have le : 200 + 170 * (m + 1) ≤ 3000 := by omega
    have lc : 200 + 380 * (m + 1) ≤ 3000 := by omega
    obtain ⟨x1, x2⟩ := exp_one hx.lo hx.hi (m := m + 1) (by omega)
    obtain ⟨y1, y2⟩ := circ_one hx.lo hx.hi (m := m + 1) (by omega)
    refine ⟨x, ((m + 1 : Nat) : Int), rfl, sz, n1, by omega, by omega, -x, ((m + 1 : Nat) : Int), rfl, sz.neg, nn, by omega, by omega, ?_⟩
    refine ⟨(_, _), (_, _), (_, _), (_, _), rfl, prd e1 3000 le, prd e2 3000 le, prd f1 3000 le, prd f2 3000 le, fun bl bh pbl pbh hb => ?_⟩
    have w1 := hb _ _ (.inl rfl) (.inl rfl)
    have w2 := hb _ _ (.inr rfl) (.inr rfl)
    rw [vl_rd, vl_rd] at w1 w2
    refine ⟨x, ((m + 1 : Nat) : Int), rfl, sz, n1, by omega, by omega, x, ((m + 1 : Nat) : Int), rfl, sz, n1, by omega, by omega, ?_⟩
    refine ⟨(_, _), (_, _), (_, _), (_, _), rfl, prd s1 3000 lc, prd s2 3000 lc, prd s1 3000 lc, prd s2 3000 lc, fun nl nh pnl pnh hn => ?_⟩
    have u1 := hn _ _ (.inl rfl) (.inl rfl)
    have u2 := hn _ _ (.inr rfl) (.inr rfl)
    rw [vl_rd] at u1 u2
    refine ⟨(_, _), (_, _), (_, _), (_, _), rfl, prd t1 3000 lc, prd t2 3000 lc, prd t1 3000 lc, prd t2 3000 lc, fun fl fh pfl pfh hf => ?_⟩
    have v1 := hf _ _ (.inl rfl) (.inl rfl)
    have v2 := hf _ _ (.inr rfl) (.inr rfl)
    rw [vl_rd] at v1 v2
    have one : Pr 20000 (1, 1) := pr_mono (a := 1) ⟨Big.one, Big.one, by decide⟩ (by decide)
    have o1 : vl (1, 1) = 1 := by decide +kernel
    have a1 := pr_add pnl pfl
    have a2 := pr_add pnh pfh
    have q1 := vl_pAdd pnl pfl
    have q2 := vl_pAdd pnh pfh
    refine ⟨nl, fl, 6000, rfl, by decide, pnl, pfl, nh, fh, 6000, rfl, by decide, pnh, pfh, ?_⟩
    refine ⟨bl, bh, (1, 1), (1, 1), rfl, pr_mono pbl (by decide), pr_mono pbh (by decide), one, one, ?_, ?_, pAdd nl fl, pAdd nh fh, (1, 1), (1, 1), rfl, pr_mono a1 (by decide), pr_mono a2 (by decide), one, one, ?_, ?_, h⟩
    · rw [o1]
      exact Rat.le_trans x2 w2.2
    · rw [o1]
      exact Rat.le_trans w1.1 x1
    · rw [o1, q2]
      have g1 : (cS x x 1 (m + 1) - ra (cT x x 1 (m + 1))) * (cS x x 1 (m + 1) - ra (cT x x 1 (m + 1))) ≤ vl nh := u1.2
      have g2 : (cS x x 1 (m + 1) + ra (cT x x 1 (m + 1))) * (cS x x 1 (m + 1) + ra (cT x x 1 (m + 1))) ≤ vl nh := u2.2
      have g3 : (cS x 1 0 (m + 1) + ra (cT x 1 0 (m + 1))) * (cS x 1 0 (m + 1) + ra (cT x 1 0 (m + 1))) ≤ vl fh := v2.2
      rcases y2 with y2 | y2 <;> grind
    · rw [o1, q1]
      have g1 : vl nl ≤ (cS x x 1 (m + 1) - ra (cT x x 1 (m + 1))) * (cS x x 1 (m + 1) - ra (cT x x 1 (m + 1))) := u1.1
      have g2 : vl nl ≤ (cS x x 1 (m + 1) + ra (cT x x 1 (m + 1))) * (cS x x 1 (m + 1) + ra (cT x x 1 (m + 1))) := u2.1
      have g3 : vl fl ≤ (cS x 1 0 (m + 1) - ra (cT x 1 0 (m + 1))) * (cS x 1 0 (m + 1) - ra (cT x 1 0 (m + 1))) := v1.1
      rcases y1 with y1 | y1 <;> grind
end
section
variable {P : Program} {w : World} {K : PySem.W.Frag} {mg : Str → Option Value} {base : Heap} {tabs : Tf}
def spPot (K : PySem.W.Frag) : Sp := fun vs H Q _ => ∃ (a : Addr) (ns : List Int), vs = [.ref a, .int 0] ∧ SqL K H a (ns.map V.int) ∧
  ∀ (p : Addr) (x y : Int), H p = none → 0 ≤ x → 0 ≤ y → y < 4294967296 → Q (.ref p) (upd H p (.lst [.int x, .int y]))
def spLaw (K : PySem.W.Frag) (tabs : List Addr) : Sp := fun vs H Q _ => ∃ (a : Addr) (ns : List Int), vs = [.ref a] ∧ SqL K H a (ns.map V.int) ∧ (∀ t ∈ tabs, GxR.TabG H t) ∧ ∀ H', Q (.bl true) H'
theorem raw_pot {f : Addr} {fd : FuncData} (T : Txt K mg) (F : Fun K "_law_pot" "_law_pot" s__law_pot f fd) : FnG P w K mg base CX0 1 f fd ["_law_script", "_law_k"] (spPot K) := by
  refine funG F sc__law_pot (fun vs H Q E h => ?_) fun cdv A outer s H vs Q E _ hg hk hr h => ?_
  · obtain ⟨a, ns, rfl, _⟩ := h
    rfl
  obtain ⟨a, ns, rfl, hS, k⟩ := h
  refine ⟨_, (pss_cons (ps_set (i := 2) sc__law_pot.nd rfl (Or.inl rfl) (pe_ifExp (pt_cmpR op_lt (pv 1) (pe_callB call_len_seq (by rfl) T.b_len PySem.boot_len (pa_cons (pv 0) pa_nil)) (nomark _)) (pe_callB call_abs (by rfl) T.b_abs PyProof.Rows.boot_abs (pa_cons (pe_ix ix_list (pv 0) (pv 1) (fun _ _ => rfl)) pa_nil)) (pe_op op_add (pe_op op_mul pe_int (pv 1)) pe_int))) (pss_one (ps_ret (pe_lst (pa_cons (pe_callB (call_max2 rfl) (by rfl) T.b_max PyProof.Rows.boot_max (pa_cons pe_int (pa_cons (pe_op op_sub (pv 2) (pe_op op_pow pe_int pe_int)) pa_nil))) (pa_cons (pe_op op_add (pe_op op_mod (pe_callTy call_int1 (by rfl) T.b_int PyProof.Rows.boot_int (pa_cons (pe_op op_add (pe_op op_add (pe_op op_mul (pe_op op_mod (pe_callTy call_int1 (by rfl) T.b_int PyProof.Rows.boot_int (pa_cons (pv 2) pa_nil)) pe_int) pe_int) (pe_op op_mul pe_int (pv 1))) pe_int) pa_nil)) pe_int) pe_int) pa_nil)))))), ?_⟩
  simp only [tSeq, tAsg, tOp, rI0, rI, tC, tVar, gName, tIfS, tTest, tCB, tCons, tNil, tRet, tLst, tNext, rIxL, L2.start, List.map_cons, List.map_nil, List.length_cons, List.length_nil, List.replicate, List.cons_append, List.nil_append, Nat.reduceAdd, Nat.reduceSub, List.getElem?_cons_zero, List.getElem?_cons_succ, List.set_cons_zero, List.set_cons_succ]
  repeat (first | refine ⟨_, _, rfl, rfl, ?_⟩ | refine ⟨_, _, rfl, .inl hS, ?_⟩ | refine ⟨_, rfl, ?_⟩ | refine ⟨(.inl ⟨by decide, by decide⟩ : CMul _ _), ?_⟩ | refine ⟨(⟨by decide, by decide, by decide⟩ : CPow _ _), ?_⟩)
  refine ite2P (fun h0 => ?_) (fun h0 => ?_)
  · have h1 : 0 < (ns.map V.int).length := by have := of_decide_eq_true h0; omega
    obtain ⟨n, hn⟩ : ∃ n : Int, (ns.map V.int)[0]? = some (V.int n) := by
      cases ns with
      | nil => simp at h1
      | cons n ns => exact ⟨n, rfl⟩
    refine ⟨_, rfl, _, rfl, a, _, 0, V.int n, rfl, rfl, hS, atI_nat hn, ?_⟩
    repeat (first | refine ⟨_, _, rfl, rfl, ?_⟩ | refine ⟨_, _, rfl, ?_⟩ | refine .inl ⟨_, rfl, ?_⟩ | refine ⟨_, rfl, ?_⟩ | refine ⟨(.inl ⟨by decide, by decide⟩ : CMul _ _), ?_⟩ | refine ⟨(.inr ⟨by decide, by decide⟩ : CMul _ _), ?_⟩ | refine ⟨(⟨by decide, by decide, by decide⟩ : CPow _ _), ?_⟩ | refine ⟨(by decide : (0 : Int) < _), ?_⟩ | refine ⟨(by show 2 ≤ sizeLine; decide), ?_⟩)
    refine fun p hp => k p _ _ hp (by split <;> omega) ?_ ?_
    · exact pot_lo (by decide)
    · exact pot_hi (by decide) (by decide)
  · repeat (first | refine ⟨_, _, rfl, rfl, ?_⟩ | refine ⟨_, _, rfl, ?_⟩ | refine .inl ⟨_, rfl, ?_⟩ | refine ⟨_, rfl, ?_⟩ | refine ⟨(.inl ⟨by decide, by decide⟩ : CMul _ _), ?_⟩ | refine ⟨(.inr ⟨by decide, by decide⟩ : CMul _ _), ?_⟩ | refine ⟨(⟨by decide, by decide, by decide⟩ : CPow _ _), ?_⟩ | refine ⟨(by decide : (0 : Int) < _), ?_⟩ | refine ⟨(by show 2 ≤ sizeLine; decide), ?_⟩)
    refine fun p hp => k p _ _ hp (by split <;> omega) ?_ ?_
    · exact pot_lo (by decide)
    · exact pot_hi (by decide) (by decide)
theorem raw_law {f : Addr} {fd : FuncData} {f1 : Addr} {fd1 : FuncData} (F : Fun K "law" "law" s_law f fd) (F1 : FnG P w K mg base CX0 1 f1 fd1 ["_law_script", "_law_k"] (spPot K)) (b1 : Binds K fd1 ["_law_script", "_law_k"] []) (m1 : mg "_law_pot" = some (.ref f1)) (k1 : PySem.W.keepIn K (.ref f1) = true)
    (C : Cal P w K mg base tabs "_law_right" 8 1 ["_law_pot_here"] [] sp__law_right) : FnG P w K mg base CX0 9 f fd ["_law_script"] (spLaw K tabs.tabs) := by
  obtain ⟨f2, fd2, F2, m2, k2, b2, _⟩ := C.ex
  refine funG F sc_law (fun vs H Q E h => ?_) fun cdv A outer s H vs Q E _ hg hk hr h => ?_
  · obtain ⟨a, ns, rfl, _⟩ := h
    rfl
  obtain ⟨a, ns, rfl, hS, hT, k⟩ := h
  refine ⟨_, pss_one (ps_ret (pe_callG F2 hg hr pass0 (by rfl) m2 k2 b2 (pa_cons (pe_callG F1 hg (hr.mono (by decide)) pass0 (by rfl) m1 k1 b1 (pa_cons (pv 0) (pa_cons pe_int pa_nil))) pa_nil))), ?_⟩
  refine ⟨_, rfl, a, ns, rfl, hS, fun p x y hp h0 h1 h2 => ?_⟩
  refine ⟨rfl, p, [], [.pot], fun d => d = .bl true, ⟨⟨⟨x, y, h0, h1, h2, upd_same⟩, fun t ht => ?_⟩, fun b hb => absurd hb List.not_mem_nil⟩, .cons .pot .nil, rfl, fun z v H' _ i e => ?_⟩
  · obtain ⟨ps, e1, e2⟩ := hT t ht
    refine ⟨ps, ?_, e2⟩
    rw [upd_ne fun e => by rw [e, hp] at e1; cases e1]
    exact e1
  · subst e
    cases i
    exact k H'
end

theorem kb_sine_between {K : PySem.W.Frag} {f : Addr} (fd : FuncData) (F : Fun K "sine_between" "sine_between" s_sine_between f fd) : ∀ q ∈ ([(["many", "ratio"], 0, [1, 0])] : List (List Str × Nat × List Nat)), BindK K fd ["ratio", "many"] q.1 q.2.1 q.2.2 := by
  intro q hq
  have e := List.mem_singleton.mp hq
  subst e
  exact bindK_of F fun kV doc pm an cdv ct us ws h1 h2 => match us, ws, h1, h2 with
      | [], [w0, w1], _, _ => ⟨[w1, w0], rfl, rfl, rfl, fun i j e => by
        match i, e with
        | 0, e => cases e; exact ⟨rfl, by simp⟩
        | 1, e => cases e; exact ⟨rfl, by simp⟩
        | (t + 2), e => simp at e⟩
set_option maxHeartbeats 0 in
theorem all_mk {l : PySem.W.OpenLaw} {w : World} {K : PySem.W.Frag} {h : Heap} {mg : Str → Option Value} {fa : Addr} (X : K.In h) (G : h.Ns mainGlobals mg) (hfa : mg "law" = some (.ref fa))
    {f0 f1 f2 f3 f4 f5 f6 f7 f8 f9 f10 f11 f12 f13 f14 f15 f16 f17 f18 f19 f20 f21 f22 f23 f24 f25 f26 f27 f28 f29 f30 f31 f32 f33 f34 f35 f36 f37 f38 f39 f40 f41 f42 f43 : Addr} {od0 an0 od1 an1 od2 an2 od3 an3 od4 an4 od5 an5 od6 an6 od7 an7 od8 an8 od9 an9 od10 an10 od11 an11 od12 an12 od13 an13 od14 an14 od15 an15 od16 an16 od17 an17 od18 an18 od19 an19 od20 an20 od21 an21 od22 an22 od23 an23 od24 an24 od25 an25 od26 an26 od27 an27 od28 an28 od29 an29 od30 an30 od31 an31 od32 an32 od33 an33 od34 an34 od35 an35 od36 an36 od37 an37 od38 an38 od39 an39 od40 an40 od41 an41 od42 an42 od43 an43 : Option Addr} {sl0 sl1 sl2 sl3 sl4 sl5 sl6 sl7 sl8 sl9 sl10 sl11 sl12 sl13 sl14 sl15 sl16 sl17 sl18 sl19 sl20 sl21 sl22 sl23 sl24 sl25 sl26 sl27 sl28 sl29 sl30 sl31 sl32 sl33 sl34 sl35 sl36 sl37 sl38 sl39 sl40 sl41 sl42 sl43 : Array (Option Value)} {oc0 kV0 dc0 pm0 cd0 ct0 oc1 kV1 dc1 pm1 cd1 ct1 oc2 kV2 dc2 pm2 cd2 ct2 oc3 kV3 dc3 pm3 cd3 ct3 oc4 kV4 dc4 pm4 cd4 ct4 oc5 kV5 dc5 pm5 cd5 ct5 oc6 kV6 dc6 pm6 cd6 ct6 oc7 kV7 dc7 pm7 cd7 ct7 oc8 kV8 dc8 pm8 cd8 ct8 oc9 kV9 dc9 pm9 cd9 ct9 oc10 kV10 dc10 pm10 cd10 ct10 oc11 kV11 dc11 pm11 cd11 ct11 oc12 kV12 dc12 pm12 cd12 ct12 oc13 kV13 dc13 pm13 cd13 ct13 oc14 kV14 dc14 pm14 cd14 ct14 oc15 kV15 dc15 pm15 cd15 ct15 oc16 kV16 dc16 pm16 cd16 ct16 oc17 kV17 dc17 pm17 cd17 ct17 oc18 kV18 dc18 pm18 cd18 ct18 oc19 kV19 dc19 pm19 cd19 ct19 oc20 kV20 dc20 pm20 cd20 ct20 oc21 kV21 dc21 pm21 cd21 ct21 kV22 dc22 pm22 cd22 ct22 kV23 dc23 pm23 cd23 ct23 kV24 dc24 pm24 cd24 ct24 kV25 dc25 pm25 cd25 ct25 oc26 kV26 dc26 pm26 cd26 ct26 oc27 kV27 dc27 pm27 cd27 ct27 oc28 kV28 dc28 pm28 cd28 ct28 oc29 kV29 dc29 pm29 cd29 ct29 oc30 kV30 dc30 pm30 cd30 ct30 oc31 kV31 dc31 pm31 cd31 ct31 oc32 kV32 dc32 pm32 cd32 ct32 oc33 kV33 dc33 pm33 cd33 ct33 oc34 kV34 dc34 pm34 cd34 ct34 oc35 kV35 dc35 pm35 cd35 ct35 oc36 kV36 dc36 pm36 cd36 ct36 oc37 kV37 dc37 pm37 cd37 ct37 oc38 kV38 dc38 pm38 cd38 ct38 oc39 kV39 dc39 pm39 cd39 ct39 oc40 kV40 dc40 pm40 cd40 ct40 oc41 kV41 dc41 pm41 cd41 ct41 oc42 kV42 dc42 pm42 cd42 ct42 oc43 kV43 dc43 pm43 cd43 ct43 : Value}
    {t__MOST_MANY : Tok}
    {a_NOUGHT : Addr} {t_NOUGHT u_NOUGHT : Tok} {d_NOUGHT : Option Addr} {m_NOUGHT : Nat} {s_NOUGHT : Array (Option Value)}
    {a_UNIT : Addr} {t_UNIT u_UNIT : Tok} {d_UNIT : Option Addr} {m_UNIT : Nat} {s_UNIT : Array (Option Value)}
    (a0 : PySem.W.nsIn K mainGlobals "ratio_of" = some (some (.ref f0))) (l0 : K.lookup f0 = some ⟨oc0, od0, .func (PySem.W.fnOf "ratio_of" "ratio_of" (defArgs s_ratio_of) (defBody s_ratio_of) (defScope s_ratio_of) .none kV0 dc0 pm0 an0 cd0 ct0), sl0⟩) (c0 : PySem.W.codeIn K cd0 "ratio_of" = true) (k0 : PySem.W.keepIn K (.ref f0) = true)
    (a1 : PySem.W.nsIn K mainGlobals "ratio_plus" = some (some (.ref f1))) (l1 : K.lookup f1 = some ⟨oc1, od1, .func (PySem.W.fnOf "ratio_plus" "ratio_plus" (defArgs s_ratio_plus) (defBody s_ratio_plus) (defScope s_ratio_plus) .none kV1 dc1 pm1 an1 cd1 ct1), sl1⟩) (c1 : PySem.W.codeIn K cd1 "ratio_plus" = true) (k1 : PySem.W.keepIn K (.ref f1) = true)
    (a2 : PySem.W.nsIn K mainGlobals "ratio_minus" = some (some (.ref f2))) (l2 : K.lookup f2 = some ⟨oc2, od2, .func (PySem.W.fnOf "ratio_minus" "ratio_minus" (defArgs s_ratio_minus) (defBody s_ratio_minus) (defScope s_ratio_minus) .none kV2 dc2 pm2 an2 cd2 ct2), sl2⟩) (c2 : PySem.W.codeIn K cd2 "ratio_minus" = true) (k2 : PySem.W.keepIn K (.ref f2) = true)
    (a3 : PySem.W.nsIn K mainGlobals "ratio_times" = some (some (.ref f3))) (l3 : K.lookup f3 = some ⟨oc3, od3, .func (PySem.W.fnOf "ratio_times" "ratio_times" (defArgs s_ratio_times) (defBody s_ratio_times) (defScope s_ratio_times) .none kV3 dc3 pm3 an3 cd3 ct3), sl3⟩) (c3 : PySem.W.codeIn K cd3 "ratio_times" = true) (k3 : PySem.W.keepIn K (.ref f3) = true)
    (a4 : PySem.W.nsIn K mainGlobals "ratio_over" = some (some (.ref f4))) (l4 : K.lookup f4 = some ⟨oc4, od4, .func (PySem.W.fnOf "ratio_over" "ratio_over" (defArgs s_ratio_over) (defBody s_ratio_over) (defScope s_ratio_over) .none kV4 dc4 pm4 an4 cd4 ct4), sl4⟩) (c4 : PySem.W.codeIn K cd4 "ratio_over" = true) (k4 : PySem.W.keepIn K (.ref f4) = true)
    (a5 : PySem.W.nsIn K mainGlobals "integer_power" = some (some (.ref f5))) (l5 : K.lookup f5 = some ⟨oc5, od5, .func (PySem.W.fnOf "integer_power" "integer_power" (defArgs s_integer_power) (defBody s_integer_power) (defScope s_integer_power) .none kV5 dc5 pm5 an5 cd5 ct5), sl5⟩) (c5 : PySem.W.codeIn K cd5 "integer_power" = true) (k5 : PySem.W.keepIn K (.ref f5) = true)
    (a6 : PySem.W.nsIn K mainGlobals "is_integer" = some (some (.ref f6))) (l6 : K.lookup f6 = some ⟨oc6, od6, .func (PySem.W.fnOf "is_integer" "is_integer" (defArgs s_is_integer) (defBody s_is_integer) (defScope s_is_integer) .none kV6 dc6 pm6 an6 cd6 ct6), sl6⟩) (c6 : PySem.W.codeIn K cd6 "is_integer" = true) (k6 : PySem.W.keepIn K (.ref f6) = true)
    (a7 : PySem.W.nsIn K mainGlobals "is_from_to" = some (some (.ref f7))) (l7 : K.lookup f7 = some ⟨oc7, od7, .func (PySem.W.fnOf "is_from_to" "is_from_to" (defArgs s_is_from_to) (defBody s_is_from_to) (defScope s_is_from_to) .none kV7 dc7 pm7 an7 cd7 ct7), sl7⟩) (c7 : PySem.W.codeIn K cd7 "is_from_to" = true) (k7 : PySem.W.keepIn K (.ref f7) = true)
    (a8 : PySem.W.nsIn K mainGlobals "is_ratio" = some (some (.ref f8))) (l8 : K.lookup f8 = some ⟨oc8, od8, .func (PySem.W.fnOf "is_ratio" "is_ratio" (defArgs s_is_ratio) (defBody s_is_ratio) (defScope s_is_ratio) .none kV8 dc8 pm8 an8 cd8 ct8), sl8⟩) (c8 : PySem.W.codeIn K cd8 "is_ratio" = true) (k8 : PySem.W.keepIn K (.ref f8) = true)
    (a9 : PySem.W.nsIn K mainGlobals "_law_draw" = some (some (.ref f9))) (l9 : K.lookup f9 = some ⟨oc9, od9, .func (PySem.W.fnOf "_law_draw" "_law_draw" (defArgs s__law_draw) (defBody s__law_draw) (defScope s__law_draw) .none kV9 dc9 pm9 an9 cd9 ct9), sl9⟩) (c9 : PySem.W.codeIn K cd9 "_law_draw" = true) (k9 : PySem.W.keepIn K (.ref f9) = true)
    (a10 : PySem.W.nsIn K mainGlobals "_law_pick" = some (some (.ref f10))) (l10 : K.lookup f10 = some ⟨oc10, od10, .func (PySem.W.fnOf "_law_pick" "_law_pick" (defArgs s__law_pick) (defBody s__law_pick) (defScope s__law_pick) .none kV10 dc10 pm10 an10 cd10 ct10), sl10⟩) (c10 : PySem.W.codeIn K cd10 "_law_pick" = true) (k10 : PySem.W.keepIn K (.ref f10) = true)
    (a11 : PySem.W.nsIn K mainGlobals "check_ratio" = some (some (.ref f11))) (l11 : K.lookup f11 = some ⟨oc11, od11, .func (PySem.W.fnOf "check_ratio" "check_ratio" (defArgs s_check_ratio) (defBody s_check_ratio) (defScope s_check_ratio) .none kV11 dc11 pm11 an11 cd11 ct11), sl11⟩) (c11 : PySem.W.codeIn K cd11 "check_ratio" = true) (k11 : PySem.W.keepIn K (.ref f11) = true)
    (a12 : PySem.W.nsIn K mainGlobals "check_sum" = some (some (.ref f12))) (l12 : K.lookup f12 = some ⟨oc12, od12, .func (PySem.W.fnOf "check_sum" "check_sum" (defArgs s_check_sum) (defBody s_check_sum) (defScope s_check_sum) .none kV12 dc12 pm12 an12 cd12 ct12), sl12⟩) (c12 : PySem.W.codeIn K cd12 "check_sum" = true) (k12 : PySem.W.keepIn K (.ref f12) = true)
    (a13 : PySem.W.nsIn K mainGlobals "check_near" = some (some (.ref f13))) (l13 : K.lookup f13 = some ⟨oc13, od13, .func (PySem.W.fnOf "check_near" "check_near" (defArgs s_check_near) (defBody s_check_near) (defScope s_check_near) .none kV13 dc13 pm13 an13 cd13 ct13), sl13⟩) (c13 : PySem.W.codeIn K cd13 "check_near" = true) (k13 : PySem.W.keepIn K (.ref f13) = true)
    (a14 : PySem.W.nsIn K mainGlobals "_size" = some (some (.ref f14))) (l14 : K.lookup f14 = some ⟨oc14, od14, .func (PySem.W.fnOf "_size" "_size" (defArgs s__size) (defBody s__size) (defScope s__size) .none kV14 dc14 pm14 an14 cd14 ct14), sl14⟩) (c14 : PySem.W.codeIn K cd14 "_size" = true) (k14 : PySem.W.keepIn K (.ref f14) = true)
    (a15 : PySem.W.nsIn K mainGlobals "_apart" = some (some (.ref f15))) (l15 : K.lookup f15 = some ⟨oc15, od15, .func (PySem.W.fnOf "_apart" "_apart" (defArgs s__apart) (defBody s__apart) (defScope s__apart) .none kV15 dc15 pm15 an15 cd15 ct15), sl15⟩) (c15 : PySem.W.codeIn K cd15 "_apart" = true) (k15 : PySem.W.keepIn K (.ref f15) = true)
    (a16 : PySem.W.nsIn K mainGlobals "exp_sum" = some (some (.ref f16))) (l16 : K.lookup f16 = some ⟨oc16, od16, .func (PySem.W.fnOf "exp_sum" "exp_sum" (defArgs s_exp_sum) (defBody s_exp_sum) (defScope s_exp_sum) .none kV16 dc16 pm16 an16 cd16 ct16), sl16⟩) (c16 : PySem.W.codeIn K cd16 "exp_sum" = true) (k16 : PySem.W.keepIn K (.ref f16) = true)
    (a17 : PySem.W.nsIn K mainGlobals "ratio_power" = some (some (.ref f17))) (l17 : K.lookup f17 = some ⟨oc17, od17, .func (PySem.W.fnOf "ratio_power" "ratio_power" (defArgs s_ratio_power) (defBody s_ratio_power) (defScope s_ratio_power) .none kV17 dc17 pm17 an17 cd17 ct17), sl17⟩) (c17 : PySem.W.codeIn K cd17 "ratio_power" = true) (k17 : PySem.W.keepIn K (.ref f17) = true)
    (a18 : PySem.W.nsIn K mainGlobals "_circle_sum" = some (some (.ref f18))) (l18 : K.lookup f18 = some ⟨oc18, od18, .func (PySem.W.fnOf "_circle_sum" "_circle_sum" (defArgs s__circle_sum) (defBody s__circle_sum) (defScope s__circle_sum) .none kV18 dc18 pm18 an18 cd18 ct18), sl18⟩) (c18 : PySem.W.codeIn K cd18 "_circle_sum" = true) (k18 : PySem.W.keepIn K (.ref f18) = true)
    (a19 : PySem.W.nsIn K mainGlobals "sine_sum" = some (some (.ref f19))) (l19 : K.lookup f19 = some ⟨oc19, od19, .func (PySem.W.fnOf "sine_sum" "sine_sum" (defArgs s_sine_sum) (defBody s_sine_sum) (defScope s_sine_sum) .none kV19 dc19 pm19 an19 cd19 ct19), sl19⟩) (c19 : PySem.W.codeIn K cd19 "sine_sum" = true) (k19 : PySem.W.keepIn K (.ref f19) = true)
    (a20 : PySem.W.nsIn K mainGlobals "cosine_sum" = some (some (.ref f20))) (l20 : K.lookup f20 = some ⟨oc20, od20, .func (PySem.W.fnOf "cosine_sum" "cosine_sum" (defArgs s_cosine_sum) (defBody s_cosine_sum) (defScope s_cosine_sum) .none kV20 dc20 pm20 an20 cd20 ct20), sl20⟩) (c20 : PySem.W.codeIn K cd20 "cosine_sum" = true) (k20 : PySem.W.keepIn K (.ref f20) = true)
    (a21 : PySem.W.nsIn K mainGlobals "log_sum" = some (some (.ref f21))) (l21 : K.lookup f21 = some ⟨oc21, od21, .func (PySem.W.fnOf "log_sum" "log_sum" (defArgs s_log_sum) (defBody s_log_sum) (defScope s_log_sum) .none kV21 dc21 pm21 an21 cd21 ct21), sl21⟩) (c21 : PySem.W.codeIn K cd21 "log_sum" = true) (k21 : PySem.W.keepIn K (.ref f21) = true)
    (a22 : PySem.W.nsIn K mainGlobals "exp_between" = some (some (.ref f22))) (l22 : K.lookup f22 = some ⟨.type "function", od22, .func (PySem.W.fnOf "exp_between" "exp_between" (defArgs s_exp_between) (defBody s_exp_between) (defScope s_exp_between) .none kV22 dc22 pm22 an22 cd22 ct22), sl22⟩) (c22 : PySem.W.codeIn K cd22 "exp_between" = true) (k22 : PySem.W.keepIn K (.ref f22) = true)
    (a23 : PySem.W.nsIn K mainGlobals "sine_between" = some (some (.ref f23))) (l23 : K.lookup f23 = some ⟨.type "function", od23, .func (PySem.W.fnOf "sine_between" "sine_between" (defArgs s_sine_between) (defBody s_sine_between) (defScope s_sine_between) .none kV23 dc23 pm23 an23 cd23 ct23), sl23⟩) (c23 : PySem.W.codeIn K cd23 "sine_between" = true) (k23 : PySem.W.keepIn K (.ref f23) = true)
    (a24 : PySem.W.nsIn K mainGlobals "cosine_between" = some (some (.ref f24))) (l24 : K.lookup f24 = some ⟨.type "function", od24, .func (PySem.W.fnOf "cosine_between" "cosine_between" (defArgs s_cosine_between) (defBody s_cosine_between) (defScope s_cosine_between) .none kV24 dc24 pm24 an24 cd24 ct24), sl24⟩) (c24 : PySem.W.codeIn K cd24 "cosine_between" = true) (k24 : PySem.W.keepIn K (.ref f24) = true)
    (a25 : PySem.W.nsIn K mainGlobals "log_between" = some (some (.ref f25))) (l25 : K.lookup f25 = some ⟨.type "function", od25, .func (PySem.W.fnOf "log_between" "log_between" (defArgs s_log_between) (defBody s_log_between) (defScope s_log_between) .none kV25 dc25 pm25 an25 cd25 ct25), sl25⟩) (c25 : PySem.W.codeIn K cd25 "log_between" = true) (k25 : PySem.W.keepIn K (.ref f25) = true)
    (a26 : PySem.W.nsIn K mainGlobals "_law_less" = some (some (.ref f26))) (l26 : K.lookup f26 = some ⟨oc26, od26, .func (PySem.W.fnOf "_law_less" "_law_less" (defArgs s__law_less) (defBody s__law_less) (defScope s__law_less) .none kV26 dc26 pm26 an26 cd26 ct26), sl26⟩) (c26 : PySem.W.codeIn K cd26 "_law_less" = true) (k26 : PySem.W.keepIn K (.ref f26) = true)
    (a27 : PySem.W.nsIn K mainGlobals "_law_more" = some (some (.ref f27))) (l27 : K.lookup f27 = some ⟨oc27, od27, .func (PySem.W.fnOf "_law_more" "_law_more" (defArgs s__law_more) (defBody s__law_more) (defScope s__law_more) .none kV27 dc27 pm27 an27 cd27 ct27), sl27⟩) (c27 : PySem.W.codeIn K cd27 "_law_more" = true) (k27 : PySem.W.keepIn K (.ref f27) = true)
    (a28 : PySem.W.nsIn K mainGlobals "_law_power" = some (some (.ref f28))) (l28 : K.lookup f28 = some ⟨oc28, od28, .func (PySem.W.fnOf "_law_power" "_law_power" (defArgs s__law_power) (defBody s__law_power) (defScope s__law_power) .none kV28 dc28 pm28 an28 cd28 ct28), sl28⟩) (c28 : PySem.W.codeIn K cd28 "_law_power" = true) (k28 : PySem.W.keepIn K (.ref f28) = true)
    (a29 : PySem.W.nsIn K mainGlobals "_law_factorial" = some (some (.ref f29))) (l29 : K.lookup f29 = some ⟨oc29, od29, .func (PySem.W.fnOf "_law_factorial" "_law_factorial" (defArgs s__law_factorial) (defBody s__law_factorial) (defScope s__law_factorial) .none kV29 dc29 pm29 an29 cd29 ct29), sl29⟩) (c29 : PySem.W.codeIn K cd29 "_law_factorial" = true) (k29 : PySem.W.keepIn K (.ref f29) = true)
    (a30 : PySem.W.nsIn K mainGlobals "_law_is_same" = some (some (.ref f30))) (l30 : K.lookup f30 = some ⟨oc30, od30, .func (PySem.W.fnOf "_law_is_same" "_law_is_same" (defArgs s__law_is_same) (defBody s__law_is_same) (defScope s__law_is_same) .none kV30 dc30 pm30 an30 cd30 ct30), sl30⟩) (c30 : PySem.W.codeIn K cd30 "_law_is_same" = true) (k30 : PySem.W.keepIn K (.ref f30) = true)
    (a31 : PySem.W.nsIn K mainGlobals "_law_row" = some (some (.ref f31))) (l31 : K.lookup f31 = some ⟨oc31, od31, .func (PySem.W.fnOf "_law_row" "_law_row" (defArgs s__law_row) (defBody s__law_row) (defScope s__law_row) .none kV31 dc31 pm31 an31 cd31 ct31), sl31⟩) (c31 : PySem.W.codeIn K cd31 "_law_row" = true) (k31 : PySem.W.keepIn K (.ref f31) = true)
    (a32 : PySem.W.nsIn K mainGlobals "_law_exp" = some (some (.ref f32))) (l32 : K.lookup f32 = some ⟨oc32, od32, .func (PySem.W.fnOf "_law_exp" "_law_exp" (defArgs s__law_exp) (defBody s__law_exp) (defScope s__law_exp) .none kV32 dc32 pm32 an32 cd32 ct32), sl32⟩) (c32 : PySem.W.codeIn K cd32 "_law_exp" = true) (k32 : PySem.W.keepIn K (.ref f32) = true)
    (a33 : PySem.W.nsIn K mainGlobals "_law_sine" = some (some (.ref f33))) (l33 : K.lookup f33 = some ⟨oc33, od33, .func (PySem.W.fnOf "_law_sine" "_law_sine" (defArgs s__law_sine) (defBody s__law_sine) (defScope s__law_sine) .none kV33 dc33 pm33 an33 cd33 ct33), sl33⟩) (c33 : PySem.W.codeIn K cd33 "_law_sine" = true) (k33 : PySem.W.keepIn K (.ref f33) = true)
    (a34 : PySem.W.nsIn K mainGlobals "_law_cosine" = some (some (.ref f34))) (l34 : K.lookup f34 = some ⟨oc34, od34, .func (PySem.W.fnOf "_law_cosine" "_law_cosine" (defArgs s__law_cosine) (defBody s__law_cosine) (defScope s__law_cosine) .none kV34 dc34 pm34 an34 cd34 ct34), sl34⟩) (c34 : PySem.W.codeIn K cd34 "_law_cosine" = true) (k34 : PySem.W.keepIn K (.ref f34) = true)
    (a35 : PySem.W.nsIn K mainGlobals "_law_log" = some (some (.ref f35))) (l35 : K.lookup f35 = some ⟨oc35, od35, .func (PySem.W.fnOf "_law_log" "_law_log" (defArgs s__law_log) (defBody s__law_log) (defScope s__law_log) .none kV35 dc35 pm35 an35 cd35 ct35), sl35⟩) (c35 : PySem.W.codeIn K cd35 "_law_log" = true) (k35 : PySem.W.keepIn K (.ref f35) = true)
    (a36 : PySem.W.nsIn K mainGlobals "_law_told_right" = some (some (.ref f36))) (l36 : K.lookup f36 = some ⟨oc36, od36, .func (PySem.W.fnOf "_law_told_right" "_law_told_right" (defArgs s__law_told_right) (defBody s__law_told_right) (defScope s__law_told_right) .none kV36 dc36 pm36 an36 cd36 ct36), sl36⟩) (c36 : PySem.W.codeIn K cd36 "_law_told_right" = true) (k36 : PySem.W.keepIn K (.ref f36) = true)
    (a37 : PySem.W.nsIn K mainGlobals "_law_do_meet" = some (some (.ref f37))) (l37 : K.lookup f37 = some ⟨oc37, od37, .func (PySem.W.fnOf "_law_do_meet" "_law_do_meet" (defArgs s__law_do_meet) (defBody s__law_do_meet) (defScope s__law_do_meet) .none kV37 dc37 pm37 an37 cd37 ct37), sl37⟩) (c37 : PySem.W.codeIn K cd37 "_law_do_meet" = true) (k37 : PySem.W.keepIn K (.ref f37) = true)
    (a38 : PySem.W.nsIn K mainGlobals "_law_product" = some (some (.ref f38))) (l38 : K.lookup f38 = some ⟨oc38, od38, .func (PySem.W.fnOf "_law_product" "_law_product" (defArgs s__law_product) (defBody s__law_product) (defScope s__law_product) .none kV38 dc38 pm38 an38 cd38 ct38), sl38⟩) (c38 : PySem.W.codeIn K cd38 "_law_product" = true) (k38 : PySem.W.keepIn K (.ref f38) = true)
    (a39 : PySem.W.nsIn K mainGlobals "_law_least" = some (some (.ref f39))) (l39 : K.lookup f39 = some ⟨oc39, od39, .func (PySem.W.fnOf "_law_least" "_law_least" (defArgs s__law_least) (defBody s__law_least) (defScope s__law_least) .none kV39 dc39 pm39 an39 cd39 ct39), sl39⟩) (c39 : PySem.W.codeIn K cd39 "_law_least" = true) (k39 : PySem.W.keepIn K (.ref f39) = true)
    (a40 : PySem.W.nsIn K mainGlobals "_law_ratio" = some (some (.ref f40))) (l40 : K.lookup f40 = some ⟨oc40, od40, .func (PySem.W.fnOf "_law_ratio" "_law_ratio" (defArgs s__law_ratio) (defBody s__law_ratio) (defScope s__law_ratio) .none kV40 dc40 pm40 an40 cd40 ct40), sl40⟩) (c40 : PySem.W.codeIn K cd40 "_law_ratio" = true) (k40 : PySem.W.keepIn K (.ref f40) = true)
    (a41 : PySem.W.nsIn K mainGlobals "_law_right" = some (some (.ref f41))) (l41 : K.lookup f41 = some ⟨oc41, od41, .func (PySem.W.fnOf "_law_right" "_law_right" (defArgs s__law_right) (defBody s__law_right) (defScope s__law_right) .none kV41 dc41 pm41 an41 cd41 ct41), sl41⟩) (c41 : PySem.W.codeIn K cd41 "_law_right" = true) (k41 : PySem.W.keepIn K (.ref f41) = true)
    (a42 : PySem.W.nsIn K mainGlobals "_law_pot" = some (some (.ref f42))) (l42 : K.lookup f42 = some ⟨oc42, od42, .func (PySem.W.fnOf "_law_pot" "_law_pot" (defArgs s__law_pot) (defBody s__law_pot) (defScope s__law_pot) .none kV42 dc42 pm42 an42 cd42 ct42), sl42⟩) (c42 : PySem.W.codeIn K cd42 "_law_pot" = true) (k42 : PySem.W.keepIn K (.ref f42) = true)
    (a43 : PySem.W.nsIn K mainGlobals "law" = some (some (.ref f43))) (l43 : K.lookup f43 = some ⟨oc43, od43, .func (PySem.W.fnOf "law" "law" (defArgs s_law) (defBody s_law) (defScope s_law) .none kV43 dc43 pm43 an43 cd43 ct43), sl43⟩) (c43 : PySem.W.codeIn K cd43 "law" = true) (k43 : PySem.W.keepIn K (.ref f43) = true)
    (z_abs : PySem.W.nsIn K mainGlobals "abs" = some none)
    (z_all : PySem.W.nsIn K mainGlobals "all" = some none)
    (z_bool : PySem.W.nsIn K mainGlobals "bool" = some none)
    (z_divmod : PySem.W.nsIn K mainGlobals "divmod" = some none)
    (z_int : PySem.W.nsIn K mainGlobals "int" = some none)
    (z_isinstance : PySem.W.nsIn K mainGlobals "isinstance" = some none)
    (z_len : PySem.W.nsIn K mainGlobals "len" = some none)
    (z_max : PySem.W.nsIn K mainGlobals "max" = some none)
    (z_min : PySem.W.nsIn K mainGlobals "min" = some none)
    (z_range : PySem.W.nsIn K mainGlobals "range" = some none)
    (z_tuple : PySem.W.nsIn K mainGlobals "tuple" = some none)
    (n_gcd : PySem.W.nsIn K mainGlobals "gcd" = some (some (.builtin "math.gcd")))
    (n__MOST_MANY : PySem.W.nsIn K mainGlobals "_MOST_MANY" = some (some (.int 12 t__MOST_MANY)))
    (n_NOUGHT : PySem.W.nsIn K mainGlobals "NOUGHT" = some (some (.ref a_NOUGHT))) (q_NOUGHT : K.lookup a_NOUGHT = some ⟨.type "tuple", d_NOUGHT, .seq #[.int 0 t_NOUGHT, .int 1 u_NOUGHT] m_NOUGHT, s_NOUGHT⟩)
    (n_UNIT : PySem.W.nsIn K mainGlobals "UNIT" = some (some (.ref a_UNIT))) (q_UNIT : K.lookup a_UNIT = some ⟨.type "tuple", d_UNIT, .seq #[.int 1 t_UNIT, .int 1 u_UNIT] m_UNIT, s_UNIT⟩)
    : ∃ (fd : FuncData) (cs : List (Addr × Addr)) (sp : Sp), (∀ c ∈ cs, h.get? c.2 = some { cls := .none, data := .fields #[] } ∧ K.lookup c.2 = none ∧ PySem.W.CodeHd h c.1 c.2) ∧ (∀ (s : Shared) (v : Value), BindsTo s fd ⟨[v], []⟩ [("_law_script", v)]) ∧ (∀ base : Heap, K.In base → base.Ns mainGlobals mg → (∀ c ∈ cs, GxR.TabB base mg c.1 c.2) → FnG l.prog w K mg base CX0 9 fa fd ["_law_script"] sp) ∧ ∀ (H : Hp) (a : Addr) (ns : List Int), ns.length ≤ 63 → (∀ c ∈ cs, GxR.TabG H c.2) → SqL K H a (ns.map V.int) → sp [.ref a] H (fun v _ => v = .bl true) fun _ _ _ => False := by
  have e := hfa.symm.trans (PySem.W.mg_of X G a43)
  cases e
  have T : Txt K mg := { b_abs := PySem.W.mg_none_of X G z_abs, b_all := PySem.W.mg_none_of X G z_all, b_bool := PySem.W.mg_none_of X G z_bool, b_divmod := PySem.W.mg_none_of X G z_divmod, b_int := PySem.W.mg_none_of X G z_int, b_isinstance := PySem.W.mg_none_of X G z_isinstance, b_len := PySem.W.mg_none_of X G z_len, b_max := PySem.W.mg_none_of X G z_max, b_min := PySem.W.mg_none_of X G z_min, b_range := PySem.W.mg_none_of X G z_range, b_tuple := PySem.W.mg_none_of X G z_tuple, a_NOUGHT := a_NOUGHT, o_NOUGHT := _, m_NOUGHT := PySem.W.mg_of X G n_NOUGHT, l_NOUGHT := q_NOUGHT, k_NOUGHT := ktup2 q_NOUGHT, a_UNIT := a_UNIT, o_UNIT := _, m_UNIT := PySem.W.mg_of X G n_UNIT, l_UNIT := q_UNIT, k_UNIT := ktup2 q_UNIT, t__MOST_MANY := t__MOST_MANY, m__MOST_MANY := PySem.W.mg_of X G n__MOST_MANY, m_gcd := PySem.W.mg_of X G n_gcd }
  have D_ratio_of : Dfn K mg "ratio_of" "ratio_of" s_ratio_of ["number", "under"] [] := dfn_of X G a0 l0 c0 k0 (fun _ _ _ _ _ _ us hl => match us, hl with | [_, _], _ => rfl) (fun _ _ q hq => absurd hq List.not_mem_nil)
  have D_ratio_plus : Dfn K mg "ratio_plus" "ratio_plus" s_ratio_plus ["one", "other"] [] := dfn_of X G a1 l1 c1 k1 (fun _ _ _ _ _ _ us hl => match us, hl with | [_, _], _ => rfl) (fun _ _ q hq => absurd hq List.not_mem_nil)
  have D_ratio_minus : Dfn K mg "ratio_minus" "ratio_minus" s_ratio_minus ["one", "other"] [] := dfn_of X G a2 l2 c2 k2 (fun _ _ _ _ _ _ us hl => match us, hl with | [_, _], _ => rfl) (fun _ _ q hq => absurd hq List.not_mem_nil)
  have D_ratio_times : Dfn K mg "ratio_times" "ratio_times" s_ratio_times ["one", "other"] [] := dfn_of X G a3 l3 c3 k3 (fun _ _ _ _ _ _ us hl => match us, hl with | [_, _], _ => rfl) (fun _ _ q hq => absurd hq List.not_mem_nil)
  have D_ratio_over : Dfn K mg "ratio_over" "ratio_over" s_ratio_over ["one", "other"] [] := dfn_of X G a4 l4 c4 k4 (fun _ _ _ _ _ _ us hl => match us, hl with | [_, _], _ => rfl) (fun _ _ q hq => absurd hq List.not_mem_nil)
  have D_integer_power : Dfn K mg "integer_power" "integer_power" s_integer_power ["base", "many"] [] := dfn_of X G a5 l5 c5 k5 (fun _ _ _ _ _ _ us hl => match us, hl with | [_, _], _ => rfl) (fun _ _ q hq => absurd hq List.not_mem_nil)
  have D_is_integer : Dfn K mg "is_integer" "is_integer" s_is_integer ["value"] [] := dfn_of X G a6 l6 c6 k6 (fun _ _ _ _ _ _ us hl => match us, hl with | [_], _ => rfl) (fun _ _ q hq => absurd hq List.not_mem_nil)
  have D_is_from_to : Dfn K mg "is_from_to" "is_from_to" s_is_from_to ["value", "least", "most"] [] := dfn_of X G a7 l7 c7 k7 (fun _ _ _ _ _ _ us hl => match us, hl with | [_, _, _], _ => rfl) (fun _ _ q hq => absurd hq List.not_mem_nil)
  have D_is_ratio : Dfn K mg "is_ratio" "is_ratio" s_is_ratio ["value"] [] := dfn_of X G a8 l8 c8 k8 (fun _ _ _ _ _ _ us hl => match us, hl with | [_], _ => rfl) (fun _ _ q hq => absurd hq List.not_mem_nil)
  have D__law_draw : Dfn K mg "_law_draw" "_law_draw" s__law_draw ["_law_pot_here", "_law_many"] [] := dfn_of X G a9 l9 c9 k9 (fun _ _ _ _ _ _ us hl => match us, hl with | [_, _], _ => rfl) (fun _ _ q hq => absurd hq List.not_mem_nil)
  have D__law_pick : Dfn K mg "_law_pick" "_law_pick" s__law_pick ["_law_pot_here", "_law_some"] [] := dfn_of X G a10 l10 c10 k10 (fun _ _ _ _ _ _ us hl => match us, hl with | [_, _], _ => rfl) (fun _ _ q hq => absurd hq List.not_mem_nil)
  have D_check_ratio : Dfn K mg "check_ratio" "check_ratio" s_check_ratio ["ratio"] [] := dfn_of X G a11 l11 c11 k11 (fun _ _ _ _ _ _ us hl => match us, hl with | [_], _ => rfl) (fun _ _ q hq => absurd hq List.not_mem_nil)
  have D_check_sum : Dfn K mg "check_sum" "check_sum" s_check_sum ["ratio", "many"] [] := dfn_of X G a12 l12 c12 k12 (fun _ _ _ _ _ _ us hl => match us, hl with | [_, _], _ => rfl) (fun _ _ q hq => absurd hq List.not_mem_nil)
  have D_check_near : Dfn K mg "check_near" "check_near" s_check_near ["ratio"] [] := dfn_of X G a13 l13 c13 k13 (fun _ _ _ _ _ _ us hl => match us, hl with | [_], _ => rfl) (fun _ _ q hq => absurd hq List.not_mem_nil)
  have D__size : Dfn K mg "_size" "_size" s__size ["ratio"] [] := dfn_of X G a14 l14 c14 k14 (fun _ _ _ _ _ _ us hl => match us, hl with | [_], _ => rfl) (fun _ _ q hq => absurd hq List.not_mem_nil)
  have D__apart : Dfn K mg "_apart" "_apart" s__apart ["total", "rest"] [] := dfn_of X G a15 l15 c15 k15 (fun _ _ _ _ _ _ us hl => match us, hl with | [_, _], _ => rfl) (fun _ _ q hq => absurd hq List.not_mem_nil)
  have D_exp_sum : Dfn K mg "exp_sum" "exp_sum" s_exp_sum ["ratio", "many"] [] := dfn_of X G a16 l16 c16 k16 (fun _ _ _ _ _ _ us hl => match us, hl with | [_, _], _ => rfl) (fun _ _ q hq => absurd hq List.not_mem_nil)
  have D_ratio_power : Dfn K mg "ratio_power" "ratio_power" s_ratio_power ["ratio", "many"] [] := dfn_of X G a17 l17 c17 k17 (fun _ _ _ _ _ _ us hl => match us, hl with | [_, _], _ => rfl) (fun _ _ q hq => absurd hq List.not_mem_nil)
  have D__circle_sum : Dfn K mg "_circle_sum" "_circle_sum" s__circle_sum ["ratio", "many", "first", "below"] [] := dfn_of X G a18 l18 c18 k18 (fun _ _ _ _ _ _ us hl => match us, hl with | [_, _, _, _], _ => rfl) (fun _ _ q hq => absurd hq List.not_mem_nil)
  have D_sine_sum : Dfn K mg "sine_sum" "sine_sum" s_sine_sum ["ratio", "many"] [] := dfn_of X G a19 l19 c19 k19 (fun _ _ _ _ _ _ us hl => match us, hl with | [_, _], _ => rfl) (fun _ _ q hq => absurd hq List.not_mem_nil)
  have D_cosine_sum : Dfn K mg "cosine_sum" "cosine_sum" s_cosine_sum ["ratio", "many"] [] := dfn_of X G a20 l20 c20 k20 (fun _ _ _ _ _ _ us hl => match us, hl with | [_, _], _ => rfl) (fun _ _ q hq => absurd hq List.not_mem_nil)
  have D_log_sum : Dfn K mg "log_sum" "log_sum" s_log_sum ["ratio", "many"] [] := dfn_of X G a21 l21 c21 k21 (fun _ _ _ _ _ _ us hl => match us, hl with | [_, _], _ => rfl) (fun _ _ q hq => absurd hq List.not_mem_nil)
  have D_exp_between : Dfn K mg "exp_between" "exp_between" s_exp_between ["ratio", "many"] [] := dfn_of X G a22 l22 c22 k22 (fun _ _ _ _ _ _ us hl => match us, hl with | [_, _], _ => rfl) (fun _ _ q hq => absurd hq List.not_mem_nil)
  have D_sine_between : Dfn K mg "sine_between" "sine_between" s_sine_between ["ratio", "many"] [(["many", "ratio"], 0, [1, 0])] := dfn_of X G a23 l23 c23 k23 (fun _ _ _ _ _ _ us hl => match us, hl with | [_, _], _ => rfl) (kb_sine_between)
  have D_cosine_between : Dfn K mg "cosine_between" "cosine_between" s_cosine_between ["ratio", "many"] [] := dfn_of X G a24 l24 c24 k24 (fun _ _ _ _ _ _ us hl => match us, hl with | [_, _], _ => rfl) (fun _ _ q hq => absurd hq List.not_mem_nil)
  have D_log_between : Dfn K mg "log_between" "log_between" s_log_between ["ratio", "many"] [] := dfn_of X G a25 l25 c25 k25 (fun _ _ _ _ _ _ us hl => match us, hl with | [_, _], _ => rfl) (fun _ _ q hq => absurd hq List.not_mem_nil)
  have D__law_less : Dfn K mg "_law_less" "_law_less" s__law_less ["_law_one", "_law_other"] [] := dfn_of X G a26 l26 c26 k26 (fun _ _ _ _ _ _ us hl => match us, hl with | [_, _], _ => rfl) (fun _ _ q hq => absurd hq List.not_mem_nil)
  have D__law_more : Dfn K mg "_law_more" "_law_more" s__law_more ["_law_one", "_law_other"] [] := dfn_of X G a27 l27 c27 k27 (fun _ _ _ _ _ _ us hl => match us, hl with | [_, _], _ => rfl) (fun _ _ q hq => absurd hq List.not_mem_nil)
  have D__law_power : Dfn K mg "_law_power" "_law_power" s__law_power ["_law_number", "_law_often"] [] := dfn_of X G a28 l28 c28 k28 (fun _ _ _ _ _ _ us hl => match us, hl with | [_, _], _ => rfl) (fun _ _ q hq => absurd hq List.not_mem_nil)
  have D__law_factorial : Dfn K mg "_law_factorial" "_law_factorial" s__law_factorial ["_law_many"] [] := dfn_of X G a29 l29 c29 k29 (fun _ _ _ _ _ _ us hl => match us, hl with | [_], _ => rfl) (fun _ _ q hq => absurd hq List.not_mem_nil)
  have D__law_is_same : Dfn K mg "_law_is_same" "_law_is_same" s__law_is_same ["_law_one", "_law_told"] [] := dfn_of X G a30 l30 c30 k30 (fun _ _ _ _ _ _ us hl => match us, hl with | [_, _], _ => rfl) (fun _ _ q hq => absurd hq List.not_mem_nil)
  have D__law_row : Dfn K mg "_law_row" "_law_row" s__law_row ["_law_ratio_here", "_law_rows", "_law_last", "_law_often"] [] := dfn_of X G a31 l31 c31 k31 (fun _ _ _ _ _ _ us hl => match us, hl with | [_, _, _, _], _ => rfl) (fun _ _ q hq => absurd hq List.not_mem_nil)
  have D__law_exp : Dfn K mg "_law_exp" "_law_exp" s__law_exp ["_law_ratio_here", "_law_many"] [] := dfn_of X G a32 l32 c32 k32 (fun _ _ _ _ _ _ us hl => match us, hl with | [_, _], _ => rfl) (fun _ _ q hq => absurd hq List.not_mem_nil)
  have D__law_sine : Dfn K mg "_law_sine" "_law_sine" s__law_sine ["_law_ratio_here", "_law_many"] [] := dfn_of X G a33 l33 c33 k33 (fun _ _ _ _ _ _ us hl => match us, hl with | [_, _], _ => rfl) (fun _ _ q hq => absurd hq List.not_mem_nil)
  have D__law_cosine : Dfn K mg "_law_cosine" "_law_cosine" s__law_cosine ["_law_ratio_here", "_law_many"] [] := dfn_of X G a34 l34 c34 k34 (fun _ _ _ _ _ _ us hl => match us, hl with | [_, _], _ => rfl) (fun _ _ q hq => absurd hq List.not_mem_nil)
  have D__law_log : Dfn K mg "_law_log" "_law_log" s__law_log ["_law_ratio_here", "_law_many"] [] := dfn_of X G a35 l35 c35 k35 (fun _ _ _ _ _ _ us hl => match us, hl with | [_, _], _ => rfl) (fun _ _ q hq => absurd hq List.not_mem_nil)
  have D__law_told_right : Dfn K mg "_law_told_right" "_law_told_right" s__law_told_right ["_law_told", "_law_own"] [] := dfn_of X G a36 l36 c36 k36 (fun _ _ _ _ _ _ us hl => match us, hl with | [_, _], _ => rfl) (fun _ _ q hq => absurd hq List.not_mem_nil)
  have D__law_do_meet : Dfn K mg "_law_do_meet" "_law_do_meet" s__law_do_meet ["_law_one", "_law_other"] [] := dfn_of X G a37 l37 c37 k37 (fun _ _ _ _ _ _ us hl => match us, hl with | [_, _], _ => rfl) (fun _ _ q hq => absurd hq List.not_mem_nil)
  have D__law_product : Dfn K mg "_law_product" "_law_product" s__law_product ["_law_one", "_law_other"] [] := dfn_of X G a38 l38 c38 k38 (fun _ _ _ _ _ _ us hl => match us, hl with | [_, _], _ => rfl) (fun _ _ q hq => absurd hq List.not_mem_nil)
  have D__law_least : Dfn K mg "_law_least" "_law_least" s__law_least ["_law_number", "_law_under"] [] := dfn_of X G a39 l39 c39 k39 (fun _ _ _ _ _ _ us hl => match us, hl with | [_, _], _ => rfl) (fun _ _ q hq => absurd hq List.not_mem_nil)
  have D__law_ratio : Dfn K mg "_law_ratio" "_law_ratio" s__law_ratio ["_law_pot_here", "_law_is_log"] [] := dfn_of X G a40 l40 c40 k40 (fun _ _ _ _ _ _ us hl => match us, hl with | [_, _], _ => rfl) (fun _ _ q hq => absurd hq List.not_mem_nil)
  have D__law_right : Dfn K mg "_law_right" "_law_right" s__law_right ["_law_pot_here"] [] := dfn_of X G a41 l41 c41 k41 (fun _ _ _ _ _ _ us hl => match us, hl with | [_], _ => rfl) (fun _ _ q hq => absurd hq List.not_mem_nil)
  have F42 := fun_mk (st := s__law_pot) l42 c42 k42
  have b42 := F42.binds (ps := ["_law_script", "_law_k"]) fun _ _ _ _ _ _ us hl => match us, hl with | [_, _], _ => rfl
  refine ⟨PySem.W.fnOf "law" "law" (defArgs s_law) (defBody s_law) (defScope s_law) .none kV43 dc43 pm43 an43 cd43 ct43, [], spLaw K [], ?_, fun s v => .of_eq rfl, fun base _ _ hTB => ?_, fun H a ns _ hT hS => ⟨a, ns, rfl, hS, ?_, fun _ => rfl⟩⟩
  · intro c hc
    cases hc
  rotate_left
  · intro t ht
    cases ht
  have C_ratio_of := ok_ratio_of (P := l.prog) (w := w) (base := base) (tabs := ⟨[], mg⟩) T D_ratio_of
  have C_ratio_plus := ok_ratio_plus (P := l.prog) (w := w) (base := base) (tabs := ⟨[], mg⟩) T D_ratio_plus C_ratio_of
  have C_ratio_minus := ok_ratio_minus (P := l.prog) (w := w) (base := base) (tabs := ⟨[], mg⟩) T D_ratio_minus C_ratio_plus
  have C_ratio_times := ok_ratio_times (P := l.prog) (w := w) (base := base) (tabs := ⟨[], mg⟩) T D_ratio_times C_ratio_of
  have C_ratio_over := ok_ratio_over (P := l.prog) (w := w) (base := base) (tabs := ⟨[], mg⟩) T D_ratio_over C_ratio_of
  have C_integer_power := ok_integer_power (P := l.prog) (w := w) (base := base) (tabs := ⟨[], mg⟩) T D_integer_power
  have C_is_integer := ok_is_integer (P := l.prog) (w := w) (base := base) (tabs := ⟨[], mg⟩) T D_is_integer
  have C_is_from_to := ok_is_from_to (P := l.prog) (w := w) (base := base) (tabs := ⟨[], mg⟩) T D_is_from_to C_is_integer
  have C_is_ratio := ok_is_ratio (P := l.prog) (w := w) (base := base) (tabs := ⟨[], mg⟩) T D_is_ratio C_is_integer
  have C__law_draw := ok__law_draw (P := l.prog) (w := w) (base := base) (tabs := ⟨[], mg⟩) T D__law_draw
  have C__law_pick := ok__law_pick (P := l.prog) (w := w) (base := base) (tabs := ⟨[], mg⟩) T D__law_pick C__law_draw
  have C_check_ratio := ok_check_ratio (P := l.prog) (w := w) (base := base) (tabs := ⟨[], mg⟩) T D_check_ratio C_is_ratio
  have C_check_sum := ok_check_sum (P := l.prog) (w := w) (base := base) (tabs := ⟨[], mg⟩) T D_check_sum C_check_ratio C_is_from_to
  have C_check_near := ok_check_near (P := l.prog) (w := w) (base := base) (tabs := ⟨[], mg⟩) T D_check_near
  have C__size := ok__size (P := l.prog) (w := w) (base := base) (tabs := ⟨[], mg⟩) T D__size
  have C__apart := ok__apart (P := l.prog) (w := w) (base := base) (tabs := ⟨[], mg⟩) T D__apart C_ratio_plus C_ratio_minus
  have C_exp_sum := ok_exp_sum (P := l.prog) (w := w) (base := base) (tabs := ⟨[], mg⟩) T D_exp_sum C_ratio_plus C_ratio_times C_ratio_of C__apart C__size
  have C_ratio_power := ok_ratio_power (P := l.prog) (w := w) (base := base) (tabs := ⟨[], mg⟩) T D_ratio_power C_integer_power
  have C__circle_sum := ok__circle_sum (P := l.prog) (w := w) (base := base) (tabs := ⟨[], mg⟩) T D__circle_sum C_ratio_power C_ratio_plus C_ratio_times C_ratio_of C__apart C__size
  have C_sine_sum := ok_sine_sum (P := l.prog) (w := w) (base := base) (tabs := ⟨[], mg⟩) T D_sine_sum C__circle_sum
  have C_cosine_sum := ok_cosine_sum (P := l.prog) (w := w) (base := base) (tabs := ⟨[], mg⟩) T D_cosine_sum C__circle_sum
  have C_log_sum := ok_log_sum (P := l.prog) (w := w) (base := base) (tabs := ⟨[], mg⟩) T D_log_sum C_ratio_over C_ratio_plus C_ratio_minus C_ratio_power C_ratio_times C_ratio_of C__size C__apart
  have C_exp_between := ok_exp_between (P := l.prog) (w := w) (base := base) (tabs := ⟨[], mg⟩) T D_exp_between C_check_sum C_check_near C_exp_sum
  have C_sine_between := ok_sine_between (P := l.prog) (w := w) (base := base) (tabs := ⟨[], mg⟩) T D_sine_between C_check_sum C_check_near C_sine_sum
  have C_cosine_between := ok_cosine_between (P := l.prog) (w := w) (base := base) (tabs := ⟨[], mg⟩) T D_cosine_between C_check_sum C_check_near C_cosine_sum
  have C_log_between := ok_log_between (P := l.prog) (w := w) (base := base) (tabs := ⟨[], mg⟩) T D_log_between C_check_sum C_log_sum
  have C__law_less := ok__law_less (P := l.prog) (w := w) (base := base) (tabs := ⟨[], mg⟩) T D__law_less
  have C__law_more := ok__law_more (P := l.prog) (w := w) (base := base) (tabs := ⟨[], mg⟩) T D__law_more
  have C__law_power := ok__law_power (P := l.prog) (w := w) (base := base) (tabs := ⟨[], mg⟩) T D__law_power
  have C__law_factorial := ok__law_factorial (P := l.prog) (w := w) (base := base) (tabs := ⟨[], mg⟩) T D__law_factorial
  have C__law_is_same := ok__law_is_same (P := l.prog) (w := w) (base := base) (tabs := ⟨[], mg⟩) T D__law_is_same
  have C__law_row := ok__law_row (P := l.prog) (w := w) (base := base) (tabs := ⟨[], mg⟩) T D__law_row C__law_more C__law_power
  have C__law_exp := ok__law_exp (P := l.prog) (w := w) (base := base) (tabs := ⟨[], mg⟩) T D__law_exp C__law_factorial C__law_row
  have C__law_sine := ok__law_sine (P := l.prog) (w := w) (base := base) (tabs := ⟨[], mg⟩) T D__law_sine C__law_factorial C__law_row
  have C__law_cosine := ok__law_cosine (P := l.prog) (w := w) (base := base) (tabs := ⟨[], mg⟩) T D__law_cosine C__law_factorial C__law_row
  have C__law_log := ok__law_log (P := l.prog) (w := w) (base := base) (tabs := ⟨[], mg⟩) T D__law_log C__law_row
  have C__law_told_right := ok__law_told_right (P := l.prog) (w := w) (base := base) (tabs := ⟨[], mg⟩) T D__law_told_right C__law_is_same C__law_more C__law_less
  have C__law_do_meet := ok__law_do_meet (P := l.prog) (w := w) (base := base) (tabs := ⟨[], mg⟩) T D__law_do_meet C__law_less
  have C__law_product := ok__law_product (P := l.prog) (w := w) (base := base) (tabs := ⟨[], mg⟩) T D__law_product C__law_less
  have C__law_least := ok__law_least (P := l.prog) (w := w) (base := base) (tabs := ⟨[], mg⟩) T D__law_least
  have C__law_ratio := ok__law_ratio (P := l.prog) (w := w) (base := base) (tabs := ⟨[], mg⟩) T D__law_ratio C__law_draw C__law_least C__law_pick
  have FA__law_right : ∀ x ∈ (["exp_between", "sine_between", "cosine_between", "log_between"] : List Str), FnAt K ⟨[], mg⟩ x := by
    intro x hx
    simp only [List.mem_cons, List.not_mem_nil, or_false] at hx
    rcases hx with rfl | rfl | rfl | rfl
    · exact ⟨f22, od22, _, sl22, PySem.W.mg_of X G a22, l22, rfl⟩
    · exact ⟨f23, od23, _, sl23, PySem.W.mg_of X G a23, l23, rfl⟩
    · exact ⟨f24, od24, _, sl24, PySem.W.mg_of X G a24, l24, rfl⟩
    · exact ⟨f25, od25, _, sl25, PySem.W.mg_of X G a25, l25, rfl⟩
  have C__law_right := ok__law_right (P := l.prog) (w := w) (base := base) (tabs := ⟨[], mg⟩) T D__law_right rfl FA__law_right C__law_log C_log_between C__law_cosine C_cosine_between C__law_sine C_sine_between C__law_exp C_exp_between C__law_draw C__law_ratio C__law_told_right C__law_do_meet C__law_product C__law_more
  exact raw_law (fun_mk (st := s_law) l43 c43 k43) (raw_pot T F42) b42 (PySem.W.mg_of X G a42) k42 C__law_right
end LW
open PySem PySem.W PyProof.Rows in
set_option maxRecDepth 100000 in
set_option maxHeartbeats 0 in
theorem PySem.Challenge.cw_truecourse_k31_whole_sums_with_rests_holds : PySem.Challenge.rw_truecourse_k31_whole_sums_with_rests.Holds := by
  w_on; o_law; k_head; (case hw => w_witness2)
  k_fill
  refine DL.walkG (l := PySem.Challenge.rw_truecourse_k31_whole_sums_with_rests) (n := 63) (x := "_law_script") (k := 9) rfl (by decide) rfl ⟨rfl, by decide, by decide⟩ (fun w h Y => PySem.W.kIn_of Y) ?F
  case F =>
    intro w mg fa h KX G hmg own
    refine' LW.all_mk KX G hmg ?a0 ?l0 ?c0 ?k0 ?a1 ?l1 ?c1 ?k1 ?a2 ?l2 ?c2 ?k2 ?a3 ?l3 ?c3 ?k3 ?a4 ?l4 ?c4 ?k4 ?a5 ?l5 ?c5 ?k5 ?a6 ?l6 ?c6 ?k6 ?a7 ?l7 ?c7 ?k7 ?a8 ?l8 ?c8 ?k8 ?a9 ?l9 ?c9 ?k9 ?a10 ?l10 ?c10 ?k10 ?a11 ?l11 ?c11 ?k11 ?a12 ?l12 ?c12 ?k12 ?a13 ?l13 ?c13 ?k13 ?a14 ?l14 ?c14 ?k14 ?a15 ?l15 ?c15 ?k15 ?a16 ?l16 ?c16 ?k16 ?a17 ?l17 ?c17 ?k17 ?a18 ?l18 ?c18 ?k18 ?a19 ?l19 ?c19 ?k19 ?a20 ?l20 ?c20 ?k20 ?a21 ?l21 ?c21 ?k21 ?a22 ?l22 ?c22 ?k22 ?a23 ?l23 ?c23 ?k23 ?a24 ?l24 ?c24 ?k24 ?a25 ?l25 ?c25 ?k25 ?a26 ?l26 ?c26 ?k26 ?a27 ?l27 ?c27 ?k27 ?a28 ?l28 ?c28 ?k28 ?a29 ?l29 ?c29 ?k29 ?a30 ?l30 ?c30 ?k30 ?a31 ?l31 ?c31 ?k31 ?a32 ?l32 ?c32 ?k32 ?a33 ?l33 ?c33 ?k33 ?a34 ?l34 ?c34 ?k34 ?a35 ?l35 ?c35 ?k35 ?a36 ?l36 ?c36 ?k36 ?a37 ?l37 ?c37 ?k37 ?a38 ?l38 ?c38 ?k38 ?a39 ?l39 ?c39 ?k39 ?a40 ?l40 ?c40 ?k40 ?a41 ?l41 ?c41 ?k41 ?a42 ?l42 ?c42 ?k42 ?a43 ?l43 ?c43 ?k43 ?z_abs ?z_all ?z_bool ?z_divmod ?z_int ?z_isinstance ?z_len ?z_max ?z_min ?z_range ?z_tuple ?n_gcd ?n__MOST_MANY ?n_NOUGHT ?q_NOUGHT ?n_UNIT ?q_UNIT
    (case a0 => k_is)
    (case l0 => k_is)
    (case c0 => k_is)
    (case k0 => k_is)
    (case a1 => k_is)
    (case l1 => k_is)
    (case c1 => k_is)
    (case k1 => k_is)
    (case a2 => k_is)
    (case l2 => k_is)
    (case c2 => k_is)
    (case k2 => k_is)
    (case a3 => k_is)
    (case l3 => k_is)
    (case c3 => k_is)
    (case k3 => k_is)
    (case a4 => k_is)
    (case l4 => k_is)
    (case c4 => k_is)
    (case k4 => k_is)
    (case a5 => k_is)
    (case l5 => k_is)
    (case c5 => k_is)
    (case k5 => k_is)
    (case a6 => k_is)
    (case l6 => k_is)
    (case c6 => k_is)
    (case k6 => k_is)
    (case a7 => k_is)
    (case l7 => k_is)
    (case c7 => k_is)
    (case k7 => k_is)
    (case a8 => k_is)
    (case l8 => k_is)
    (case c8 => k_is)
    (case k8 => k_is)
    (case a9 => k_is)
    (case l9 => k_is)
    (case c9 => k_is)
    (case k9 => k_is)
    (case a10 => k_is)
    (case l10 => k_is)
    (case c10 => k_is)
    (case k10 => k_is)
    (case a11 => k_is)
    (case l11 => k_is)
    (case c11 => k_is)
    (case k11 => k_is)
    (case a12 => k_is)
    (case l12 => k_is)
    (case c12 => k_is)
    (case k12 => k_is)
    (case a13 => k_is)
    (case l13 => k_is)
    (case c13 => k_is)
    (case k13 => k_is)
    (case a14 => k_is)
    (case l14 => k_is)
    (case c14 => k_is)
    (case k14 => k_is)
    (case a15 => k_is)
    (case l15 => k_is)
    (case c15 => k_is)
    (case k15 => k_is)
    (case a16 => k_is)
    (case l16 => k_is)
    (case c16 => k_is)
    (case k16 => k_is)
    (case a17 => k_is)
    (case l17 => k_is)
    (case c17 => k_is)
    (case k17 => k_is)
    (case a18 => k_is)
    (case l18 => k_is)
    (case c18 => k_is)
    (case k18 => k_is)
    (case a19 => k_is)
    (case l19 => k_is)
    (case c19 => k_is)
    (case k19 => k_is)
    (case a20 => k_is)
    (case l20 => k_is)
    (case c20 => k_is)
    (case k20 => k_is)
    (case a21 => k_is)
    (case l21 => k_is)
    (case c21 => k_is)
    (case k21 => k_is)
    (case a22 => k_is)
    (case l22 => k_is)
    (case c22 => k_is)
    (case k22 => k_is)
    (case a23 => k_is)
    (case l23 => k_is)
    (case c23 => k_is)
    (case k23 => k_is)
    (case a24 => k_is)
    (case l24 => k_is)
    (case c24 => k_is)
    (case k24 => k_is)
    (case a25 => k_is)
    (case l25 => k_is)
    (case c25 => k_is)
    (case k25 => k_is)
    (case a26 => k_is)
    (case l26 => k_is)
    (case c26 => k_is)
    (case k26 => k_is)
    (case a27 => k_is)
    (case l27 => k_is)
    (case c27 => k_is)
    (case k27 => k_is)
    (case a28 => k_is)
    (case l28 => k_is)
    (case c28 => k_is)
    (case k28 => k_is)
    (case a29 => k_is)
    (case l29 => k_is)
    (case c29 => k_is)
    (case k29 => k_is)
    (case a30 => k_is)
    (case l30 => k_is)
    (case c30 => k_is)
    (case k30 => k_is)
    (case a31 => k_is)
    (case l31 => k_is)
    (case c31 => k_is)
    (case k31 => k_is)
    (case a32 => k_is)
    (case l32 => k_is)
    (case c32 => k_is)
    (case k32 => k_is)
    (case a33 => k_is)
    (case l33 => k_is)
    (case c33 => k_is)
    (case k33 => k_is)
    (case a34 => k_is)
    (case l34 => k_is)
    (case c34 => k_is)
    (case k34 => k_is)
    (case a35 => k_is)
    (case l35 => k_is)
    (case c35 => k_is)
    (case k35 => k_is)
    (case a36 => k_is)
    (case l36 => k_is)
    (case c36 => k_is)
    (case k36 => k_is)
    (case a37 => k_is)
    (case l37 => k_is)
    (case c37 => k_is)
    (case k37 => k_is)
    (case a38 => k_is)
    (case l38 => k_is)
    (case c38 => k_is)
    (case k38 => k_is)
    (case a39 => k_is)
    (case l39 => k_is)
    (case c39 => k_is)
    (case k39 => k_is)
    (case a40 => k_is)
    (case l40 => k_is)
    (case c40 => k_is)
    (case k40 => k_is)
    (case a41 => k_is)
    (case l41 => k_is)
    (case c41 => k_is)
    (case k41 => k_is)
    (case a42 => k_is)
    (case l42 => k_is)
    (case c42 => k_is)
    (case k42 => k_is)
    (case a43 => k_is)
    (case l43 => k_is)
    (case c43 => k_is)
    (case k43 => k_is)
    (case z_abs => k_is)
    (case z_all => k_is)
    (case z_bool => k_is)
    (case z_divmod => k_is)
    (case z_int => k_is)
    (case z_isinstance => k_is)
    (case z_len => k_is)
    (case z_max => k_is)
    (case z_min => k_is)
    (case z_range => k_is)
    (case z_tuple => k_is)
    (case n_gcd => k_is)
    (case n__MOST_MANY => k_is)
    (case n_NOUGHT => k_is)
    (case q_NOUGHT => k_is)
    (case n_UNIT => k_is)
    (case q_UNIT => k_is)
