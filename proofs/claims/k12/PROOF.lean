import PyProof.Rows.All
import Wide.All
import OpenK.AllK
import Wide.FinOn
import HandS.Codes
import HandS.Words
import HandS.Head3
import HandS.HeadHook1
import HandS.ExcField
import KE.KExcInit
import HandS.ForMost
import HandS.AnyAll
import HandS.GenList
import HandS.Wide
import HandS.WideBits
import HandS.IsInst
import HandS.Gcd
import HandS.TupAny
import HandS.Zip
import HandS.RaiseMore
import HandS.Lambda
import PyProof.ReprRoads
import Flt.RightSqrt
import HandS.Style
import KE.KMathG
import PyProof.ReprText
import HandS.Deep
import HandS.EndBits
import KE.KNestM
import KE.DatumOrd
import HandS.CallLocal
import KE.GoesEnum
import KE.GoesNew
import HandS.TupMul
import KE.GoesMore
import HandS.ExcInit
import HandS.HotCalls
import PySem.Challenge.RW_truecourse_k12_whole_intervals_reckoned
set_option Elab.async false
set_option linter.all false
set_option maxRecDepth 100000
set_option autoImplicit false
namespace DL
open PySem PySem.Spec L2
open PyProof.Rows hiding St
def methS : Stmt → Stmt
  | .ClassDef _ _ _ b _ _ _ _ _ _ _ => b.headD (.Pass ⟨0, 0, 0, 0⟩)
  | s => s
inductive Fx where
  | old (f : He.Fa)
  | num (x : Str) (i : Int)
  | bui (x : Str) (y : String)
  | tw (x : Str) (i j : Int)
  | tab (x : Str)
  | fcl (x : Str)
  | exg (x : Str) (B newId : String)
  | mth (x m : Str)
  | xf (x : Str)
  | tne (x y : Str)
def bmOf (B : String) : List Value := [.type B, .type "Exception", .type "BaseException", .type "object"]
def exgB (K : PySem.W.Frag) (C : Addr) (bm : List Value) (newId : String) : Bool := PySem.W.excInitIn K C bm newId && (PySem.W.excOver K C bm && (PySem.W.hasDictIn K C && (He.eqO (PySem.W.findIn K (.ref C) "__setattr__") (some (some (.builtin "object.__setattr__"))) && (decide (PySem.W.subIn K (.ref C) (.type "BaseException") = some true) && (decide (PySem.W.typeIn K (.ref C) = some (.type "type")) && PySem.W.keepIn K (.ref C))))))
def mthB (K : PySem.W.Frag) (C : Addr) (m : Str) : Bool := He.eqO (PySem.W.findIn K (.ref C) m) (some (some (.ref (He.ma K C m)))) && decide (PySem.W.typeIn K (.ref (He.ma K C m)) = some (.type "function"))
def tabV : Option Value → Option Addr | some (.ref P) => some P | _ => none
def tabO : Option Obj → Option Addr | some ⟨_, _, .fields vs, _⟩ => tabV (vs[11]? : Option Value) | _ => none
def tabC (K : PySem.W.Frag) : Value → Option Addr | .ref c => tabO (K.lookup c) | _ => none
def tabF (K : PySem.W.Frag) : Option Obj → Option Addr | some ⟨_, _, .func fd, _⟩ => tabC K fd.code | _ => none
def gNs (K : PySem.W.Frag) (x : Str) : Option Value := (PySem.W.nsIn K mainGlobals x).bind id
def isNum (i : Int) : Option Value → Bool | some (.int n _) => decide (n = i) | _ => false
def isBui (y : String) : Option Value → Bool | some (.builtin z) => decide (z = y) | _ => false
def isTwo (i j : Int) : List Value → Bool | [.int n _, .int m _] => decide (n = i) && decide (m = j) | _ => false
def twObj (i j : Int) : Option Obj → Bool | some ⟨.type c, _, .seq its _, _⟩ => decide (c = "tuple") && isTwo i j its.toList | _ => false
def isTw (K : PySem.W.Frag) (i j : Int) : Option Value → Bool | some (.ref a) => twObj i j (K.lookup a) | _ => false
def isTab (K : PySem.W.Frag) : Option Value → Bool | some (.ref P) => (K.lookup P).isNone | _ => false
def fldTab (K : PySem.W.Frag) : Option Obj → Bool | some ⟨_, _, .fields vs, _⟩ => isTab K (vs[11]? : Option Value) | _ => false
def cdTab (K : PySem.W.Frag) : Value → Bool | .ref c => fldTab K (K.lookup c) | _ => false
def fnTab (K : PySem.W.Frag) : Option Obj → Bool | some ⟨_, _, .func fd, _⟩ => cdTab K fd.code | _ => false
def isFcl : Option Obj → Bool | some ⟨.type c, _, _, _⟩ => decide (c = "function") | _ => false
def Fx.ok (K : PySem.W.Frag) : Fx → Bool
  | .old f => f.ok K
  | .num x i => isNum i (gNs K x)
  | .bui x y => isBui y (gNs K x)
  | .tw x i j => isTw K i j (gNs K x)
  | .tab x => fnTab K (K.lookup (He.ga K x))
  | .fcl x => isFcl (K.lookup (He.ga K x))
  | .exg x B newId => exgB K (He.ga K x) (bmOf B) newId
  | .mth x m => mthB K (He.ga K x) m
  | .xf x => L2.xfB K (He.ga K x)
  | .tne x y => !decide (tabF K (K.lookup (He.ga K x)) = tabF K (K.lookup (He.ga K y)))
theorem gNs_eq {K : PySem.W.Frag} {x : Str} {v : Value} (h : gNs K x = some v) : PySem.W.nsIn K mainGlobals x = some (some v) := by
  unfold gNs at h
  cases e : PySem.W.nsIn K mainGlobals x with
  | none => rw [e] at h; cases h
  | some o => rw [e] at h; exact congrArg some h
theorem bui_eq {K : PySem.W.Frag} {x : Str} {y : String} (h : (Fx.bui x y).ok K = true) : PySem.W.nsIn K mainGlobals x = some (some (.builtin y)) := by
  have h : isBui y (gNs K x) = true := h
  cases e : gNs K x with
  | none => rw [e] at h; cases h
  | some v =>
    rw [e] at h
    cases v with
    | builtin z =>
      have := of_decide_eq_true (show decide (z = y) = true from h)
      rw [gNs_eq e, this]
    | _ => cases h
theorem num_eq {K : PySem.W.Frag} {x : Str} {i : Int} (h : (Fx.num x i).ok K = true) : ∃ t, PySem.W.nsIn K mainGlobals x = some (some (.int i t)) := by
  have h : isNum i (gNs K x) = true := h
  cases e : gNs K x with
  | none => rw [e] at h; cases h
  | some v =>
    rw [e] at h
    cases v with
    | int n t =>
      have := of_decide_eq_true (show decide (n = i) = true from h)
      exact ⟨t, by rw [gNs_eq e, this]⟩
    | _ => cases h
theorem two_eq {i j : Int} : ∀ {l : List Value}, isTwo i j l = true → ∃ t u, l = [.int i t, .int j u]
  | [.int n t, .int m u], h => by
    obtain ⟨h1, h2⟩ := Bool.and_eq_true_iff.mp (show (decide (n = i) && decide (m = j)) = true from h)
    exact ⟨t, u, by rw [of_decide_eq_true h1, of_decide_eq_true h2]⟩
theorem tw_eq {K : PySem.W.Frag} {x : Str} {i j : Int} (h : (Fx.tw x i j).ok K = true) : ∃ (a : Addr) (t u : Tok) (d : Option Addr) (m : Nat) (s : Array (Option Value)), PySem.W.nsIn K mainGlobals x = some (some (.ref a)) ∧ K.lookup a = some ⟨.type "tuple", d, .seq #[.int i t, .int j u] m, s⟩ := by
  have h : isTw K i j (gNs K x) = true := h
  cases e : gNs K x with
  | none => rw [e] at h; cases h
  | some v =>
    rw [e] at h
    cases v with
    | ref a =>
      have h : twObj i j (K.lookup a) = true := h
      cases e2 : K.lookup a with
      | none => rw [e2] at h; cases h
      | some o =>
        rw [e2] at h
        obtain ⟨oc, d, dt, s⟩ := o
        cases oc with
        | type c =>
          cases dt with
          | seq its m =>
            obtain ⟨h1, h2⟩ := Bool.and_eq_true_iff.mp (show (decide (c = "tuple") && isTwo i j its.toList) = true from h)
            obtain ⟨t, u, e3⟩ := two_eq h2
            have e4 : its = #[.int i t, .int j u] := Array.toList_inj.mp e3
            exact ⟨a, t, u, d, m, s, gNs_eq e, by rw [e2, of_decide_eq_true h1, e4]⟩
          | _ => cases h
        | _ => cases dt <;> cases h
    | _ => cases h
theorem tab_eq {K : PySem.W.Frag} {x : Str} {oc : Value} {od : Option Addr} {fd : FuncData} {sl : Array (Option Value)} (h : (Fx.tab x).ok K = true) (l : K.lookup (He.ga K x) = some ⟨oc, od, .func fd, sl⟩) :
    ∃ (gc gp : Addr) (ge : Value) (gd : Option Addr) (gv : Array Value) (gs : Array (Option Value)), fd.code = .ref gc ∧ K.lookup gc = some ⟨ge, gd, .fields gv, gs⟩ ∧ gv[11]? = some (.ref gp) ∧ K.lookup gp = none := by
  have h : fnTab K (K.lookup (He.ga K x)) = true := h
  rw [l] at h
  have h : cdTab K fd.code = true := h
  cases e : fd.code with
  | ref c =>
    rw [e] at h
    have h : fldTab K (K.lookup c) = true := h
    cases e2 : K.lookup c with
    | none => rw [e2] at h; cases h
    | some o =>
      rw [e2] at h
      obtain ⟨ge, gd, dt, gs⟩ := o
      cases dt with
      | fields gv =>
        have h : isTab K (gv[11]? : Option Value) = true := h
        cases e3 : (gv[11]? : Option Value) with
        | none => rw [e3] at h; cases h
        | some v =>
          rw [e3] at h
          cases v with
          | ref P => exact ⟨c, P, ge, gd, gv, gs, rfl, e2, e3, Option.isNone_iff_eq_none.mp h⟩
          | _ => cases h
      | _ => cases h
  | _ => rw [e] at h; cases h
def growD (g : Addr → Option Obj) (as : List Addr) : List Addr := as ++ (as.flatMap fun a => match g a with
  | some ⟨_, _, .dict es _, _⟩ => es.toList.flatMap fun e => He.refV e.val
  | _ => []).filter fun b => !as.contains b
def growF (g : Addr → Option Obj) (as : List Addr) : List Addr := as ++ (as.flatMap fun a => match g a with
  | some ⟨_, _, .func fd, _⟩ => He.refV fd.code
  | _ => []).filter fun b => !as.contains b
def asN (g : Addr → Option Obj) (n : Nat) : List Addr := if n = 9 then growF g (growD g (He.asG g 2)) else He.asG g n
abbrev AlX : Type := Bool × List He.FnV
def obsX (fx : List Fx) (fn : List He.FnD) (K : PySem.W.Frag) : AlX := ((fx.all fun f => f.ok K) && fn.all fun d => (He.Fa.code d.at_ d.qual).ok K, fn.map fun d => He.fnObs K d.at_)
def valX (fn : List He.FnD) : AlX := (true, fn.map He.FnD.val)
def SaysX (fx : List Fx) (fn : List He.FnD) (K : PySem.W.Frag) : Prop := obsX fx fn K = valX fn
def obsXG (n : Nat) (fx : List Fx) (fn : List He.FnD) (g : Addr → Option Obj) : AlX := obsX fx fn (He.frG g (asN g n))
def hookX (n : Nat) (fx : List Fx) (fn : List He.FnD) : PySem.W.Hook where
  α := AlX
  obs := fun s => obsXG n fx fn s.heap.get?
  val := fun _ => valX fn
  says := fun _ h => ∃ K : PySem.W.Frag, K.In h ∧ SaysX fx fn K
  of := fun _ _ e => ⟨_, He.frG_in, e⟩
  keeps := fun _ _ _ ⟨K, hK, c⟩ k => ⟨K, PySem.W.Frag.In.keeps hK k, c⟩
def obX (n : Nat) (fx : List Fx) (fn : List He.FnD) (s : PySem.W.SharedT) : AlX := obsXG n fx fn (HandSHeadRun.getT s)
theorem obX_eq (n : Nat) (fx : List Fx) (fn : List He.FnD) (s : PySem.W.SharedT) : obX n fx fn s = (hookX n fx fn).obs s.abs := by
  have e : HandSHeadRun.getT s = s.abs.heap.get? := funext (HandSHeadRun.getT_eq s)
  unfold obX
  rw [e]
  rfl
section
variable {fx : List Fx} {fn : List He.FnD} {K : PySem.W.Frag}
theorem SaysX.fact (c : SaysX fx fn K) (i : Nat) {f : Fx} (h : fx[i]? = some f) : f.ok K = true := by
  have c1 := (Bool.and_eq_true_iff.mp (show ((fx.all fun f => f.ok K) && fn.all fun d => (He.Fa.code d.at_ d.qual).ok K) = true from congrArg (fun z : AlX => z.1) c)).1
  exact List.all_eq_true.mp c1 f (List.mem_of_getElem? h)
theorem SaysX.def_ (c : SaysX fx fn K) (i : Nat) {d : He.FnD} (h : fn[i]? = some d) :
    ∃ oc od osl kV doc pm an cdv ct, K.lookup (He.fAd K d.at_) = some ⟨oc, od, .func (PySem.W.fnOf d.name d.qual d.params d.body d.scope .none kV doc pm an cdv ct), osl⟩ ∧ PySem.W.codeIn K cdv d.qual = true := by
  have c2 := (Bool.and_eq_true_iff.mp (show ((fx.all fun f => f.ok K) && fn.all fun d => (He.Fa.code d.at_ d.qual).ok K) = true from congrArg (fun z : AlX => z.1) c)).2
  have e : fn.map (fun d => He.fnObs K d.at_) = fn.map He.FnD.val := congrArg (fun z : AlX => z.2) c
  have e2 : (fn.map fun d => He.fnObs K d.at_)[i]? = (fn.map He.FnD.val)[i]? := by rw [e]
  rw [List.getElem?_map, List.getElem?_map, h] at e2
  exact He.fn_ok (Option.some.inj e2) (List.all_eq_true.mp c2 d (List.mem_of_getElem? h))
end
theorem obsX_both {fx1 fx2 : List Fx} {fn1 fn2 : List He.FnD} {K : PySem.W.Frag} (h1 : obsX fx1 fn1 K = valX fn1) (h2 : obsX fx2 fn2 K = valX fn2) : obsX (fx1 ++ fx2) (fn1 ++ fn2) K = valX (fn1 ++ fn2) := by
  obtain ⟨a1, b1⟩ := Prod.mk.inj h1
  obtain ⟨a2, b2⟩ := Prod.mk.inj h2
  obtain ⟨c1, d1⟩ := Bool.and_eq_true_iff.mp a1
  obtain ⟨c2, d2⟩ := Bool.and_eq_true_iff.mp a2
  refine Prod.ext ?_ ?_
  · show ((fx1 ++ fx2).all (fun f => f.ok K) && (fn1 ++ fn2).all fun d => (He.Fa.code d.at_ d.qual).ok K) = true
    rw [List.all_append, List.all_append, c1, c2, d1, d2]
    rfl
  · show (fn1 ++ fn2).map (fun d => He.fnObs K d.at_) = (fn1 ++ fn2).map He.FnD.val
    rw [List.map_append, List.map_append, b1, b2]
theorem run_both {r : PySem.W.OpenRow} {q : Program} {n M : Nat} {fx1 fx2 : List Fx} {fn1 fn2 : List He.FnD} {loose : List PySem.Str} {w : World} (h1 : HandSHeadRun.RunEqI r q (hookX n fx1 fn1) (obX n fx1 fn1) M loose w) (h2 : HandSHeadRun.RunEqI r q (hookX n fx2 fn2) (obX n fx2 fn2) M loose w) :
    HandSHeadRun.RunEqI r q (hookX n (fx1 ++ fx2) (fn1 ++ fn2)) (obX n (fx1 ++ fx2) (fn1 ++ fn2)) M loose w := by
  obtain ⟨x, e1, e2⟩ := Option.map_eq_some_iff.mp h1
  obtain ⟨y, e3, e4⟩ := Option.map_eq_some_iff.mp h2
  have exy : x = y := Option.some.inj (e1.symm.trans e3)
  subst exy
  refine Option.map_eq_some_iff.mpr ⟨x, e1, ?_⟩
  obtain ⟨a1, b1⟩ := Prod.mk.inj e2
  obtain ⟨b2, c1⟩ := Prod.mk.inj b1
  obtain ⟨_, b3⟩ := Prod.mk.inj e4
  obtain ⟨_, c2⟩ := Prod.mk.inj b3
  exact Prod.ext a1 (Prod.ext b2 (obsX_both c1 c2))
end DL
namespace LW
open PySem PySem.Spec L2 DL
open PyProof.Rows hiding St
def top (i : Nat) : Stmt := PySem.Challenge.pw_truecourse_k12_whole_intervals_reckoned.main.body.getD i (.Pass ⟨0, 0, 0, 0⟩)
abbrev s_is_integer : Stmt := top 33
abbrev s_is_interval : Stmt := top 40
abbrev s_check_interval : Stmt := top 41
abbrev s__check_both : Stmt := top 42
abbrev s_in_bounds : Stmt := top 19
abbrev s_grain_times : Stmt := top 23
abbrev s_times : Stmt := top 48
abbrev s_floor_of : Stmt := top 13
abbrev s_ceiling_of : Stmt := top 14
abbrev s_grain_hull : Stmt := top 27
abbrev s_grain_meet : Stmt := top 28
abbrev s_lies_within : Stmt := top 29
abbrev s_middle_of : Stmt := top 30
abbrev s_has_ratio : Stmt := top 31
abbrev s_is_from_to : Stmt := top 34
abbrev s_is_ratio : Stmt := top 36
abbrev s__law_draw : Stmt := top 60
abbrev s__law_pick : Stmt := top 61
abbrev s__law_one : Stmt := top 63
abbrev s__law_gcd : Stmt := top 64
abbrev s__law_ratio : Stmt := top 65
abbrev s_check_ratio : Stmt := top 37
abbrev s_holds_ratio : Stmt := top 45
abbrev s_hull : Stmt := top 52
abbrev s_meet : Stmt := top 53
abbrev s_within : Stmt := top 54
abbrev s_halves : Stmt := top 57
abbrev s__law_small_ratio : Stmt := top 71
abbrev s_grain_around : Stmt := top 20
abbrev s_grain_plus : Stmt := top 21
abbrev s_grain_minus : Stmt := top 22
abbrev s_grain_over : Stmt := top 24
abbrev s_integer_power : Stmt := top 12
abbrev s_grain_power : Stmt := top 25
abbrev s_grain_scaled : Stmt := top 26
abbrev s_around : Stmt := top 43
abbrev s_plus : Stmt := top 46
abbrev s_minus : Stmt := top 47
abbrev s_over : Stmt := top 49
abbrev s_powered : Stmt := top 50
abbrev s_scaled : Stmt := top 51
abbrev s_ratio_of : Stmt := top 11
abbrev s_ends_of : Stmt := top 44
abbrev s_width : Stmt := top 55
abbrev s_middle : Stmt := top 56
abbrev s__law_top : Stmt := top 62
abbrev s__law_down : Stmt := top 66
abbrev s__law_up : Stmt := top 67
abbrev s__law_size : Stmt := top 68
abbrev s__law_number : Stmt := top 69
abbrev s__law_interval : Stmt := top 70
abbrev s__law_within : Stmt := top 72
abbrev s__law_rounded : Stmt := top 73
abbrev s__law_product_of : Stmt := top 74
abbrev s__law_power : Stmt := top 75
abbrev s__law_powered : Stmt := top 76
abbrev s__law_over : Stmt := top 77
abbrev s__law_pair_right : Stmt := top 79
abbrev s__law_single_right : Stmt := top 80
abbrev s__law_right : Stmt := top 81
abbrev s__law_pot : Stmt := top 59
abbrev s_law : Stmt := top 82
abbrev s__law_heard : Stmt := top 78
abbrev s_NoQuotient : Stmt := top 7
abbrev s_TooMany : Stmt := top 9
def loose0 : List PySem.Str := ["__name__", "CourseError", "InvalidRatio", "InvalidInterval", "InvalidMany", "StateError", "NoQuotient", "LimitError", "TooMany", "ratio_of", "integer_power", "floor_of", "ceiling_of", "ONE", "MOST_GRAINS", "WHOLE", "in_bounds", "grain_around", "grain_plus", "grain_minus", "grain_times", "grain_over", "grain_power", "grain_scaled", "grain_hull", "grain_meet", "lies_within", "middle_of", "has_ratio", "is_integer"]
def loose1 : List PySem.Str := ["is_from_to", "is_ratio", "check_ratio", "_MOST_POWER", "is_interval", "check_interval", "_check_both", "around", "ends_of", "holds_ratio", "plus", "minus", "times", "over", "powered", "scaled", "hull", "meet", "within", "width", "middle", "halves", "_law_pot", "_law_draw", "_law_pick", "_law_top", "_law_one", "_law_gcd", "_law_ratio", "_law_down"]
def loose2 : List PySem.Str := ["_law_up", "_law_size", "_law_number", "_law_interval", "_law_small_ratio", "_law_within", "_law_rounded", "_law_product_of", "_law_power", "_law_powered", "_law_over", "_law_heard", "_law_right"]
def loose : List PySem.Str := loose0 ++ loose1 ++ loose2
def fx0 : List DL.Fx := [.old (.glo "is_integer"), .old (.keep "is_integer"), .old (.glo "is_interval"), .old (.keep "is_interval"), .old (.glo "check_interval"), .old (.keep "check_interval"), .old (.glo "_check_both"), .old (.keep "_check_both"), .old (.glo "in_bounds"), .old (.keep "in_bounds"), .old (.glo "grain_times"), .old (.keep "grain_times"), .old (.glo "times"), .old (.keep "times"), .old (.glo "floor_of"), .old (.keep "floor_of"), .old (.glo "ceiling_of"), .old (.keep "ceiling_of"), .old (.glo "grain_hull"), .old (.keep "grain_hull"), .old (.glo "grain_meet"), .old (.keep "grain_meet"), .old (.glo "lies_within"), .old (.keep "lies_within"), .old (.glo "middle_of"), .old (.keep "middle_of"), .old (.glo "has_ratio"), .old (.keep "has_ratio"), .old (.glo "is_from_to"), .old (.keep "is_from_to")]
def fx1 : List DL.Fx := [.old (.glo "is_ratio"), .old (.keep "is_ratio"), .old (.glo "_law_draw"), .old (.keep "_law_draw"), .old (.glo "_law_pick"), .old (.keep "_law_pick"), .old (.glo "_law_one"), .old (.keep "_law_one"), .old (.glo "_law_gcd"), .old (.keep "_law_gcd"), .old (.glo "_law_ratio"), .old (.keep "_law_ratio"), .old (.glo "check_ratio"), .old (.keep "check_ratio"), .old (.glo "holds_ratio"), .old (.keep "holds_ratio"), .old (.glo "hull"), .old (.keep "hull"), .old (.glo "meet"), .old (.keep "meet"), .old (.glo "within"), .old (.keep "within"), .old (.glo "halves"), .old (.keep "halves"), .old (.glo "_law_small_ratio"), .old (.keep "_law_small_ratio"), .old (.glo "grain_around"), .old (.keep "grain_around"), .old (.glo "grain_plus"), .old (.keep "grain_plus")]
def fx2 : List DL.Fx := [.old (.glo "grain_minus"), .old (.keep "grain_minus"), .old (.glo "grain_over"), .old (.keep "grain_over"), .old (.glo "integer_power"), .old (.keep "integer_power"), .old (.glo "grain_power"), .old (.keep "grain_power"), .old (.glo "grain_scaled"), .old (.keep "grain_scaled"), .old (.glo "around"), .old (.keep "around"), .old (.glo "plus"), .old (.keep "plus"), .old (.glo "minus"), .old (.keep "minus"), .old (.glo "over"), .old (.keep "over"), .old (.glo "powered"), .old (.keep "powered"), .old (.glo "scaled"), .old (.keep "scaled"), .old (.glo "ratio_of"), .old (.keep "ratio_of"), .old (.glo "ends_of"), .old (.keep "ends_of"), .old (.glo "width"), .old (.keep "width"), .old (.glo "middle"), .old (.keep "middle")]
def fx3 : List DL.Fx := [.old (.glo "_law_top"), .old (.keep "_law_top"), .old (.glo "_law_down"), .old (.keep "_law_down"), .old (.glo "_law_up"), .old (.keep "_law_up"), .old (.glo "_law_size"), .old (.keep "_law_size"), .old (.glo "_law_number"), .old (.keep "_law_number"), .old (.glo "_law_interval"), .old (.keep "_law_interval"), .old (.glo "_law_within"), .old (.keep "_law_within"), .old (.glo "_law_rounded"), .old (.keep "_law_rounded"), .old (.glo "_law_product_of"), .old (.keep "_law_product_of"), .old (.glo "_law_power"), .old (.keep "_law_power"), .old (.glo "_law_powered"), .old (.keep "_law_powered"), .old (.glo "_law_over"), .old (.keep "_law_over"), .old (.glo "_law_pair_right"), .old (.keep "_law_pair_right"), .tab "_law_pair_right", .old (.glo "_law_single_right"), .old (.keep "_law_single_right"), .tab "_law_single_right"]
def fx4 : List DL.Fx := [.old (.glo "_law_right"), .old (.keep "_law_right"), .old (.glo "_law_pot"), .old (.keep "_law_pot"), .old (.glo "law"), .old (.keep "law"), .old (.glo "_law_heard"), .old (.keep "_law_heard"), .old (.free "abs"), .old (.free "bool"), .old (.free "divmod"), .old (.free "int"), .old (.free "isinstance"), .old (.free "len"), .old (.free "max"), .old (.free "min"), .old (.free "range"), .old (.free "repr"), .old (.free "tuple"), .bui "gcd" "math.gcd", .num "MOST_GRAINS" (1180591620717411303424), .num "ONE" (1099511627776), .num "_MOST_POWER" (40), .tw "WHOLE" (1099511627776) (1099511627776), .old (.glo "NoQuotient"), .old (.glo "TooMany"), .exg "NoQuotient" "RuntimeError" "RuntimeError.__new__", .mth "NoQuotient" "__init__", .exg "TooMany" "ArithmeticError" "ArithmeticError.__new__", .mth "TooMany" "__init__"]
def fx5 : List DL.Fx := [.old (.noat "TooMany" "what"), .old (.noat "TooMany" "limit"), .xf "TooMany", .old (.exm "NoQuotient" "NoQuotient" true), .old (.exm "TooMany" "NoQuotient" false), .old (.exm "NoQuotient" "TooMany" false), .old (.exm "TooMany" "TooMany" true), .tne "_law_pair_right" "_law_single_right", .tne "_law_single_right" "_law_pair_right"]
def fxA : List DL.Fx := fx0 ++ fx1 ++ fx2
def fxB : List DL.Fx := fx3 ++ fx4 ++ fx5
def fx : List DL.Fx := fxA ++ fxB
def fn_X_NoQuotient : He.FnD := ⟨("NoQuotient", some "__init__"), "__init__", "NoQuotient.__init__", defArgs (methS s_NoQuotient), defBody (methS s_NoQuotient), defScope (methS s_NoQuotient)⟩
def fn_X_TooMany : He.FnD := ⟨("TooMany", some "__init__"), "__init__", "TooMany.__init__", defArgs (methS s_TooMany), defBody (methS s_TooMany), defScope (methS s_TooMany)⟩
def fn_is_integer : He.FnD := ⟨("is_integer", none), "is_integer", "is_integer", defArgs s_is_integer, defBody s_is_integer, defScope s_is_integer⟩
def fn_is_interval : He.FnD := ⟨("is_interval", none), "is_interval", "is_interval", defArgs s_is_interval, defBody s_is_interval, defScope s_is_interval⟩
def fn_check_interval : He.FnD := ⟨("check_interval", none), "check_interval", "check_interval", defArgs s_check_interval, defBody s_check_interval, defScope s_check_interval⟩
def fn__check_both : He.FnD := ⟨("_check_both", none), "_check_both", "_check_both", defArgs s__check_both, defBody s__check_both, defScope s__check_both⟩
def fn_in_bounds : He.FnD := ⟨("in_bounds", none), "in_bounds", "in_bounds", defArgs s_in_bounds, defBody s_in_bounds, defScope s_in_bounds⟩
def fn_grain_times : He.FnD := ⟨("grain_times", none), "grain_times", "grain_times", defArgs s_grain_times, defBody s_grain_times, defScope s_grain_times⟩
def fn_times : He.FnD := ⟨("times", none), "times", "times", defArgs s_times, defBody s_times, defScope s_times⟩
def fn_floor_of : He.FnD := ⟨("floor_of", none), "floor_of", "floor_of", defArgs s_floor_of, defBody s_floor_of, defScope s_floor_of⟩
def fn_ceiling_of : He.FnD := ⟨("ceiling_of", none), "ceiling_of", "ceiling_of", defArgs s_ceiling_of, defBody s_ceiling_of, defScope s_ceiling_of⟩
def fn_grain_hull : He.FnD := ⟨("grain_hull", none), "grain_hull", "grain_hull", defArgs s_grain_hull, defBody s_grain_hull, defScope s_grain_hull⟩
def fn_grain_meet : He.FnD := ⟨("grain_meet", none), "grain_meet", "grain_meet", defArgs s_grain_meet, defBody s_grain_meet, defScope s_grain_meet⟩
def fn_lies_within : He.FnD := ⟨("lies_within", none), "lies_within", "lies_within", defArgs s_lies_within, defBody s_lies_within, defScope s_lies_within⟩
def fn_middle_of : He.FnD := ⟨("middle_of", none), "middle_of", "middle_of", defArgs s_middle_of, defBody s_middle_of, defScope s_middle_of⟩
def fn_has_ratio : He.FnD := ⟨("has_ratio", none), "has_ratio", "has_ratio", defArgs s_has_ratio, defBody s_has_ratio, defScope s_has_ratio⟩
def fn_is_from_to : He.FnD := ⟨("is_from_to", none), "is_from_to", "is_from_to", defArgs s_is_from_to, defBody s_is_from_to, defScope s_is_from_to⟩
def fn_is_ratio : He.FnD := ⟨("is_ratio", none), "is_ratio", "is_ratio", defArgs s_is_ratio, defBody s_is_ratio, defScope s_is_ratio⟩
def fn__law_draw : He.FnD := ⟨("_law_draw", none), "_law_draw", "_law_draw", defArgs s__law_draw, defBody s__law_draw, defScope s__law_draw⟩
def fn__law_pick : He.FnD := ⟨("_law_pick", none), "_law_pick", "_law_pick", defArgs s__law_pick, defBody s__law_pick, defScope s__law_pick⟩
def fn__law_one : He.FnD := ⟨("_law_one", none), "_law_one", "_law_one", defArgs s__law_one, defBody s__law_one, defScope s__law_one⟩
def fn__law_gcd : He.FnD := ⟨("_law_gcd", none), "_law_gcd", "_law_gcd", defArgs s__law_gcd, defBody s__law_gcd, defScope s__law_gcd⟩
def fn__law_ratio : He.FnD := ⟨("_law_ratio", none), "_law_ratio", "_law_ratio", defArgs s__law_ratio, defBody s__law_ratio, defScope s__law_ratio⟩
def fn_check_ratio : He.FnD := ⟨("check_ratio", none), "check_ratio", "check_ratio", defArgs s_check_ratio, defBody s_check_ratio, defScope s_check_ratio⟩
def fn_holds_ratio : He.FnD := ⟨("holds_ratio", none), "holds_ratio", "holds_ratio", defArgs s_holds_ratio, defBody s_holds_ratio, defScope s_holds_ratio⟩
def fn_hull : He.FnD := ⟨("hull", none), "hull", "hull", defArgs s_hull, defBody s_hull, defScope s_hull⟩
def fn_meet : He.FnD := ⟨("meet", none), "meet", "meet", defArgs s_meet, defBody s_meet, defScope s_meet⟩
def fn_within : He.FnD := ⟨("within", none), "within", "within", defArgs s_within, defBody s_within, defScope s_within⟩
def fn_halves : He.FnD := ⟨("halves", none), "halves", "halves", defArgs s_halves, defBody s_halves, defScope s_halves⟩
def fn__law_small_ratio : He.FnD := ⟨("_law_small_ratio", none), "_law_small_ratio", "_law_small_ratio", defArgs s__law_small_ratio, defBody s__law_small_ratio, defScope s__law_small_ratio⟩
def fn_grain_around : He.FnD := ⟨("grain_around", none), "grain_around", "grain_around", defArgs s_grain_around, defBody s_grain_around, defScope s_grain_around⟩
def fn_grain_plus : He.FnD := ⟨("grain_plus", none), "grain_plus", "grain_plus", defArgs s_grain_plus, defBody s_grain_plus, defScope s_grain_plus⟩
def fn_grain_minus : He.FnD := ⟨("grain_minus", none), "grain_minus", "grain_minus", defArgs s_grain_minus, defBody s_grain_minus, defScope s_grain_minus⟩
def fn_grain_over : He.FnD := ⟨("grain_over", none), "grain_over", "grain_over", defArgs s_grain_over, defBody s_grain_over, defScope s_grain_over⟩
def fn_integer_power : He.FnD := ⟨("integer_power", none), "integer_power", "integer_power", defArgs s_integer_power, defBody s_integer_power, defScope s_integer_power⟩
def fn_grain_power : He.FnD := ⟨("grain_power", none), "grain_power", "grain_power", defArgs s_grain_power, defBody s_grain_power, defScope s_grain_power⟩
def fn_grain_scaled : He.FnD := ⟨("grain_scaled", none), "grain_scaled", "grain_scaled", defArgs s_grain_scaled, defBody s_grain_scaled, defScope s_grain_scaled⟩
def fn_around : He.FnD := ⟨("around", none), "around", "around", defArgs s_around, defBody s_around, defScope s_around⟩
def fn_plus : He.FnD := ⟨("plus", none), "plus", "plus", defArgs s_plus, defBody s_plus, defScope s_plus⟩
def fn_minus : He.FnD := ⟨("minus", none), "minus", "minus", defArgs s_minus, defBody s_minus, defScope s_minus⟩
def fn_over : He.FnD := ⟨("over", none), "over", "over", defArgs s_over, defBody s_over, defScope s_over⟩
def fn_powered : He.FnD := ⟨("powered", none), "powered", "powered", defArgs s_powered, defBody s_powered, defScope s_powered⟩
def fn_scaled : He.FnD := ⟨("scaled", none), "scaled", "scaled", defArgs s_scaled, defBody s_scaled, defScope s_scaled⟩
def fn_ratio_of : He.FnD := ⟨("ratio_of", none), "ratio_of", "ratio_of", defArgs s_ratio_of, defBody s_ratio_of, defScope s_ratio_of⟩
def fn_ends_of : He.FnD := ⟨("ends_of", none), "ends_of", "ends_of", defArgs s_ends_of, defBody s_ends_of, defScope s_ends_of⟩
def fn_width : He.FnD := ⟨("width", none), "width", "width", defArgs s_width, defBody s_width, defScope s_width⟩
def fn_middle : He.FnD := ⟨("middle", none), "middle", "middle", defArgs s_middle, defBody s_middle, defScope s_middle⟩
def fn__law_top : He.FnD := ⟨("_law_top", none), "_law_top", "_law_top", defArgs s__law_top, defBody s__law_top, defScope s__law_top⟩
def fn__law_down : He.FnD := ⟨("_law_down", none), "_law_down", "_law_down", defArgs s__law_down, defBody s__law_down, defScope s__law_down⟩
def fn__law_up : He.FnD := ⟨("_law_up", none), "_law_up", "_law_up", defArgs s__law_up, defBody s__law_up, defScope s__law_up⟩
def fn__law_size : He.FnD := ⟨("_law_size", none), "_law_size", "_law_size", defArgs s__law_size, defBody s__law_size, defScope s__law_size⟩
def fn__law_number : He.FnD := ⟨("_law_number", none), "_law_number", "_law_number", defArgs s__law_number, defBody s__law_number, defScope s__law_number⟩
def fn__law_interval : He.FnD := ⟨("_law_interval", none), "_law_interval", "_law_interval", defArgs s__law_interval, defBody s__law_interval, defScope s__law_interval⟩
def fn__law_within : He.FnD := ⟨("_law_within", none), "_law_within", "_law_within", defArgs s__law_within, defBody s__law_within, defScope s__law_within⟩
def fn__law_rounded : He.FnD := ⟨("_law_rounded", none), "_law_rounded", "_law_rounded", defArgs s__law_rounded, defBody s__law_rounded, defScope s__law_rounded⟩
def fn__law_product_of : He.FnD := ⟨("_law_product_of", none), "_law_product_of", "_law_product_of", defArgs s__law_product_of, defBody s__law_product_of, defScope s__law_product_of⟩
def fn__law_power : He.FnD := ⟨("_law_power", none), "_law_power", "_law_power", defArgs s__law_power, defBody s__law_power, defScope s__law_power⟩
def fn__law_powered : He.FnD := ⟨("_law_powered", none), "_law_powered", "_law_powered", defArgs s__law_powered, defBody s__law_powered, defScope s__law_powered⟩
def fn__law_over : He.FnD := ⟨("_law_over", none), "_law_over", "_law_over", defArgs s__law_over, defBody s__law_over, defScope s__law_over⟩
def fn__law_pair_right : He.FnD := ⟨("_law_pair_right", none), "_law_pair_right", "_law_pair_right", defArgs s__law_pair_right, defBody s__law_pair_right, defScope s__law_pair_right⟩
def fn__law_single_right : He.FnD := ⟨("_law_single_right", none), "_law_single_right", "_law_single_right", defArgs s__law_single_right, defBody s__law_single_right, defScope s__law_single_right⟩
def fn__law_right : He.FnD := ⟨("_law_right", none), "_law_right", "_law_right", defArgs s__law_right, defBody s__law_right, defScope s__law_right⟩
def fn__law_pot : He.FnD := ⟨("_law_pot", none), "_law_pot", "_law_pot", defArgs s__law_pot, defBody s__law_pot, defScope s__law_pot⟩
def fn_law : He.FnD := ⟨("law", none), "law", "law", defArgs s_law, defBody s_law, defScope s_law⟩
def fn__law_heard : He.FnD := ⟨("_law_heard", none), "_law_heard", "_law_heard", defArgs s__law_heard, defBody s__law_heard, defScope s__law_heard⟩
def fns0 : List He.FnD := [fn_is_integer, fn_is_interval, fn_check_interval, fn__check_both, fn_in_bounds, fn_grain_times, fn_times, fn_floor_of, fn_ceiling_of, fn_grain_hull, fn_grain_meet, fn_lies_within, fn_middle_of, fn_has_ratio, fn_is_from_to, fn_is_ratio, fn__law_draw, fn__law_pick, fn__law_one, fn__law_gcd, fn__law_ratio, fn_check_ratio, fn_holds_ratio, fn_hull, fn_meet, fn_within, fn_halves, fn__law_small_ratio, fn_grain_around, fn_grain_plus]
def fns1 : List He.FnD := [fn_grain_minus, fn_grain_over, fn_integer_power, fn_grain_power, fn_grain_scaled, fn_around, fn_plus, fn_minus, fn_over, fn_powered, fn_scaled, fn_ratio_of, fn_ends_of, fn_width, fn_middle, fn__law_top, fn__law_down, fn__law_up, fn__law_size, fn__law_number, fn__law_interval, fn__law_within, fn__law_rounded, fn__law_product_of, fn__law_power, fn__law_powered, fn__law_over, fn__law_pair_right, fn__law_single_right, fn__law_right]
def fns2 : List He.FnD := [fn__law_pot, fn_law, fn__law_heard, fn_X_NoQuotient, fn_X_TooMany]
def fnsA : List He.FnD := fns0 ++ fns1
def fnsB : List He.FnD := fns2
def fns : List He.FnD := fnsA ++ fnsB
abbrev RR : PySem.W.OpenRow := PySem.W.OpenLaw.row PySem.Challenge.rw_truecourse_k12_whole_intervals_reckoned
abbrev qv : Program := PySem.W.view RR.prog [0, 79, 80, 82]
set_option maxHeartbeats 0 in
theorem runA (w : World) : HandSHeadRun.RunEqI RR qv (DL.hookX 9 fxA fnsA) (DL.obX 9 fxA fnsA) 20000 loose w := by
  unfold HandSHeadRun.RunEqI
  kernel_rfl
set_option maxHeartbeats 0 in
theorem runB (w : World) : HandSHeadRun.RunEqI RR qv (DL.hookX 9 fxB fnsB) (DL.obX 9 fxB fnsB) 20000 loose w := by
  unfold HandSHeadRun.RunEqI
  kernel_rfl
theorem run (w : World) : HandSHeadRun.RunEqI RR qv (DL.hookX 9 fx fns) (DL.obX 9 fx fns) 20000 loose w := DL.run_both (runA w) (runB w)
end LW
namespace GA
open PySem PySem.Spec PyProof.Rows L2 GxR
structure GxOk (N : List Str) (sc scope : Scope) (own : List (Str × Nat)) : Prop where
  blk : BlkOk N sc scope own
  co : scope.isCoroutine = false
  cell : ∀ y ∈ scope.names, y.2 ≠ .cell
  dot : scope.names.lookup (".0" : Str) = some NameKind.local
abbrev gx (X : Cx) (s : Shared) (H : Hp) (ge : Env) (fp : List Addr) : Cx :=
  { X with A := X.A.in1.in1.deeper ge, s_0 := s, H_0 := H, env := ge, outer := X.stack, stack := ge :: X.stack, ex := fp, fn := fun _ => false, calm := true, pn := [], xe := fun _ _ => False }
section
variable {X : Cx} {pins : List (Addr × Obj)} {σ : L2.St} {H : Hp} {s : Shared}
end
section
variable {X : Cx} {pg : List (Addr × Obj)} {σw : L2.St} {s4 : Shared} {H4 : Hp} {ge : Env} {fp : List Addr}
def gY (Z : Cx) (pg : List (Addr × Obj)) (σw : L2.St) (c : Bool) (Qf : Hp → Prop) : Protocol := fun _ _ v s kap =>
  ∃ b H', v = .bool b ∧ Inv Z pg σw H' s ∧ if b = c then ∀ s'' : Shared, s''.heap = s.heap → s''.os = s.os → AllBare s''.gens → kap (.send .none) s'' else Qf H'
def gR (Z : Cx) (pg : List (Addr × Obj)) (σw : L2.St) (Qt : Hp → Prop) : Shared → Prop := fun s => ∃ H', Inv Z pg σw H' s ∧ Qt H'
structure Cons (Z : Cx) (M : Model) (A : Around) (pg : List (Addr × Obj)) (σw : L2.St) (c : Bool) (Qt Qf : Hp → Prop) (a : Addr) (g n : Nat) (s : Shared) : Prop where
  lt : g < s.gens.size
  bare : AllBare s.gens
  lim : s.heap.NoLimit
  gen : s.heap.IsGen a g
  go : ∃ gs, s.gens[g]? = some gs ∧ gs.Goes M A.in1.in1 (fun _ _ r s₁ => r = .ok .next ∧ gR Z pg σw Qt s₁) (gY Z pg σw c Qf) n (.send .none) (s.setGen g .running)
end
section
variable {X : Cx} {pins : List (Addr × Obj)} {σ : L2.St} {H : Hp} {s : Shared}
end
section
variable {X : Cx}
end
end GA
namespace DL
open PySem PySem.Spec L2
inductive D where
  | non | bl (b : Bool) | int (i : Int) | str (x : Str) | ty (n : String) | fn (x : Str) | tup (l : List D) | lst (l : List D) | pot
  /-- a list that this def has made and may change -/
  | own (l : List D)
structure Tf where
  tabs : List Addr
  fns : Str → Option Value
  /-- tables of lambdas' code objects -/
  lts : List (Addr × Str) := []
structure Qt where
  pot : Addr
  tf : Tf
abbrev Qt.tabs (p : Qt) : List Addr := p.tf.tabs
structure Gd where
  F0 : List Addr
  B : List Addr
  H0 : Hp
def NoT (o : HO) : Prop := ∀ ps, o ≠ .tbl ps
mutual
inductive Is (K : PySem.W.Frag) (p : Qt) (F : List Addr) (H : Hp) : V → D → Prop
  | non : Is K p F H .non .non
  | bl (b : Bool) : Is K p F H (.bl b) (.bl b)
  | int (i : Int) : Is K p F H (.int i) (.int i)
  | str (x : Str) : Is K p F H (.str x) (.str x)
  | ty (n : String) : Is K p F H (.ty n) (.ty n)
  | fn {x : Str} {f : Addr} : p.tf.fns x = some (.ref f) → Is K p F H (.ref f) (.fn x)
  | tup {a : Addr} {vs : List V} {l : List D} : SqT K H a vs → a ≠ p.pot → IsL K p F H vs l → Is K p F H (.ref a) (.tup l)
  | lst {a : Addr} {vs : List V} {l : List D} : Rd H a (.lst vs) → a ≠ p.pot ∧ a ∉ F → IsL K p F H vs l → Is K p F H (.ref a) (.lst l)
  | pot : Is K p F H (.ref p.pot) .pot
inductive IsL (K : PySem.W.Frag) (p : Qt) (F : List Addr) (H : Hp) : List V → List D → Prop
  | nil : IsL K p F H [] []
  | cons {v : V} {d : D} {vs : List V} {l : List D} : Is K p F H v d → IsL K p F H vs l → IsL K p F H (v :: vs) (d :: l)
end
structure Pk (p : Qt) (H : Hp) : Prop where
  at_ : ∃ a b : Int, 0 ≤ a ∧ 0 ≤ b ∧ b < 4294967296 ∧ H p.pot = some (.lst [.int a, .int b])
  tb : ∀ t ∈ p.tabs, GxR.TabG H t
  lt : LamX.Tabs p.tf.lts H
  lp : ∀ t ∈ p.tf.lts, t.1 ≠ p.pot ∧ t.1 ∉ p.tabs
structure Ex (p : Qt) (H H' : Hp) : Prop where
  kp : ∀ b o, b ≠ p.pot → NoT o → H b = some o → H' b = some o
  pk : Pk p H'
section
variable {K : PySem.W.Frag} {p : Qt} {F G : List Addr} {H H1 H2 : Hp}
theorem SqT.keep {a : Addr} {vs : List V} (h : SqT K H a vs) (n : a ≠ p.pot) (e : ∀ b o, b ≠ p.pot → NoT o → H b = some o → H1 b = some o) : SqT K H1 a vs := by
  rcases h with (h | ⟨o, h⟩) | h
  · exact .inl (.inl (e _ _ n (fun _ z => nomatch z) h))
  · exact .inl (.inr ⟨o, e _ _ n (fun _ z => nomatch z) h⟩)
  · exact .inr h
theorem Rdl.keep {a : Addr} {vs : List V} (h : Rd H a (.lst vs)) (n : a ≠ p.pot) (e : ∀ b o, b ≠ p.pot → NoT o → H b = some o → H1 b = some o) : Rd H1 a (.lst vs) := by
  rcases h with h | ⟨o, h⟩
  · exact .inl (e _ _ n (fun _ z => nomatch z) h)
  · exact .inr ⟨o, e _ _ n (fun _ z => nomatch z) h⟩
theorem Rdl.sq {a : Addr} {vs : List V} (h : Rd H a (.lst vs)) : SqL K H a vs := .inl h
theorem Rdl.noT {a : Addr} {vs : List V} (h : Rd H a (.lst vs)) : ∃ o, NoT o ∧ H a = some o := by
  rcases h with h | ⟨o, h⟩
  · exact ⟨.lst vs, fun ps z => HO.noConfusion z, h⟩
  · exact ⟨.frz o (.lst vs), fun ps z => HO.noConfusion z, h⟩
theorem Is.mono {v : V} {d : D} (h : Is K p F H v d) (e : ∀ b o, b ≠ p.pot → NoT o → H b = some o → H1 b = some o) : Is K p F H1 v d :=
  Is.rec (motive_1 := fun v d _ => Is K p F H1 v d) (motive_2 := fun vs l _ => IsL K p F H1 vs l) .non .bl .int .str .ty .fn
    (fun h n _ ih => .tup (SqT.keep h n e) n ih) (fun h n _ ih => .lst (Rdl.keep h n.1 e) n ih) .pot .nil (fun _ _ i1 i2 => .cons i1 i2) h
theorem IsL.mono {vs : List V} {l : List D} (h : IsL K p F H vs l) (e : ∀ b o, b ≠ p.pot → NoT o → H b = some o → H1 b = some o) : IsL K p F H1 vs l :=
  IsL.rec (motive_1 := fun v d _ => Is K p F H1 v d) (motive_2 := fun vs l _ => IsL K p F H1 vs l) .non .bl .int .str .ty .fn
    (fun h n _ ih => .tup (SqT.keep h n e) n ih) (fun h n _ ih => .lst (Rdl.keep h n.1 e) n ih) .pot .nil (fun _ _ i1 i2 => .cons i1 i2) h
theorem Is.less {v : V} {d : D} (h : Is K p F H v d) (e : ∀ b ∈ G, b ∈ F) : Is K p G H v d :=
  Is.rec (motive_1 := fun v d _ => Is K p G H v d) (motive_2 := fun vs l _ => IsL K p G H vs l) .non .bl .int .str .ty .fn
    (fun h n _ ih => .tup h n ih) (fun h n _ ih => .lst h ⟨n.1, fun z => n.2 (e _ z)⟩ ih) .pot .nil (fun _ _ i1 i2 => .cons i1 i2) h
theorem IsL.less {vs : List V} {l : List D} (h : IsL K p F H vs l) (e : ∀ b ∈ G, b ∈ F) : IsL K p G H vs l :=
  IsL.rec (motive_1 := fun v d _ => Is K p G H v d) (motive_2 := fun vs l _ => IsL K p G H vs l) .non .bl .int .str .ty .fn
    (fun h n _ ih => .tup h n ih) (fun h n _ ih => .lst h ⟨n.1, fun z => n.2 (e _ z)⟩ ih) .pot .nil (fun _ _ i1 i2 => .cons i1 i2) h
theorem Is.more {v : V} {d : D} (h : Is K p F H v d) (n : ∀ b ∈ G, b ∈ F ∨ ∀ o, NoT o → H b ≠ some o) : Is K p G H v d :=
  Is.rec (motive_1 := fun v d _ => Is K p G H v d) (motive_2 := fun vs l _ => IsL K p G H vs l) .non .bl .int .str .ty .fn
    (fun h n _ ih => .tup h n ih) (fun h m _ ih => .lst h ⟨m.1, fun z => by
      rcases n _ z with q | q
      · exact m.2 q
      · obtain ⟨o, h1, h2⟩ := Rdl.noT h
        exact q o h1 h2⟩ ih) .pot .nil (fun _ _ i1 i2 => .cons i1 i2) h
theorem IsL.more {vs : List V} {l : List D} (h : IsL K p F H vs l) (n : ∀ b ∈ G, b ∈ F ∨ ∀ o, NoT o → H b ≠ some o) : IsL K p G H vs l :=
  IsL.rec (motive_1 := fun v d _ => Is K p G H v d) (motive_2 := fun vs l _ => IsL K p G H vs l) .non .bl .int .str .ty .fn
    (fun h n _ ih => .tup h n ih) (fun h m _ ih => .lst h ⟨m.1, fun z => by
      rcases n _ z with q | q
      · exact m.2 q
      · obtain ⟨o, h1, h2⟩ := Rdl.noT h
        exact q o h1 h2⟩ ih) .pot .nil (fun _ _ i1 i2 => .cons i1 i2) h
theorem IsL.len : ∀ {vs : List V} {l : List D}, IsL K p F H vs l → vs.length = l.length
  | [], _, h => by cases h; rfl
  | v :: vs, _, h => by
    cases h with
    | cons h1 h2 => simp [IsL.len h2]
theorem IsL.get : ∀ {vs : List V} {l : List D} {i : Nat} {v : V}, IsL K p F H vs l → vs[i]? = some v → ∃ d, l[i]? = some d ∧ Is K p F H v d
  | [], _, _, _, h, e => by simp at e
  | w :: vs, _, 0, v, h, e => by
    cases h with
    | cons h1 h2 =>
      have q : w = v := by simpa using e
      subst q
      exact ⟨_, rfl, h1⟩
  | w :: vs, _, i + 1, v, h, e => by
    cases h with
    | cons h1 h2 =>
      obtain ⟨d, e1, e2⟩ := IsL.get (i := i) (v := v) h2 (by simpa using e)
      exact ⟨d, by simpa using e1, e2⟩
theorem IsL.getD : ∀ {vs : List V} {l : List D} {i : Nat} {d : D}, IsL K p F H vs l → l[i]? = some d → ∃ v, vs[i]? = some v ∧ Is K p F H v d
  | _, [], _, _, h, e => by simp at e
  | _, w :: l, 0, d, h, e => by
    cases h with
    | cons h1 h2 =>
      have q : w = d := by simpa using e
      subst q
      exact ⟨_, rfl, h1⟩
  | _, w :: l, i + 1, d, h, e => by
    cases h with
    | cons h1 h2 =>
      obtain ⟨v, e1, e2⟩ := IsL.getD (i := i) (d := d) h2 (by simpa using e)
      exact ⟨v, by simpa using e1, e2⟩
theorem IsL.app : ∀ {vs ws : List V} {l m : List D}, IsL K p F H vs l → IsL K p F H ws m → IsL K p F H (vs ++ ws) (l ++ m)
  | [], _, _, _, h, h' => by cases h; exact h'
  | v :: vs, _, _, _, h, h' => by
    cases h with
    | cons h1 h2 => exact .cons h1 (IsL.app h2 h')
theorem IsL.drop : ∀ {vs : List V} {l : List D} (n : Nat), IsL K p F H vs l → IsL K p F H (vs.drop n) (l.drop n)
  | _, _, 0, h => h
  | [], _, n + 1, h => by cases h; exact .nil
  | v :: vs, _, n + 1, h => by
    cases h with
    | cons h1 h2 => exact IsL.drop n h2
theorem IsL.take : ∀ {vs : List V} {l : List D} (n : Nat), IsL K p F H vs l → IsL K p F H (vs.take n) (l.take n)
  | _, _, 0, h => .nil
  | [], _, n + 1, h => by cases h; exact .nil
  | v :: vs, _, n + 1, h => by
    cases h with
    | cons h1 h2 => exact .cons h1 (IsL.take n h2)
theorem IsL.ints : ∀ {vs : List V} {ns : List Int}, IsL K p F H vs (ns.map D.int) → vs = ns.map V.int
  | vs, [], h => by cases h; rfl
  | vs, n :: ns, h => by
    cases h with
    | cons h1 h2 =>
      cases h1
      rw [IsL.ints h2]
      rfl
theorem Ex.refl (h : Pk p H) : Ex p H H := ⟨fun _ _ _ _ e => e, h⟩
theorem Ex.trans (a : Ex p H H1) (b : Ex p H1 H2) : Ex p H H2 := ⟨fun c o n t e => b.kp c o n t (a.kp c o n t e), b.pk⟩
theorem Pk.ne {a : Addr} (h : Pk p H) (n : H a = none) : a ≠ p.pot := by
  rintro rfl
  obtain ⟨_, _, _, _, _, e⟩ := h.at_
  rw [n] at e
  cases e
theorem TabG.upd {a t : Addr} {o : HO} (h : GxR.TabG H t) (n : a ≠ t) : GxR.TabG (upd H a o) t := by
  obtain ⟨ps, e, r⟩ := h
  exact ⟨ps, by rw [upd_ne (Ne.symm n)]; exact e, r⟩
theorem TabG.ne {a t : Addr} (h : GxR.TabG H t) (n : H a = none) : a ≠ t := by
  rintro rfl
  obtain ⟨_, e, _⟩ := h
  rw [n] at e
  cases e
theorem Ex.new {a : Addr} {o : HO} (h : Pk p H) (n : H a = none) : Ex p H (upd H a o) := by
  refine ⟨fun b u _ _ e => ?_, ?_, fun t ht => TabG.upd (h.tb t ht) (TabG.ne (h.tb t ht) n), ?_, h.lp⟩
  · rw [upd_ne (ne_of_none e n)]
    exact e
  · obtain ⟨x, y, h1, h2, h3, e⟩ := h.at_
    exact ⟨x, y, h1, h2, h3, by rw [upd_ne (ne_of_none e n)]; exact e⟩
  · exact h.lt.ext fun b o e => by rw [upd_ne (ne_of_none e n)]; exact e
end
theorem Tabs.put {T : List (Addr × Str)} {H : Hp} {a : Addr} {u : List V} {o : HO} (h : LamX.Tabs T H) (e : H a = some (.lst u)) : LamX.Tabs T (upd H a o) := by
  intro P hP
  obtain ⟨ps, h1, h2, h3⟩ := h P hP
  refine ⟨ps, by rw [upd_ne (fun z => by rw [z, e] at h1; cases h1)]; exact h1, h2, fun pos cv hc => ?_⟩
  obtain ⟨c, e1, e2⟩ := h3 pos cv hc
  have ne : c ≠ a := fun z => by
    rw [z, e] at e2
    have q : HO.lst u = HO.ext _ := Option.some.inj e2
    cases q
  exact ⟨c, e1, by rw [upd_ne ne]; exact e2⟩
def isMut : HO → Prop
  | .lst _ => True
  | .dK _ => True
  | .dT _ => True
  | _ => False
theorem isMut.noT {o : HO} (h : isMut o) : NoT o := fun ps e => by subst e; exact h
structure PkF (p : Qt) (F : List Addr) (H : Hp) : Prop where
  pk : Pk p H
  al : ∀ b ∈ F, b ≠ p.pot ∧ ∃ o, H b = some o ∧ isMut o
theorem PkF.ne {p : Qt} {F : List Addr} {H : Hp} (h : PkF p F H) {a : Addr} (n : H a = none) : a ≠ p.pot := h.pk.ne n
theorem PkF.nF {p : Qt} {F : List Addr} {H : Hp} (h : PkF p F H) {a : Addr} (n : H a = none) : a ≠ p.pot ∧ a ∉ F := ⟨h.pk.ne n, fun z => by
  obtain ⟨_, o, h, _⟩ := h.al a z
  rw [n] at h
  cases h⟩
abbrev Sl := List (Option D)
-- no list in it, and not the pot
mutual
def noL : D → Bool
  | .lst _ => false
  | .own _ => false
  | .pot => false
  | .tup l => noLs l
  | _ => true
def noLs : List D → Bool
  | [] => true
  | d :: l => noL d && noLs l
end
theorem Is.noL {K : PySem.W.Frag} {p : Qt} {F G : List Addr} {H : Hp} {v : V} {d : D} (h : Is K p F H v d) : noL d = true → Is K p G H v d :=
  Is.rec (motive_1 := fun v d _ => DL.noL d = true → Is K p G H v d) (motive_2 := fun vs l _ => noLs l = true → IsL K p G H vs l)
    (fun _ => .non) (fun b _ => .bl b) (fun i _ => .int i) (fun x _ => .str x) (fun n _ => .ty n) (fun h _ => .fn h)
    (fun h n _ ih z => .tup h n (ih z)) (fun _ _ _ _ z => nomatch z) (fun z => nomatch z) (fun _ => .nil)
    (fun _ _ i1 i2 z => by
      have z' := Bool.and_eq_true_iff.mp z
      exact .cons (i1 z'.1) (i2 z'.2)) h
def isOwn : D → Bool
  | .own _ => true
  | _ => false
structure Rel (K : PySem.W.Frag) (p : Qt) (g : Gd) (F : List Addr) (σ : St) (H : Hp) (τ : Sl) : Prop where
  pk : Pk p H
  kp : ∀ b o, b ≠ p.pot → b ∉ g.B → NoT o → g.H0 b = some o → H b = some o
  sub : ∀ b ∈ g.F0, b ∈ F
  al : ∀ b ∈ F, b ≠ p.pot ∧ ∃ o, H b = some o ∧ isMut o
  fo : ∀ b ∈ F, b ∈ g.F0 ∨ b ∈ g.B ∨ ∀ o, NoT o → g.H0 b ≠ some o
  sl : ∀ (i : Nat) (d : D), τ[i]? = some (some d) → isOwn d = false → ∃ v, σ[i]? = some (some v) ∧ Is K p F H v d
  ow : ∀ (i : Nat) (l : List D), τ[i]? = some (some (.own l)) → ∃ a vs, σ[i]? = some (some (.ref a)) ∧ H a = some (.lst vs) ∧ a ∈ F ∧ a ∉ g.F0 ∧ IsL K p F H vs l
  un : ∀ (i j : Nat) (l l' : List D) (a : Addr), τ[i]? = some (some (.own l)) → τ[j]? = some (some (.own l')) → σ[i]? = some (some (.ref a)) → σ[j]? = some (some (.ref a)) → i = j
  len : τ.length = σ.length
section
variable {K : PySem.W.Frag} {p : Qt} {g : Gd} {F : List Addr} {H H1 : Hp} {σ : St} {τ : Sl}
theorem Rel.st (r : Rel K p g F σ H τ) (e : Ex p H H1) : Rel K p g F σ H1 τ where
  pk := e.pk
  kp := fun b o n nb t q => e.kp b o n t (r.kp b o n nb t q)
  sub := r.sub
  al := fun b hb => let ⟨n, o, h1, h2⟩ := r.al b hb; ⟨n, o, e.kp b o n h2.noT h1, h2⟩
  fo := r.fo
  sl := fun i d h n => let ⟨v, h1, h2⟩ := r.sl i d h n; ⟨v, h1, h2.mono e.kp⟩
  ow := fun i l h => by
    obtain ⟨a, vs, h1, h2, h3, h4, h6⟩ := r.ow i l h
    exact ⟨a, vs, h1, e.kp _ _ (r.al a h3).1 (fun _ z => nomatch z) h2, h3, h4, h6.mono e.kp⟩
  un := r.un
  len := r.len
theorem Rel.pkf (r : Rel K p g F σ H τ) : PkF p F H := ⟨r.pk, r.al⟩
theorem Rel.notF (r : Rel K p g F σ H τ) {a : Addr} (n : H a = none) : a ≠ p.pot ∧ a ∉ F := r.pkf.nF n
theorem set_get {α : Type} {τ : List (Option α)} {i j : Nat} {x : Option α} {e : α} (q : (τ.set i x)[j]? = some (some e)) : (i = j ∧ x = some e ∧ i < τ.length) ∨ (i ≠ j ∧ τ[j]? = some (some e)) := by
  by_cases hj : i = j
  · subst hj
    by_cases hl : i < τ.length
    · rw [List.getElem?_set_self hl] at q
      cases q
      exact .inl ⟨rfl, rfl, hl⟩
    · rw [List.getElem?_eq_none (by simpa using hl)] at q
      cases q
  · rw [List.getElem?_set_ne hj] at q
    exact .inr ⟨hj, q⟩
theorem Rel.set (r : Rel K p g F σ H τ) {i : Nat} {v : V} {d : D} (h : Is K p F H v d) : Rel K p g F (σ.set i (some v)) H (τ.set i (some d)) := by
  have no : ∀ l, d ≠ .own l := fun l e => by subst e; cases h
  have ownj : ∀ (j : Nat) (l : List D), (τ.set i (some d))[j]? = some (some (.own l)) → i ≠ j ∧ τ[j]? = some (some (.own l)) := fun j l q => by
    rcases set_get q with ⟨rfl, e2, hl⟩ | q
    · cases e2
      exact absurd rfl (no l)
    · exact q
  refine ⟨r.pk, r.kp, r.sub, r.al, r.fo, fun j e q n => ?_, fun j l q => ?_, fun a b l l' c q1 q2 s1 s2 => ?_, by simp [r.len]⟩
  · rcases set_get q with ⟨rfl, e2, hl⟩ | ⟨hj, q⟩
    · cases e2
      exact ⟨v, by rw [List.getElem?_set_self (by rw [← r.len]; exact hl)], h⟩
    · obtain ⟨u, h1, h2⟩ := r.sl j e q n
      exact ⟨u, by rw [List.getElem?_set_ne hj]; exact h1, h2⟩
  · obtain ⟨hj, q⟩ := ownj j l q
    obtain ⟨a, vs, h1, h2⟩ := r.ow j l q
    exact ⟨a, vs, by rw [List.getElem?_set_ne hj]; exact h1, h2⟩
  · obtain ⟨n1, q1⟩ := ownj a l q1
    obtain ⟨n2, q2⟩ := ownj b l' q2
    rw [List.getElem?_set_ne n1] at s1
    rw [List.getElem?_set_ne n2] at s2
    exact r.un a b l l' c q1 q2 s1 s2
theorem Rel.out (r : Rel K p g F σ H τ) {i : Nat} : Rel K p g F (σ.set i none) H (τ.set i none) := by
  have oth : ∀ (j : Nat) (d : D), (τ.set i none)[j]? = some (some d) → i ≠ j ∧ τ[j]? = some (some d) := fun j l q => by
    rcases set_get q with ⟨rfl, e2, hl⟩ | q
    · cases e2
    · exact q
  refine ⟨r.pk, r.kp, r.sub, r.al, r.fo, fun j e q n => ?_, fun j l q => ?_, fun a b l l' c q1 q2 s1 s2 => ?_, by simp [r.len]⟩
  · obtain ⟨hj, q⟩ := oth j e q
    obtain ⟨u, h1, h2⟩ := r.sl j e q n
    exact ⟨u, by rw [List.getElem?_set_ne hj]; exact h1, h2⟩
  · obtain ⟨hj, q⟩ := oth j _ q
    obtain ⟨a, vs, h1, h2⟩ := r.ow j l q
    exact ⟨a, vs, by rw [List.getElem?_set_ne hj]; exact h1, h2⟩
  · obtain ⟨n1, q1⟩ := oth a _ q1
    obtain ⟨n2, q2⟩ := oth b _ q2
    rw [List.getElem?_set_ne n1] at s1
    rw [List.getElem?_set_ne n2] at s2
    exact r.un a b l l' c q1 q2 s1 s2
def wipeD (τ : Sl) : List Nat → Sl
  | [] => τ
  | v :: vs => (wipeD τ vs).set v none
theorem Rel.wipe (r : Rel K p g F σ H τ) : ∀ vs : List Nat, Rel K p g F (wipe σ vs) H (wipeD τ vs)
  | [] => r
  | v :: vs => (Rel.wipe r vs).out
end
abbrev DE := Sl → (D → Prop) → Prop
abbrev DT := Sl → (Bool → Prop) → Prop
abbrev DA := Sl → (List D → Prop) → Prop
structure PD (X : Cx) (p : Qt) (e : Expr) (d : DE) : Prop where
  run : ∃ t, PE X e t ∧ ∀ (g0 : Gd) (F : List Addr) (σ : St) (H : Hp) (τ : Sl) (Q : VK) (R : D → Prop), Rel X.K p g0 F σ H τ → d τ R → (∀ x v H', Ex p H H' → Is X.K p F H' v x → R x → Q v H') → t σ H Q
structure PDT (X : Cx) (p : Qt) (e : Expr) (d : DT) : Prop where
  run : ∃ t, PT X e t ∧ ∀ (g0 : Gd) (F : List Addr) (σ : St) (H : Hp) (τ : Sl) (Q : Bool → Hp → Prop) (R : Bool → Prop), Rel X.K p g0 F σ H τ → d τ R → (∀ b H', Ex p H H' → R b → Q b H') → t σ H Q
structure PDW (X : Cx) (p : Qt) (e : Expr) (d : DT) : Prop where
  run : ∃ t, PW X e t ∧ ∀ (g0 : Gd) (F : List Addr) (σ : St) (H : Hp) (τ : Sl) (Q : Bool → Hp → Prop) (R : Bool → Prop), Rel X.K p g0 F σ H τ → d τ R → (∀ b H', Ex p H H' → R b → Q b H') → t σ H Q
structure PDA (X : Cx) (p : Qt) (es : List Expr) (d : DA) : Prop where
  run : ∃ t, PA X es t ∧ ∀ (g0 : Gd) (F : List Addr) (σ : St) (H : Hp) (τ : Sl) (Q : List V → Hp → Prop) (R : List D → Prop), Rel X.K p g0 F σ H τ → d τ R → (∀ xs vs H', Ex p H H' → IsL X.K p F H' vs xs → vs.length = es.length → R xs → Q vs H') → t σ H Q
def OpD (X : Cx) (p : Qt) (f : Value → Value → Sem Value) (g : D → D → (D → Prop) → Prop) : Prop :=
  ∃ r, OpR X f r ∧ ∀ (F : List Addr) (H : Hp) (x y : D) (v u : V) (Q : VK) (R : D → Prop), PkF p F H → Is X.K p F H v x → Is X.K p F H u y → g x y R → (∀ z v' H', Ex p H H' → Is X.K p F H' v' z → R z → Q v' H') → r v u H Q
def UnD (X : Cx) (p : Qt) (f : Value → Sem Value) (g : D → (D → Prop) → Prop) : Prop :=
  ∃ r, UnR X f r ∧ ∀ (F : List Addr) (H : Hp) (x : D) (v : V) (Q : VK) (R : D → Prop), PkF p F H → Is X.K p F H v x → g x R → (∀ z v' H', Ex p H H' → Is X.K p F H' v' z → R z → Q v' H') → r v H Q
def CallD (X : Cx) (p : Qt) (f : Value) (g : List D → (D → Prop) → Prop) : Prop :=
  ∃ r, CallR X f r ∧ ∀ (F : List Addr) (H : Hp) (xs : List D) (vs : List V) (Q : VK) (R : D → Prop), PkF p F H → IsL X.K p F H vs xs → g xs R → (∀ z v' H', Ex p H H' → Is X.K p F H' v' z → R z → Q v' H') → r vs H Q
theorem OpR.or {X : Cx} {f : Value → Value → Sem Value} {r r' : R2} (h : OpR X f r) (h' : OpR X f r') : OpR X f (fun x y H Q => r x y H Q ∨ r' x y H Q) :=
  fun pins s σ H x y v u Q I rx ry q => q.elim (h pins s σ H x y v u Q I rx ry) (h' pins s σ H x y v u Q I rx ry)
theorem CallR.or {X : Cx} {f : Value} {r r' : List V → Hp → VK → Prop} (h : CallR X f r) (h' : CallR X f r') : CallR X f (fun x H Q => r x H Q ∨ r' x H Q) :=
  fun pins s σ H xs us Q I rx q => q.elim (h pins s σ H xs us Q I rx) (h' pins s σ H xs us Q I rx)
def dVar (i : Nat) : DE := fun τ R => match τ[i]? with
  | some (some (.own _)) => False
  | some (some d) => R d
  | _ => False
def dC (d : D) : DE := fun _ R => R d
def dOp (g : D → D → (D → Prop) → Prop) (da db : DE) : DE := fun τ R => da τ fun x => db τ fun y => g x y R
def dUn (g : D → (D → Prop) → Prop) (da : DE) : DE := fun τ R => da τ fun x => g x R
def dTst (d : DE) : DT := fun τ R => d τ fun x => match x with
  | .bl b => R b
  | _ => False
def dAnd (t u : DT) : DT := fun τ R => t τ fun c => if c = true then u τ R else R false
def dOr (t u : DT) : DT := fun τ R => t τ fun c => if c = true then R true else u τ R
def dNot (t : DT) : DT := fun τ R => t τ fun c => R (!c)
def dAndV (da db : DE) : DE := fun τ R => da τ fun x => match x with
  | .bl c => if c = true then db τ R else R (.bl false)
  | _ => False
def dOrV (da db : DE) : DE := fun τ R => da τ fun x => match x with
  | .bl c => if c = true then R (.bl true) else db τ R
  | _ => False
def dNotV (da : DE) : DE := fun τ R => da τ fun x => match x with
  | .bl c => R (.bl (!c))
  | _ => False
def dIf (t : DT) (da db : DE) : DE := fun τ R => t τ fun c => if c = true then da τ R else db τ R
def dNil : DA := fun _ R => R []
def dCons (da : DE) (dr : DA) : DA := fun τ R => da τ fun x => dr τ fun xs => R (x :: xs)
def dTup (t : DA) : DE := fun τ R => t τ fun xs => R (.tup xs)
def dLst (t : DA) : DE := fun τ R => t τ fun xs => R (.lst xs)
def dB (g : List D → (D → Prop) → Prop) (t : DA) : DE := fun τ R => t τ fun xs => g xs R
section
variable {X : Cx} {p : Qt} {a b c : Expr} {da db dc : DE} {pos : Pos}
theorem pd_var (i : Nat) {x : Str} {pos : Pos} (hN : X.N[i]? = some x := by rfl) (hv : Vis X.env.scope x := by first | exact Or.inl rfl | exact Or.inr (Or.inl rfl) | exact Or.inr (Or.inr rfl)) (hd : (x == ("__debug__" : Str)) = false := by decide)
    (hcd : (x == ("__classdict__" : Str)) = false := by decide) : PD X p (.Name x pos) (dVar i) := by
  refine ⟨tVar i, pe_var hN hv hd hcd, fun g0 F σ H τ Q R rel h q => ?_⟩
  unfold dVar at h
  split at h
  · exact h.elim
  · rename_i d n e
    obtain ⟨v, h1, h2⟩ := rel.sl i d e (by cases d <;> first | rfl | exact (n _ rfl).elim)
    exact ⟨v, h1, q d v H (.refl rel.pk) h2 h⟩
  · exact h.elim
theorem pd_int {i j pos} : PD X p (.Constant (.int i) j pos) (dC (.int i)) := ⟨_, pe_int, fun g0 F σ H τ Q R rel h q => q _ _ H (.refl rel.pk) (.int i) h⟩
theorem pd_bl {b j pos} : PD X p (.Constant (.bool b) j pos) (dC (.bl b)) := ⟨_, pe_bl, fun g0 F σ H τ Q R rel h q => q _ _ H (.refl rel.pk) (.bl b) h⟩
theorem pd_non {j pos} : PD X p (.Constant .none j pos) (dC .non) := ⟨_, pe_non, fun g0 F σ H τ Q R rel h q => q _ _ H (.refl rel.pk) .non h⟩
theorem pd_str {x j pos} : PD X p (.Constant (.str x) j pos) (dC (.str x)) := ⟨_, pe_str, fun g0 F σ H τ Q R rel h q => q _ _ H (.refl rel.pk) (.str x) h⟩
theorem pd_gint {x : Str} {i : Int} {t : Tok} {pos : Pos} (hg : Gl X x) (hm : X.mg x = some (.int i t)) (hd : (x == ("__debug__" : Str)) = false := by decide) : PD X p (.Name x pos) (dC (.int i)) :=
  ⟨_, pe_glob (v := .int i) hg hm ⟨t, rfl⟩ hd, fun g0 F σ H τ Q R rel h q => q _ _ H (.refl rel.pk) (.int i) h⟩
def KTup (K : PySem.W.Frag) (a : Addr) (d : D) : Prop := ∀ (p : Qt) (F : List Addr) (H : Hp), a ≠ p.pot → Is K p F H (.ref a) d
theorem pd_gtup {x : Str} {a : Addr} {d : D} {pos : Pos} (hg : Gl X x) (hm : X.mg x = some (.ref a)) (hk : KTup X.K a d) (ne : a ≠ p.pot) (hd : (x == ("__debug__" : Str)) = false := by decide) : PD X p (.Name x pos) (dC d) :=
  ⟨_, pe_glob (v := .ref a) hg hm rfl hd, fun g0 F σ H τ Q R rel h q => q _ _ H (.refl rel.pk) (hk p F H ne) h⟩
theorem pd_ty {x : Str} {n : String} {pos : Pos} (hg : Gl X x) (hm : X.mg x = none) (hv : bootBuiltins x = some (.type n)) (hn : x ≠ "__name__" := by decide) (hd : (x == ("__debug__" : Str)) = false := by decide) : PD X p (.Name x pos) (dC (.ty n)) :=
  ⟨_, pe_bltn (v := .ty n) hg hm hv rfl hn hd, fun g0 F σ H τ Q R rel h q => q _ _ H (.refl rel.pk) (.ty n) h⟩
theorem op_run {r : R2} {ta tb : TE} {g : D → D → (D → Prop) → Prop}
    (hr : ∀ (F : List Addr) (H : Hp) (x y : D) (v u : V) (Q : VK) (R : D → Prop), PkF p F H → Is X.K p F H v x → Is X.K p F H u y → g x y R → (∀ z v' H', Ex p H H' → Is X.K p F H' v' z → R z → Q v' H') → r v u H Q)
    (ka : ∀ (g0 : Gd) (F : List Addr) (σ : St) (H : Hp) (τ : Sl) (Q : VK) (R : D → Prop), Rel X.K p g0 F σ H τ → da τ R → (∀ x v H', Ex p H H' → Is X.K p F H' v x → R x → Q v H') → ta σ H Q)
    (kb : ∀ (g0 : Gd) (F : List Addr) (σ : St) (H : Hp) (τ : Sl) (Q : VK) (R : D → Prop), Rel X.K p g0 F σ H τ → db τ R → (∀ x v H', Ex p H H' → Is X.K p F H' v x → R x → Q v H') → tb σ H Q)
    (g0 : Gd) (F : List Addr) (σ : St) (H : Hp) (τ : Sl) (Q : VK) (R : D → Prop) (rel : Rel X.K p g0 F σ H τ) (h : dOp g da db τ R) (q : ∀ x v H', Ex p H H' → Is X.K p F H' v x → R x → Q v H') : tOp r ta tb σ H Q := by
  refine ka g0 F σ H τ _ _ rel h fun x v H1 e1 i1 h1 => ?_
  refine kb g0 F σ H1 τ _ _ (rel.st e1) h1 fun y u H2 e2 i2 h2 => ?_
  exact hr F H2 x y v u Q R (rel.st (e1.trans e2)).pkf (i1.mono e2.kp) i2 h2 fun z v' H' e3 i3 r3 => q z v' H' ((e1.trans e2).trans e3) i3 r3
theorem pd_bin {op : Operator} {g} (ho : OpD X p (binaryOp op) g) (ha : PD X p a da) (hb : PD X p b db) : PD X p (.BinOp a op b pos) (dOp g da db) := by
  obtain ⟨r, h1, h2⟩ := ho
  obtain ⟨ta, a1, a2⟩ := ha.run
  obtain ⟨tb, b1, b2⟩ := hb.run
  exact ⟨_, pe_op h1 a1 b1, op_run h2 a2 b2⟩
theorem pd_cmp {op : CmpOp} {g} (ho : OpD X p (compareOp op) g) (ha : PD X p a da) (hb : PD X p b db) (hm : behindInMarks op b = false := by first | exact nomark _ | rfl) : PD X p (.Compare a [op] [b] pos) (dOp g da db) := by
  obtain ⟨r, h1, h2⟩ := ho
  obtain ⟨ta, a1, a2⟩ := ha.run
  obtain ⟨tb, b1, b2⟩ := hb.run
  exact ⟨_, pe_cmpR h1 a1 b1 hm, op_run h2 a2 b2⟩
theorem tst_run {ta : TE} (ka : ∀ (g0 : Gd) (F : List Addr) (σ : St) (H : Hp) (τ : Sl) (Q : VK) (R : D → Prop), Rel X.K p g0 F σ H τ → da τ R → (∀ x v H', Ex p H H' → Is X.K p F H' v x → R x → Q v H') → ta σ H Q)
    (g0 : Gd) (F : List Addr) (σ : St) (H : Hp) (τ : Sl) (Q : Bool → Hp → Prop) (R : Bool → Prop) (rel : Rel X.K p g0 F σ H τ) (h : dTst da τ R) (q : ∀ b H', Ex p H H' → R b → Q b H') : ta σ H fun x H' => ∃ k, x = .bl k ∧ Q k H' := by
  refine ka g0 F σ H τ _ _ rel h fun x v H1 e1 i1 h1 => ?_
  cases i1 with
  | bl b => exact ⟨b, rfl, q b H1 e1 h1⟩
  | _ => exact h1.elim
theorem pdt_cmp {op : CmpOp} {g} (ho : OpD X p (compareOp op) g) (ha : PD X p a da) (hb : PD X p b db) (hm : behindInMarks op b = false := by first | exact nomark _ | rfl) : PDT X p (.Compare a [op] [b] pos) (dTst (dOp g da db)) := by
  obtain ⟨r, h1, h2⟩ := ho
  obtain ⟨ta, a1, a2⟩ := ha.run
  obtain ⟨tb, b1, b2⟩ := hb.run
  exact ⟨_, pt_cmpR h1 a1 b1 hm, tst_run (op_run h2 a2 b2)⟩
theorem pdt_val (ha : PD X p a da) (he : ∀ whole, isTrue a X.env whole = (do let v ← whole; standAt a.pos; holding [v] (truthy v)) := by intro _; rfl) : PDT X p a (dTst da) := by
  obtain ⟨ta, a1, a2⟩ := ha.run
  exact ⟨_, pt_val a1 he, tst_run a2⟩
variable {ta tb : DT} {rest : List Expr}
theorem pdw_t (h : PDW X p a ta) : PDT X p a ta := by
  obtain ⟨t, h1, h2⟩ := h.run
  exact ⟨t, h1.pt, h2⟩
theorem pdw_and1 (ha : PDT X p a ta) : PDW X p (.BoolOp .And [a] pos) ta := by
  obtain ⟨t, h1, h2⟩ := ha.run
  exact ⟨t, pw_and1 h1, h2⟩
theorem pdw_or1 (ha : PDT X p a ta) : PDW X p (.BoolOp .Or [a] pos) ta := by
  obtain ⟨t, h1, h2⟩ := ha.run
  exact ⟨t, pw_or1 h1, h2⟩
theorem pdw_and (ha : PDT X p a ta) (hb : PDW X p (.BoolOp .And (b :: rest) pos) tb) : PDW X p (.BoolOp .And (a :: b :: rest) pos) (dAnd ta tb) := by
  obtain ⟨t, h1, h2⟩ := ha.run
  obtain ⟨u, k1, k2⟩ := hb.run
  refine ⟨_, pw_and h1 k1, fun g0 F σ H τ Q R rel h q => ?_⟩
  refine h2 g0 F σ H τ _ _ rel h fun b H1 e1 h1 => ?_
  cases b with
  | true => exact k2 g0 F σ H1 τ Q R (rel.st e1) h1 fun b H' e r => q b H' (e1.trans e) r
  | false => exact q false H1 e1 h1
theorem pdw_or (ha : PDT X p a ta) (hb : PDW X p (.BoolOp .Or (b :: rest) pos) tb) : PDW X p (.BoolOp .Or (a :: b :: rest) pos) (dOr ta tb) := by
  obtain ⟨t, h1, h2⟩ := ha.run
  obtain ⟨u, k1, k2⟩ := hb.run
  refine ⟨_, pw_or h1 k1, fun g0 F σ H τ Q R rel h q => ?_⟩
  refine h2 g0 F σ H τ _ _ rel h fun b H1 e1 h1 => ?_
  cases b with
  | false => exact k2 g0 F σ H1 τ Q R (rel.st e1) h1 fun b H' e r => q b H' (e1.trans e) r
  | true => exact q true H1 e1 h1
theorem pdt_not (ha : PDT X p a ta) : PDT X p (.UnaryOp .Not a pos) (dNot ta) := by
  obtain ⟨t, h1, h2⟩ := ha.run
  exact ⟨_, pt_not h1, fun g0 F σ H τ Q R rel h q => h2 g0 F σ H τ _ _ rel h fun b H1 e1 h1 => q _ H1 e1 h1⟩
theorem pd_one {op} (h : PD X p a da) : PD X p (.BoolOp op [a] pos) da := by
  obtain ⟨t, h1, h2⟩ := h.run
  exact ⟨t, pe_one h1, h2⟩
theorem pd_and (ha : PD X p a da) (hb : PD X p (.BoolOp .And (b :: rest) pos) db) : PD X p (.BoolOp .And (a :: b :: rest) pos) (dAndV da db) := by
  obtain ⟨t, h1, h2⟩ := ha.run
  obtain ⟨u, k1, k2⟩ := hb.run
  refine ⟨_, pe_and h1 k1, fun g0 F σ H τ Q R rel h q => ?_⟩
  refine h2 g0 F σ H τ _ _ rel h fun x v H1 e1 i1 h1 => ?_
  cases i1 with
  | bl c =>
    refine ⟨c, rfl, ?_⟩
    cases c with
    | true => exact k2 g0 F σ H1 τ Q R (rel.st e1) h1 fun x v H' e i r => q x v H' (e1.trans e) i r
    | false => exact q _ _ H1 e1 (.bl false) h1
  | _ => exact h1.elim
theorem pd_not (ha : PD X p a da) : PD X p (.UnaryOp .Not a pos) (dNotV da) := by
  obtain ⟨t, h1, h2⟩ := ha.run
  refine ⟨_, pe_not h1, fun g0 F σ H τ Q R rel h q => ?_⟩
  refine h2 g0 F σ H τ _ _ rel h fun x v H1 e1 i1 h1 => ?_
  cases i1 with
  | bl c => exact ⟨c, rfl, q _ _ H1 e1 (.bl _) h1⟩
  | _ => exact h1.elim
theorem pd_ifx (hc : PDT X p c ta) (ha : PD X p a da) (hb : PD X p b db) : PD X p (.IfExp c a b pos) (dIf ta da db) := by
  obtain ⟨t, h1, h2⟩ := hc.run
  obtain ⟨u, k1, k2⟩ := ha.run
  obtain ⟨w, l1, l2⟩ := hb.run
  refine ⟨_, pe_ifExp h1 k1 l1, fun g0 F σ H τ Q R rel h q => ?_⟩
  refine h2 g0 F σ H τ _ _ rel h fun b H1 e1 h1 => ?_
  cases b with
  | true => exact k2 g0 F σ H1 τ Q R (rel.st e1) h1 fun x v H' e i r => q x v H' (e1.trans e) i r
  | false => exact l2 g0 F σ H1 τ Q R (rel.st e1) h1 fun x v H' e i r => q x v H' (e1.trans e) i r
theorem pd_un {op : UnaryOp} {g} (ho : UnD X p (unaryOp op) g) (ha : PD X p a da) : PD X p (.UnaryOp op a pos) (dUn g da) := by
  obtain ⟨r, h1, h2⟩ := ho
  obtain ⟨t, a1, a2⟩ := ha.run
  refine ⟨_, pe_un h1 a1, fun g0 F σ H τ Q R rel h q => ?_⟩
  refine a2 g0 F σ H τ _ _ rel h fun x v H1 e1 i1 h1 => ?_
  exact h2 F H1 x v Q R (rel.st e1).pkf i1 h1 fun z v' H' e i r => q z v' H' (e1.trans e) i r
variable {es : List Expr} {ds : DA}
theorem pda_nil : PDA X p [] dNil := ⟨_, pa_nil, fun g0 F σ H τ Q R rel h q => q [] [] H (.refl rel.pk) .nil rfl h⟩
theorem pda_cons (ha : PD X p a da) (hr : PDA X p es ds) (hs : starEach (a :: es) X.env = (false, eval a X.env) :: starEach es X.env := by rfl) : PDA X p (a :: es) (dCons da ds) := by
  obtain ⟨t, h1, h2⟩ := ha.run
  obtain ⟨u, k1, k2⟩ := hr.run
  refine ⟨_, pa_cons h1 k1 hs, fun g0 F σ H τ Q R rel h q => ?_⟩
  refine h2 g0 F σ H τ _ _ rel h fun x v H1 e1 i1 h1 => ?_
  refine k2 g0 F σ H1 τ _ _ (rel.st e1) h1 fun xs vs H2 e2 i2 l2 h2 => ?_
  exact q _ _ H2 (e1.trans e2) (.cons (i1.mono e2.kp) i2) (by simp [l2]) h2
theorem pd_tup {k : Nat} (h : PDA X p es ds) (hl : es.length ≤ 1000 := by decide) : PD X p (.Tuple es k pos) (dTup ds) := by
  obtain ⟨t, h1, h2⟩ := h.run
  refine ⟨_, pe_tup h1, fun g0 F σ H τ Q R rel h q => ?_⟩
  refine h2 g0 F σ H τ _ _ rel h fun xs vs H1 e1 i1 l1 h1 => ⟨by rw [l1]; exact Nat.le_of_lt (small1000 hl), fun a ha => ?_⟩
  have e2 : Ex p H1 (upd H1 a (.tup vs)) := .new e1.pk ha
  exact q _ _ _ (e1.trans e2) (.tup (SqT.of upd_same) (e1.pk.ne ha) (i1.mono e2.kp)) h1
theorem pd_lst (h : PDA X p es ds) (hl : es.length ≤ 1000 := by decide) : PD X p (.List es pos) (dLst ds) := by
  obtain ⟨t, h1, h2⟩ := h.run
  refine ⟨_, pe_lst h1, fun g0 F σ H τ Q R rel h q => ?_⟩
  refine h2 g0 F σ H τ _ _ rel h fun xs vs H1 e1 i1 l1 h1 => ⟨by rw [l1]; exact Nat.le_of_lt (small1000 hl), fun a ha => ?_⟩
  have e2 : Ex p H1 (upd H1 a (.lst vs)) := .new e1.pk ha
  exact q _ _ _ (e1.trans e2) (.lst (Rd.of upd_same) ((rel.st e1).notF ha) (i1.mono e2.kp)) h1
theorem pd_callB {x : Str} {p' : Pos} {e : Expr} {id : String} {g} (hc : CallD X p (.builtin id) g) (hg : Gl X x) (hm : X.mg x = none) (hv : bootBuiltins x = some (.builtin id)) (ha : PDA X p (e :: es) ds) (hn : x ≠ "__name__" := by decide) (hdb : (x == ("__debug__" : Str)) = false := by decide)
    (he : starEach (e :: es) X.env = (false, eval e X.env) :: starEach es X.env := by rfl) (hpl : (backTo pos (starEach es X.env)).any (·.1) = false := by rfl) : PD X p (.Call (.Name x p') (e :: es) [] pos) (dB g ds) := by
  obtain ⟨r, c1, c2⟩ := hc
  obtain ⟨t, h1, h2⟩ := ha.run
  refine ⟨_, pe_callB c1 hg hm hv h1 hn hdb he hpl, fun g0 F σ H τ Q R rel h q => ?_⟩
  refine h2 g0 F σ H τ _ _ rel h fun xs vs H1 e1 i1 l1 h1 => ?_
  exact c2 F H1 xs vs Q R (rel.st e1).pkf i1 h1 fun z v' H' e i r => q z v' H' (e1.trans e) i r
theorem pd_callTy {x : Str} {p' : Pos} {e : Expr} {T : String} {g} (hc : CallD X p (.type T) g) (hg : Gl X x) (hm : X.mg x = none) (hv : bootBuiltins x = some (.type T)) (ha : PDA X p (e :: es) ds) (hn : x ≠ "__name__" := by decide) (hdb : (x == ("__debug__" : Str)) = false := by decide)
    (he : starEach (e :: es) X.env = (false, eval e X.env) :: starEach es X.env := by rfl) (hpl : (backTo pos (starEach es X.env)).any (·.1) = false := by rfl) : PD X p (.Call (.Name x p') (e :: es) [] pos) (dB g ds) := by
  obtain ⟨r, c1, c2⟩ := hc
  obtain ⟨t, h1, h2⟩ := ha.run
  refine ⟨_, pe_callTy c1 hg hm hv h1 hn hdb he hpl, fun g0 F σ H τ Q R rel h q => ?_⟩
  refine h2 g0 F σ H τ _ _ rel h fun xs vs H1 e1 i1 l1 h1 => ?_
  exact c2 F H1 xs vs Q R (rel.st e1).pkf i1 h1 fun z v' H' e i r => q z v' H' (e1.trans e) i r
theorem pd_callFun {x : Str} {p' : Pos} {e : Expr} {id : String} {g} (hc : CallD X p (.builtin id) g) (hg : Gl X x) (hm : X.mg x = some (.builtin id)) (ha : PDA X p (e :: es) ds) (hdb : (x == ("__debug__" : Str)) = false := by decide)
    (he : starEach (e :: es) X.env = (false, eval e X.env) :: starEach es X.env := by rfl) (hpl : (backTo pos (starEach es X.env)).any (·.1) = false := by rfl) : PD X p (.Call (.Name x p') (e :: es) [] pos) (dB g ds) := by
  obtain ⟨r, c1, c2⟩ := hc
  obtain ⟨t, h1, h2⟩ := ha.run
  refine ⟨_, pe_callBfun c1 hg hm h1 hdb he hpl, fun g0 F σ H τ Q R rel h q => ?_⟩
  refine h2 g0 F σ H τ _ _ rel h fun xs vs H1 e1 i1 l1 h1 => ?_
  exact c2 F H1 xs vs Q R (rel.st e1).pkf i1 h1 fun z v' H' e i r => q z v' H' (e1.trans e) i r
end
end DL
namespace DL
open PySem PySem.Spec L2
abbrev SpD := List D → (D → Prop) → Prop
def toSp (K : PySem.W.Frag) (tabs : Tf) (n : Nat) (sp : SpD) : Sp := fun vs H Q _ => vs.length = n ∧ ∃ (pot : Addr) (F : List Addr) (ds : List D) (R : D → Prop), PkF ⟨pot, tabs⟩ F H ∧ IsL K ⟨pot, tabs⟩ F H vs ds ∧ sp ds R ∧ ∀ x v H', Ex ⟨pot, tabs⟩ H H' → Is K ⟨pot, tabs⟩ F H' v x → R x → Q v H'
structure DEn where
  nx : Sl → Prop
  rt : D → Prop
  bk : Sl → Prop := fun _ => False
  ct : Sl → Prop := fun _ => False
  /-- a list of its own is handed out -/
  ro : List D → Prop := fun _ => False
abbrev DS := DEn → Sl → Prop
structure Agree (K : PySem.W.Frag) (p : Qt) (g : Gd) (E' : DEn) (E : Ends) : Prop where
  nx : ∀ F σ H τ, Rel K p g F σ H τ → E'.nx τ → E.nx σ H
  rt : ∀ F σ H τ v x, Rel K p g F σ H τ → Is K p F H v x → E'.rt x → E.rt v H
  bk : ∀ F σ H τ, Rel K p g F σ H τ → E'.bk τ → E.bk σ H
  ct : ∀ F σ H τ, Rel K p g F σ H τ → E'.ct τ → E.ct σ H
  ro : ∀ (F : List Addr) (σ : St) (H : Hp) (τ : Sl) (a : Addr) (vs : List V) (l : List D), Rel K p g F σ H τ → a ∈ F → a ∉ g.F0 → H a = some (.lst vs) → IsL K p F H vs l → E'.ro l → E.rt (.ref a) H := by exact fun _ _ _ _ _ _ _ _ _ _ _ _ z => z.elim
structure PDS (X : Cx) (p : Qt) (st : Stmt) (d : DS) : Prop where
  run : ∃ t, PS X st t ∧ ∀ (g : Gd) (F : List Addr) (σ : St) (H : Hp) (τ : Sl) (E : Ends) (E' : DEn), Rel X.K p g F σ H τ → d E' τ → Agree X.K p g E' E → t E σ H
structure PDSs (X : Cx) (p : Qt) (st : List Stmt) (d : DS) : Prop where
  run : ∃ t, PSs X st t ∧ ∀ (g : Gd) (F : List Addr) (σ : St) (H : Hp) (τ : Sl) (E : Ends) (E' : DEn), Rel X.K p g F σ H τ → d E' τ → Agree X.K p g E' E → t E σ H
def dNext : DS := fun E τ => E.nx τ
def dSeq (t u : DS) : DS := fun E τ => t { E with nx := u E } τ
def dRet (d : DE) : DS := fun E τ => d τ E.rt
def dRetN : DS := fun E _ => E.rt .non
def dIfS (c : DT) (t u : DS) : DS := fun E τ => c τ fun b => if b = true then t E τ else u E τ
def dDrop (d : DE) : DS := fun E τ => d τ fun _ => E.nx τ
def dNever : DS := fun _ _ => False
def dBrk : DS := fun E τ => E.bk τ
def dCnt : DS := fun E τ => E.ct τ
abbrev DG := D → Sl → (Sl → Prop) → Prop
def dAsg (d : DE) (g : DG) : DS := fun E τ => d τ fun x => g x τ E.nx
structure PDG (X : Cx) (p : Qt) (tg : Expr) (d : DG) : Prop where
  run : ∃ t : TG, PG X tg t ∧ ∀ (v : V) (x : D) (g : Gd) (F : List Addr) (σ : St) (H : Hp) (τ : Sl) (Q : St → Hp → Prop) (R : Sl → Prop), Rel X.K p g F σ H τ → Is X.K p F H v x → d x τ R → (∀ σ' H' τ', Rel X.K p g F σ' H' τ' → (∀ w y, Is X.K p F H w y → Is X.K p F H' w y) → R τ' → Q σ' H') → t v σ H Q
abbrev DGs := List D → Sl → (Sl → Prop) → Prop
structure PDGs (X : Cx) (p : Qt) (tgs : List Expr) (d : DGs) : Prop where
  run : ∃ t : TGs, PGs X tgs t ∧ ∀ (vs : List V) (xs : List D) (g : Gd) (F : List Addr) (σ : St) (H : Hp) (τ : Sl) (Q : St → Hp → Prop) (R : Sl → Prop), Rel X.K p g F σ H τ → IsL X.K p F H vs xs → d xs τ R → (∀ σ' H' τ', Rel X.K p g F σ' H' τ' → (∀ w y, Is X.K p F H w y → Is X.K p F H' w y) → R τ' → Q σ' H') → t vs σ H Q
def gN (i : Nat) : DG := fun x τ R => R (τ.set i (some x))
def gNl : DGs := fun xs τ R => match xs with
  | [] => R τ
  | _ => False
def gCn (g : DG) (gs : DGs) : DGs := fun xs τ R => match xs with
  | x :: r => g x τ fun τ' => gs r τ' R
  | _ => False
def gTu (n : Nat) (gs : DGs) : DG := fun x τ R => match x with
  | .tup xs => xs.length = n ∧ gs xs τ R
  | _ => False
def gP0 (i : Nat) : DG := fun x τ R => match τ[i]?, x with
  | some (some .pot), .int a => 0 ≤ a ∧ R τ
  | _, _ => False
def gP1 (i : Nat) : DG := fun x τ R => match τ[i]?, x with
  | some (some .pot), .int a => (0 ≤ a ∧ a < 4294967296) ∧ R τ
  | _, _ => False
section
variable {K : PySem.W.Frag} {p : Qt}
theorem IsL.all {F : List Addr} {H H' : Hp} (f : ∀ w y, Is K p F H w y → Is K p F H' w y) : ∀ {vs : List V} {xs : List D}, IsL K p F H vs xs → IsL K p F H' vs xs
  | [], _, h => by cases h; exact .nil
  | v :: vs, _, h => by
    cases h with
    | cons h1 h2 => exact .cons (f _ _ h1) (IsL.all f h2)
end
section
variable {X : Cx} {p : Qt} {pos : Pos} {st : Stmt} {rest : List Stmt} {t u : DS} {e : Expr} {d : DE}
theorem Agree.seq {K : PySem.W.Frag} {g : Gd} {E' : DEn} {E : Ends} (a : Agree K p g E' E) {n' : Sl → Prop} {n : St → Hp → Prop} (h : ∀ F σ H τ, Rel K p g F σ H τ → n' τ → n σ H) : Agree K p g { E' with nx := n' } { E with nx := n } := ⟨h, a.rt, a.bk, a.ct, a.ro⟩
theorem pdss_nil : PDSs X p [] dNext := ⟨_, pss_nil, fun g F σ H τ E E' rel h a => a.nx F σ H τ rel h⟩
theorem pdss_cons (h1 : PDS X p st t) (h2 : PDSs X p rest u) : PDSs X p (st :: rest) (dSeq t u) := by
  obtain ⟨a, a1, a2⟩ := h1.run
  obtain ⟨b, b1, b2⟩ := h2.run
  refine ⟨_, pss_cons a1 b1, fun g F σ H τ E E' rel h ag => ?_⟩
  exact a2 g F σ H τ _ _ rel h (ag.seq fun F' σ' H' τ' rel' h' => b2 g F' σ' H' τ' E E' rel' h' ag)
theorem pdss_one (h1 : PDS X p st t) : PDSs X p [st] t := by
  obtain ⟨a, a1, a2⟩ := h1.run
  exact ⟨_, pss_one a1, a2⟩
theorem pds_never : PDS X p st dNever := ⟨_, ps_never, fun _ _ _ _ _ _ _ _ h _ => h.elim⟩
theorem pds_ret (he : PD X p e d) : PDS X p (.Return (some e) pos) (dRet d) := by
  obtain ⟨a, a1, a2⟩ := he.run
  exact ⟨_, ps_ret a1, fun g F σ H τ E E' rel h ag => a2 g F σ H τ _ _ rel h fun x v H' e1 i1 r1 => ag.rt F σ H' τ v x (rel.st e1) i1 r1⟩
theorem pds_expr (he : PD X p e d) (hs : swapsWith e none pos.line X.env = pure false := by rfl) : PDS X p (.Expr e pos) (dDrop d) := by
  obtain ⟨a, a1, a2⟩ := he.run
  exact ⟨_, ps_expr a1 hs, fun g F σ H τ E E' rel h ag => a2 g F σ H τ _ _ rel h fun x v H' e1 i1 r1 => ag.nx F σ H' τ (rel.st e1) r1⟩
theorem pds_if {c : Expr} {a b : List Stmt} {tc : DT} (hc : PDT X p c tc) (ha : PDSs X p a t) (hb : PDSs X p b u) : PDS X p (.If c a b pos) (dIfS tc t u) := by
  obtain ⟨c0, c1, c2⟩ := hc.run
  obtain ⟨a0, a1, a2⟩ := ha.run
  obtain ⟨b0, b1, b2⟩ := hb.run
  refine ⟨_, ps_if c1 a1 b1, fun g F σ H τ E E' rel h ag => ?_⟩
  refine c2 g F σ H τ _ _ rel h fun b H1 e1 h1 => ?_
  cases b with
  | true => exact a2 g F σ H1 τ E E' (rel.st e1) h1 ag
  | false => exact b2 g F σ H1 τ E E' (rel.st e1) h1 ag
theorem pds_set {i : Nat} {x : Str} {pos' : Pos} (hN : X.N.Nodup) (hi : X.N[i]? = some x) (hx : Loc X.env.scope x) (he : PD X p e d) (hs : swapsWith e (some (.Name x pos')) pos.line X.env = pure false := by rfl) (hf : X.fn x = true ∨ X.env.scope.names.lookup x = some .local := by first | exact .inl rfl | exact .inr rfl | assumption) :
    PDS X p (.Assign [.Name x pos'] e pos) (dAsg d (gN i)) := by
  obtain ⟨a, a1, a2⟩ := he.run
  refine ⟨_, ps_set hN hi hx a1 hs hf, fun g F σ H τ E E' rel h ag => ?_⟩
  exact a2 g F σ H τ _ _ rel h fun x v H' e1 i1 r1 => ag.nx F _ H' _ ((rel.st e1).set i1) r1
theorem pdg_name {i : Nat} {x : Str} (hN : X.N.Nodup) (hi : X.N[i]? = some x) (hx : Loc X.env.scope x) (hf : X.fn x = true ∨ X.env.scope.names.lookup x = some .local := by first | exact .inl rfl | exact .inr rfl | assumption) : PDG X p (.Name x pos) (gN i) :=
  ⟨_, pg_name hN hi hx hf, fun v x g F σ H τ Q R rel i1 h q => q _ H _ (rel.set i1) (fun _ _ z => z) h⟩
theorem pdgs_nil : PDGs X p [] gNl := by
  refine ⟨_, pgs_nil, fun vs xs g F σ H τ Q R rel i1 h q => ?_⟩
  cases i1 with
  | nil => exact ⟨rfl, q σ H τ rel (fun _ _ z => z) h⟩
  | cons _ _ => exact h.elim
theorem pdgs_cons {es : List Expr} {g : DG} {gs : DGs} (h1 : PDG X p e g) (h2 : PDGs X p es gs) (hs : (assignEach (e :: es) X.env).map (·.2) = assign e X.env :: (assignEach es X.env).map (·.2) := by rfl) : PDGs X p (e :: es) (gCn g gs) := by
  obtain ⟨a, a1, a2⟩ := h1.run
  obtain ⟨b, b1, b2⟩ := h2.run
  refine ⟨_, pgs_cons a1 b1 hs, fun vs xs g0 F σ H τ Q R rel i1 h q => ?_⟩
  cases i1 with
  | nil => exact h.elim
  | cons i1 i2 =>
    refine ⟨_, _, rfl, a2 _ _ g0 F σ H τ _ _ rel i1 h fun σ' H' τ' rel1 k1 h1 => ?_⟩
    exact b2 _ _ g0 F σ' H' τ' _ _ rel1 (i2.all k1) h1 fun σ2 H2 τ2 rel2 k2 r2 => q σ2 H2 τ2 rel2 (fun w y z => k2 w y (k1 w y z)) r2
theorem pdg_tup {es : List Expr} {k n : Nat} {gs : DGs} (hc : X.calm = true) (h : PDGs X p es gs) (hn : (assignEach es X.env).length = n := by rfl) (hst : (assignEach es X.env).findIdx? (·.1) = none := by rfl) : PDG X p (.Tuple es k pos) (gTu n gs) := by
  obtain ⟨a, a1, a2⟩ := h.run
  refine ⟨_, pg_tup hc a1 hn hst, fun v x g F σ H τ Q R rel i1 h q => ?_⟩
  cases i1 with
  | tup s ne il =>
    obtain ⟨hl, h⟩ := h
    exact ⟨_, _, rfl, s, by rw [il.len]; exact hl, a2 _ _ g F σ H τ _ _ rel il h q⟩
  | _ => exact h.elim
theorem Ex.pot {H : Hp} {a b : Int} (k : Pk p H) (h0 : 0 ≤ a) (h1 : 0 ≤ b) (h2 : b < 4294967296) : Ex p H (upd H p.pot (.lst [.int a, .int b])) := by
  obtain ⟨_, _, _, _, _, e⟩ := k.at_
  refine ⟨fun c o n _ e => by rw [upd_ne n]; exact e, ⟨a, b, h0, h1, h2, upd_same⟩, fun t ht => TabG.upd (k.tb t ht) fun z => ?_, Tabs.put k.lt e, k.lp⟩
  obtain ⟨_, e', _⟩ := k.tb t ht
  rw [← z, e] at e'
  cases e'
theorem pdg_p0 {i : Nat} {o ix : Expr} (hi : X.N[i]? = X.N[i]?) (ho : PD X p o (dVar i)) (hx : PD X p ix (dC (.int 0)))
    (ha : ∀ v, assign (.Subscript o ix pos) X.env v = (do
      let ov ← holding [v] (eval o X.env)
      let iv ← holding [v, ov] (eval ix X.env)
      standAt pos
      holding [v, ov, iv] (setItem ov iv v)
      release [v, ov, iv] []) := by intro _; rfl) : PDG X p (.Subscript o ix pos) (gP0 i) := by
  obtain ⟨a, a1, a2⟩ := ho.run
  obtain ⟨b, b1, b2⟩ := hx.run
  refine ⟨_, pg_sub a1 b1 set_list ha, fun v x g F σ H τ Q R rel i1 h q => ?_⟩
  unfold gP0 at h
  split at h
  · rename_i z hz
    obtain ⟨h0, hR⟩ := h
    refine a2 g F σ H τ _ (fun d => d = .pot) rel (by unfold dVar; rw [hz]) fun d ov H1 e1 j1 hd => ?_
    subst hd
    refine b2 g F σ H1 τ _ (fun d => d = .int 0) (rel.st e1) rfl fun d iv H2 e2 j2 hd => ?_
    subst hd
    cases j1
    cases j2
    cases i1
    obtain ⟨x, y, p0, p1, p2, hp⟩ := e2.pk.at_
    refine ⟨p.pot, _, 0, 0, rfl, rfl, hp, rfl, ?_⟩
    have e3 : Ex p H2 (upd H2 p.pot (.lst ([V.int x, V.int y].set 0 (V.int z)))) := .pot e2.pk h0 p1 p2
    exact q σ _ τ (rel.st ((e1.trans e2).trans e3)) (fun w y z => z.mono ((e1.trans e2).trans e3).kp) hR
  · exact h.elim
theorem pdg_p1 {i : Nat} {o ix : Expr} (hi : X.N[i]? = X.N[i]?) (ho : PD X p o (dVar i)) (hx : PD X p ix (dC (.int 1)))
    (ha : ∀ v, assign (.Subscript o ix pos) X.env v = (do
      let ov ← holding [v] (eval o X.env)
      let iv ← holding [v, ov] (eval ix X.env)
      standAt pos
      holding [v, ov, iv] (setItem ov iv v)
      release [v, ov, iv] []) := by intro _; rfl) : PDG X p (.Subscript o ix pos) (gP1 i) := by
  obtain ⟨a, a1, a2⟩ := ho.run
  obtain ⟨b, b1, b2⟩ := hx.run
  refine ⟨_, pg_sub a1 b1 set_list ha, fun v x g F σ H τ Q R rel i1 h q => ?_⟩
  unfold gP1 at h
  split at h
  · rename_i z hz
    obtain ⟨⟨h0, h1⟩, hR⟩ := h
    refine a2 g F σ H τ _ (fun d => d = .pot) rel (by unfold dVar; rw [hz]) fun d ov H1 e1 j1 hd => ?_
    subst hd
    refine b2 g F σ H1 τ _ (fun d => d = .int 1) (rel.st e1) rfl fun d iv H2 e2 j2 hd => ?_
    subst hd
    cases j1
    cases j2
    cases i1
    obtain ⟨x, y, p0, p1, p2, hp⟩ := e2.pk.at_
    refine ⟨p.pot, _, 1, 1, rfl, rfl, hp, rfl, ?_⟩
    have e3 : Ex p H2 (upd H2 p.pot (.lst ([V.int x, V.int y].set 1 (V.int z)))) := .pot e2.pk p0 h0 h1
    exact q σ _ τ (rel.st ((e1.trans e2).trans e3)) (fun w y z => z.mono ((e1.trans e2).trans e3).kp) hR
  · exact h.elim
theorem pds_asg {tg : Expr} {g : DG} (he : PD X p e d) (hg : PDG X p tg g) (hs : swapsWithSole [tg] e pos.line X.env = pure false := by rfl) (hw : swappedStores [tg] e X.env = pure none := by rfl)
    (h1 : (assignEach [tg] X.env).map (·.2) = [assign tg X.env] := by rfl) : PDS X p (.Assign [tg] e pos) (dAsg d g) := by
  obtain ⟨a, a1, a2⟩ := he.run
  obtain ⟨b, b1, b2⟩ := hg.run
  refine ⟨_, ps_asg a1 b1 hs hw h1, fun g F σ H τ E E' rel h ag => ?_⟩
  refine a2 g F σ H τ _ _ rel h fun x v H1 e1 i1 r1 => ?_
  exact b2 v x g F σ H1 τ _ _ (rel.st e1) i1 r1 fun σ' H' τ' rel2 _ r2 => ag.nx F σ' H' τ' rel2 r2
def dPar (i j : Nat) (t : DA) : DS := fun E τ => t τ fun xs => match xs with
  | [x, y] => E.nx ((τ.set i (some x)).set j (some y))
  | _ => False
theorem pds_par {i j : Nat} {x y : Str} {a b : Expr} {ta : DA} {px py pt : Pos} {kt k2 pt2} (hc : X.calm = true) (hN : X.N.Nodup) (hi : X.N[i]? = some x) (hj : X.N[j]? = some y) (hij : i ≠ j)
    (hx : X.env.scope.names.lookup x = some .local) (hy : X.env.scope.names.lookup y = some .local) (ha : PDA X p [a, b] ta)
    (hw : swappedStores [.Tuple [.Name x px, .Name y py] kt pt] (.Tuple [a, b] k2 pt2) X.env = pure (some [x, y]))
    (hs : swapsWithSole [.Tuple [.Name x px, .Name y py] kt pt] (.Tuple [a, b] k2 pt2) pos.line X.env = pure false := by rfl) :
    PDS X p (.Assign [.Tuple [.Name x px, .Name y py] kt pt] (.Tuple [a, b] k2 pt2) pos) (dPar i j ta) := by
  obtain ⟨a, a1, a2⟩ := ha.run
  refine ⟨_, ps_par hc hN hi hj hij hx hy a1 hw hs, fun g F σ H τ E E' rel h ag => ?_⟩
  refine a2 g F σ H τ _ _ rel h fun xs vs H1 e1 i1 l1 r1 => ?_
  cases i1 with
  | nil => exact r1.elim
  | cons i1 i2 =>
    cases i2 with
    | nil => exact r1.elim
    | cons i2 i3 =>
      cases i3 with
      | nil => exact ⟨_, _, rfl, ag.nx F _ H1 _ (((rel.st e1).set i1).set i2) r1⟩
      | cons _ _ => exact r1.elim
def dPar3 (i j l : Nat) (t : DA) : DS := fun E τ => t τ fun xs => match xs with
  | [x, y, z] => E.nx (((τ.set i (some x)).set j (some y)).set l (some z))
  | _ => False
end
def Gd.cut (g : Gd) (F : List Addr) (H : Hp) : Gd := ⟨g.F0, F.filter (fun b => decide (b ∉ g.F0)), H⟩
section
variable {K : PySem.W.Frag} {p : Qt} {g : Gd} {F F' : List Addr} {σ σ' : St} {H H' : Hp} {τ τ' : Sl}
theorem Rel.cut (r : Rel K p g F σ H τ) : Rel K p (g.cut F H) F σ H τ where
  pk := r.pk
  kp := fun _ _ _ _ _ e => e
  sub := r.sub
  al := r.al
  fo := fun b hb => by
    by_cases h : b ∈ g.F0
    · exact .inl h
    · exact .inr (.inl (List.mem_filter.mpr ⟨hb, by simpa using h⟩))
  sl := r.sl
  ow := r.ow
  un := r.un
  len := r.len
theorem Rel.back (r : Rel K p g F σ H τ) (r' : Rel K p (g.cut F H) F' σ' H' τ') : Rel K p g F' σ' H' τ' where
  pk := r'.pk
  kp := fun b o n nb t e => by
    refine r'.kp b o n (fun z => ?_) t (r.kp b o n nb t e)
    obtain ⟨z1, z2⟩ := List.mem_filter.mp z
    rcases r.fo b z1 with q | q | q
    · exact (by simpa using z2 : b ∉ g.F0) q
    · exact nb q
    · exact q o t e
  sub := r'.sub
  al := r'.al
  fo := fun b hb => by
    rcases r'.fo b hb with q | q | q
    · exact .inl q
    · exact r.fo b (List.mem_filter.mp q).1
    · by_cases hB : b ∈ g.B
      · exact .inr (.inl hB)
      · exact .inr (.inr fun o t e => q o t (r.kp b o (r'.al b hb).1 hB t e))
  sl := r'.sl
  ow := r'.ow
  un := r'.un
  len := r'.len
theorem Rel.since (r' : Rel K p (g.cut F H) F' σ' H' τ') {b : Addr} {o : HO} (n : b ≠ p.pot) (nf : b ∉ F) (t : NoT o) (e : H b = some o) : H' b = some o :=
  r'.kp b o n (fun z => nf (List.mem_filter.mp z).1) t e
theorem Rel.isl {vs : List V} {l : List D} (r' : Rel K p (g.cut F H) F' σ' H' τ') (i : IsL K p F H vs l) (k : ∀ b o, b ≠ p.pot → b ∉ F → NoT o → H b = some o → H' b = some o) (al : ∀ b ∈ F, ∃ o, H b = some o ∧ isMut o) (s0 : ∀ b ∈ g.F0, b ∈ F) : IsL K p F' H' vs l :=
  IsL.rec (motive_1 := fun v d _ => Is K p F' H' v d) (motive_2 := fun vs l _ => IsL K p F' H' vs l) .non .bl .int .str .ty .fn
    (fun {a vs l} h n _ ih => .tup (by
      rcases h with (h | ⟨o, h⟩) | h
      · refine .inl (.inl (k _ _ n (fun z => ?_) (fun _ z => nomatch z) h))
        obtain ⟨o, q, m⟩ := al a z
        rw [h] at q
        cases q
        exact m
      · refine .inl (.inr ⟨o, k _ _ n (fun z => ?_) (fun _ z => nomatch z) h⟩)
        obtain ⟨o, q, m⟩ := al a z
        rw [h] at q
        cases q
        exact m
      · exact .inr h) n ih)
    (fun {a vs l} h m _ ih => .lst (by
      rcases h with h | ⟨o, h⟩
      · exact .inl (k _ _ m.1 m.2 (fun _ z => nomatch z) h)
      · exact .inr ⟨o, k _ _ m.1 m.2 (fun _ z => nomatch z) h⟩) ⟨m.1, fun z => by
        rcases r'.fo _ z with q | q | q
        · exact m.2 (s0 _ q)
        · exact m.2 (List.mem_filter.mp q).1
        · obtain ⟨o, h1, h2⟩ := Rdl.noT h
          exact q o h1 h2⟩ ih) .pot .nil (fun _ _ i1 i2 => .cons i1 i2) i
end
structure ExF (p : Qt) (F : List Addr) (H H' : Hp) : Prop where
  kp : ∀ b o, b ≠ p.pot → b ∉ F → NoT o → H b = some o → H' b = some o
  pk : Pk p H'
structure WD (K : PySem.W.Frag) (p : Qt) (F : List Addr) (J : It) (H0 : Hp) (l : List D) : Prop where
  step : ∀ (i : Nat) (H : Hp) (F' : List Addr), ExF p F H0 H → (∀ {vs : List V} {l : List D}, IsL K p F H0 vs l → IsL K p F' H vs l) → PkF p F' H → i < l.length → J.go i H ∧ ∀ x H', J.yld i H x H' → Ex p H H' ∧ ∃ d, l[i]? = some d ∧ Is K p F' H' x d
  stop : ∀ H, ExF p F H0 H → J.stop l.length H
abbrev DI := Sl → (List D → Prop) → Prop
structure PDI (X : Cx) (p : Qt) (tg iter : Expr) (d : DI) : Prop where
  run : ∃ wi, PI X tg iter wi ∧ ∀ (g : Gd) (F : List Addr) (σ : L2.St) (H : Hp) (τ : Sl) (Rw : It → Hp → Prop) (R : List D → Prop), Rel X.K p g F σ H τ → d τ R → (∀ J H1 l, Ex p H H1 → WD X.K p F J H1 l → R l → Rw J H1) → wi σ H Rw
theorem Ex.toF {p : Qt} {F : List Addr} {H H' : Hp} (e : Ex p H H') : ExF p F H H' := ⟨fun b o n _ t q => e.kp b o n t q, e.pk⟩
def dForGo (g : DG) (body : DS) (E : DEn) : List D → Sl → Prop
  | [], τ => E.nx τ
  | x :: r, τ => g x τ fun τ2 => body { nx := dForGo g body E r, rt := E.rt, bk := E.nx, ct := dForGo g body E r } τ2
def dFor (it : DI) (g : DG) (body : DS) : DS := fun E τ => it τ fun l => dForGo g body E l τ
def dWhile (c : DT) (body : DS) : DS := fun E τ => ∃ W : Nat → Sl → Prop, (∃ m, W m τ) ∧ ∀ m τ, W m τ → c τ fun b => if b = true then body { nx := fun τ' => ∃ m', m' < m ∧ W m' τ', rt := E.rt, bk := E.nx, ct := fun τ' => ∃ m', m' < m ∧ W m' τ' } τ else E.nx τ
section
variable {X : Cx} {p : Qt} {pos : Pos}
theorem drop_at {l : List D} {i : Nat} {d : D} (h : l[i]? = some d) : l.drop i = d :: l.drop (i + 1) := by
  obtain ⟨hi, e⟩ := List.getElem?_eq_some_iff.mp h
  rw [List.drop_eq_getElem_cons hi, e]
theorem pds_for {tg iter : Expr} {body : List Stmt} {it : DI} {gt : DG} {b : DS} (hc : X.calm = true) (hp : PassesOwn (model X.prog X.w) X.A X.env X.xe) (hi : PDI X p tg iter it) (hg : PDG X p tg gt) (hb : PDSs X p body b)
    (hs : ∀ x, foldedSetIterable iter X.env x = pure x := by intro _; rfl) : PDS X p (.For tg iter body [] pos) (dFor it gt b) := by
  obtain ⟨wi, i1, i2⟩ := hi.run
  obtain ⟨tg', g1, g2⟩ := hg.run
  obtain ⟨tb, b1, b2⟩ := hb.run
  refine ⟨_, ps_for hp hc i1 g1 b1 hs, fun g F σ H τ E E' rel h ag => ?_⟩
  refine i2 g F σ H τ _ _ rel h fun J H1 l e1 wd h1 => ?_
  have rel1 := rel.st e1
  have isl : ∀ {F' : List Addr} {σ' : L2.St} {H' : Hp} {τ' : Sl}, Rel X.K p (g.cut F H1) F' σ' H' τ' → ∀ {vs : List V} {l : List D}, IsL X.K p F H1 vs l → IsL X.K p F' H' vs l := by
    intro F' σ' H' τ' r' vs l i
    exact r'.isl i (fun b o n nf t e => r'.since n nf t e) (fun b hb => (rel1.al b hb).2) rel1.sub
  refine ⟨fun i m σ' H' => i ≤ l.length ∧ m = l.length - i ∧ ∃ F' τ', Rel X.K p (g.cut F H1) F' σ' H' τ' ∧ dForGo gt b E' (l.drop i) τ', ⟨_, Nat.zero_le _, rfl, F, τ, rel1.cut, h1⟩, ?_⟩
  rintro i m σ' H' ⟨hi, rfl, F', τ', rel', h'⟩
  have exf : ExF p F H1 H' := ⟨fun b o n nf t e => rel'.since n nf t e, rel'.pk⟩
  by_cases hlt : i < l.length
  · obtain ⟨go, y⟩ := wd.step i H' F' exf (isl rel') rel'.pkf hlt
    refine .inr ⟨go, fun σ2 H2 => i + 1 ≤ l.length ∧ ∃ F2 τ2, Rel X.K p (g.cut F H1) F2 σ2 H2 τ2 ∧ dForGo gt b E' (l.drop (i + 1)) τ2, fun σ2 H2 ⟨q1, q2⟩ => ⟨_, by omega, q1, rfl, q2⟩, fun x H2 yl => ?_⟩
    obtain ⟨e2, d, hd, hx⟩ := y x H2 yl
    rw [drop_at hd] at h'
    refine g2 x d (g.cut F H1) F' σ' H2 τ' _ _ (rel'.st e2) hx h' fun σ3 H3 τ3 rel3 _ h3 => ?_
    refine b2 (g.cut F H1) F' σ3 H3 τ3 _ _ rel3 h3 ⟨fun F4 σ4 H4 τ4 rel4 h4 => ⟨hlt, F4, τ4, rel4, h4⟩, fun F4 σ4 H4 τ4 v x rel4 i4 h4 => ag.rt F4 σ4 H4 τ4 v x (rel1.back rel4) i4 h4, fun F4 σ4 H4 τ4 rel4 h4 => ag.nx F4 σ4 H4 τ4 (rel1.back rel4) h4, fun F4 σ4 H4 τ4 rel4 h4 => ⟨hlt, F4, τ4, rel4, h4⟩, fun _ _ _ _ _ _ _ _ _ _ _ _ z => z.elim⟩
  · have e : i = l.length := by omega
    subst e
    rw [List.drop_length] at h'
    exact .inl ⟨wd.stop H' exf, ag.nx F' σ' H' τ' (rel1.back rel') h'⟩
theorem pds_while {c : Expr} {body : List Stmt} {dc : DT} {b : DS} (hp : PassesOwn (model X.prog X.w) X.A X.env X.xe) (hc : PDT X p c dc) (hb : PDSs X p body b) : PDS X p (.While c body [] pos) (dWhile dc b) := by
  obtain ⟨tc, c1, c2⟩ := hc.run
  obtain ⟨tb, b1, b2⟩ := hb.run
  refine ⟨_, ps_while hp c1 b1, fun g F σ H τ E E' rel h ag => ?_⟩
  obtain ⟨W, ⟨m0, w0⟩, turn⟩ := h
  refine ⟨fun m σ' H' => ∃ F' τ', Rel X.K p g F' σ' H' τ' ∧ W m τ', ⟨m0, F, τ, rel, w0⟩, ?_⟩
  rintro m σ' H' ⟨F', τ', rel', w'⟩
  refine c2 g F' σ' H' τ' _ _ rel' (turn m τ' w') fun t H1 e1 h1 => ?_
  cases t with
  | false =>
    rw [if_neg Bool.false_ne_true] at h1 ⊢
    exact ag.nx _ _ _ _ (rel'.st e1) h1
  | true =>
    rw [if_pos rfl] at h1 ⊢
    refine ⟨fun σ2 H2 => ∃ F2 τ2, Rel X.K p g F2 σ2 H2 τ2 ∧ ∃ m', m' < m ∧ W m' τ2, fun σ2 H2 ⟨F2, τ2, q2, m', q3, q4⟩ => ⟨m', q3, F2, τ2, q2, q4⟩, ?_⟩
    exact b2 g F' σ' H1 τ' _ _ (rel'.st e1) h1 ⟨fun F4 σ4 H4 τ4 rel4 h4 => ⟨F4, τ4, rel4, h4⟩, fun F4 σ4 H4 τ4 v x rel4 i4 h4 => ag.rt F4 σ4 H4 τ4 v x rel4 i4 h4, fun F4 σ4 H4 τ4 rel4 h4 => ag.nx F4 σ4 H4 τ4 rel4 h4, fun F4 σ4 H4 τ4 rel4 h4 => ⟨F4, τ4, rel4, h4⟩, fun _ _ _ _ _ _ _ _ _ _ _ _ z => z.elim⟩
end
end DL
namespace DL
open PySem PySem.Spec L2
def gII (g : Int → Int → D) : D → D → (D → Prop) → Prop := fun x y R => match x, y with
  | .int i, .int j => R (g i j)
  | _, _ => False
def gIIc (C : Int → Int → Prop) (g : Int → Int → D) : D → D → (D → Prop) → Prop := fun x y R => match x, y with
  | .int i, .int j => C i j ∧ R (g i j)
  | _, _ => False
section
variable {X : Cx} {p : Qt}
theorem opd_I0 {f : Value → Value → Sem Value} {gv : Int → Int → V} {g : Int → Int → D} (h : OpR X f (rI0 gv)) (hg : ∀ i j F H, Is X.K p F H (gv i j) (g i j)) : OpD X p f (gII g) := by
  refine ⟨_, h, fun F H x y v u Q R pk ix iy hh q => ?_⟩
  cases ix with
  | int i =>
    cases iy with
    | int j => exact ⟨i, j, rfl, rfl, q _ _ H (.refl pk.pk) (hg i j F H) hh⟩
    | _ => exact hh.elim
  | _ => exact hh.elim
theorem opd_I {f : Value → Value → Sem Value} {C C' : Int → Int → Prop} {gv : Int → Int → V} {g : Int → Int → D} (h : OpR X f (rI C gv)) (hc : ∀ i j, C' i j → C i j) (hg : ∀ i j F H, C' i j → Is X.K p F H (gv i j) (g i j)) : OpD X p f (gIIc C' g) := by
  refine ⟨_, h, fun F H x y v u Q R pk ix iy hh q => ?_⟩
  cases ix with
  | int i =>
    cases iy with
    | int j => exact ⟨i, j, rfl, rfl, hc i j hh.1, q _ _ H (.refl pk.pk) (hg i j F H hh.1) hh.2⟩
    | _ => exact hh.elim
  | _ => exact hh.elim
def gAdd : D → D → (D → Prop) → Prop := fun x y R => match x, y with
  | .int i, .int j => R (.int (i + j))
  | .tup l, .tup m => l.length + m.length ≤ 1000000 ∧ R (.tup (l ++ m))
  | _, _ => False
theorem opd_add : OpD X p (binaryOp .Add) gAdd := by
  refine ⟨_, op_add.or op_catA, fun F H x y v u Q R pk ix iy hh q => ?_⟩
  cases ix with
  | int i =>
    cases iy with
    | int j => exact .inl ⟨i, j, rfl, rfl, q _ _ H (.refl pk.pk) (.int _) hh⟩
    | _ => exact hh.elim
  | @tup a vs l hs hn hl =>
    cases iy with
    | @tup b ws m hs' hn' hl' =>
      have h1 := hl.len
      have h2 := hl'.len
      refine .inr ⟨a, b, vs, ws, rfl, rfl, hs, hs', ?_, fun e => ?_, fun _ e => ?_, fun _ _ c hc => ?_⟩
      · have : sizeLine = 16777216 := sizeLine_eq
        have := hh.1
        omega
      · subst e
        cases hl
        exact q _ _ H (.refl pk.pk) (.tup hs' hn' hl') hh.2
      · subst e
        cases hl'
        exact q _ _ H (.refl pk.pk) (.tup hs hn hl) (by simpa using hh.2)
      · have e := Ex.new (o := .tup (vs ++ ws)) pk.pk hc
        exact q _ _ _ e (.tup (SqT.of upd_same) (pk.ne hc) ((hl.mono e.kp).app (hl'.mono e.kp))) hh.2
    | _ => exact hh.elim
  | _ => exact hh.elim
abbrev gSub := gII fun i j => .int (i - j)
theorem opd_sub : OpD X p (binaryOp .Sub) gSub := opd_I0 op_sub fun _ _ _ _ => .int _
structure MulC (i j : Int) : Prop where
  ok : IntMulOk i j
theorem MulC.left {i j : Int} (h0 : -18446744073709551616 < i) (h1 : i < 18446744073709551616) : MulC i j := ⟨CMul.ok (.inl ⟨h0, h1⟩)⟩
theorem MulC.right {i j : Int} (h0 : -18446744073709551616 < j) (h1 : j < 18446744073709551616) : MulC i j := ⟨CMul.ok (.inr ⟨h0, h1⟩)⟩
theorem MulC.wide {i j : Int} (h0 : -1606938044258990275541962092341162602522202993782792835301376 < i) (h1 : i < 1606938044258990275541962092341162602522202993782792835301376) (h2 : -1606938044258990275541962092341162602522202993782792835301376 < j) (h3 : j < 1606938044258990275541962092341162602522202993782792835301376) : MulC i j := by
  have e : (2 : Nat) ^ 200 = 1606938044258990275541962092341162602522202993782792835301376 := by decide +kernel
  exact ⟨CMulW.ok (wide_mul (a := 200) (b := 200) (by rw [e]; omega) (by rw [e]; omega) (by decide) (by decide) (by decide))⟩
abbrev gMul := gIIc MulC fun i j => .int (i * j)
theorem opd_mul : OpD X p (binaryOp .Mult) gMul :=
  opd_I (C := MulC) (X := X) (gv := fun i j => .int (i * j)) (opI fun _ _ _ _ _ _ _ hc q => PyProof.Rows.mul_int q hc.ok) (fun _ _ h => h) fun _ _ _ _ _ => .int _
structure BD (j : Int) : Prop where
  pos : 0 < j
  few : j.natAbs.log2 < 8990
theorem BD.of {j : Int} (h0 : 0 < j) (h1 : j < 1606938044258990275541962092341162602522202993782792835301376) : BD j := by
  have e : (1606938044258990275541962092341162602522202993782792835301376 : Nat) ≤ 2 ^ 512 := by decide +kernel
  have l : j.natAbs.log2 < 512 := PySem.Flt.log2_lt_of (by decide) (Nat.lt_of_lt_of_le (by omega) e)
  exact ⟨h0, by omega⟩
abbrev gDiv := gIIc (fun _ j => BD j) fun i j => .int (i / j)
theorem opd_div : OpD X p (binaryOp .FloorDiv) gDiv :=
  opd_I op_fdivW (fun i j h => ⟨h.1, by have h2 := h.2; omega⟩) fun _ _ _ _ _ => .int _
abbrev gMod := gIIc (fun _ j => 0 < j) fun i j => .int (i % j)
theorem opd_mod : OpD X p (binaryOp .Mod) gMod := opd_I op_mod (fun _ _ h => h) fun _ _ _ _ _ => .int _
abbrev gPow := gIIc (fun i j => 0 ≤ j ∧ j ≤ 1000000 ∧ -(2 ^ 64) < i ∧ i < 2 ^ 64) fun i j => .int (i ^ j.toNat)
theorem opd_pow : OpD X p (binaryOp .Pow) gPow := opd_I op_pow (fun i j h => ⟨h.1, h.2.1, by have h1 := h.2.2.1; have h2 := h.2.2.2; omega⟩) fun _ _ _ _ _ => .int _
theorem opd_lt : OpD X p (compareOp .Lt) (gII fun i j => .bl (decide (i < j))) := opd_I0 op_lt fun _ _ _ _ => .bl _
theorem opd_le : OpD X p (compareOp .LtE) (gII fun i j => .bl (decide (i ≤ j))) := opd_I0 op_le fun _ _ _ _ => .bl _
theorem opd_gt : OpD X p (compareOp .Gt) (gII fun i j => .bl (decide (j < i))) := opd_I0 op_gt fun _ _ _ _ => .bl _
theorem opd_ge : OpD X p (compareOp .GtE) (gII fun i j => .bl (decide (j ≤ i))) := opd_I0 op_ge fun _ _ _ _ => .bl _
mutual
def toP : D → PyData
  | .non => .none
  | .bl b => .bool b
  | .int i => .int i
  | .str x => .str x
  | .ty _ => .none
  | .fn _ => .none
  | .pot => .none
  | .own _ => .none
  | .tup l => .tuple (toPs l)
  | .lst l => .list (toPs l)
def toPs : List D → List PyData
  | [] => []
  | d :: l => toP d :: toPs l
end
mutual
def pure? : D → Bool
  | .ty _ => false
  | .fn _ => false
  | .pot => false
  | .own _ => false
  | .tup l => pures? l
  | .lst l => pures? l
  | _ => true
def pures? : List D → Bool
  | [] => true
  | d :: l => pure? d && pures? l
end
theorem Is.dp {K : PySem.W.Frag} {p : Qt} {F : List Addr} {H : Hp} {v : V} {d : D} (h : Is K p F H v d) : pure? d = true → Dp K H v (toP d) :=
  Is.rec (motive_1 := fun v d _ => pure? d = true → Dp K H v (toP d)) (motive_2 := fun vs l _ => pures? l = true → DpAll K H vs (toPs l))
    (fun _ => .non) (fun b _ => .bl b) (fun i _ => .int i) (fun x _ => .str x) (fun _ z => nomatch z) (fun _ z => nomatch z)
    (fun h _ _ ih z => .tup h (ih z)) (fun h _ _ ih z => .lst (Rdl.sq h) (ih z)) (fun z => nomatch z) (fun _ => .nil)
    (fun _ _ i1 i2 z => by
      have z' := Bool.and_eq_true_iff.mp z
      exact .cons (i1 z'.1) (i2 z'.2)) h
-- no text, type or pot in it; at most so deep
mutual
def shp : Nat → D → Bool
  | _, .non => true
  | _, .bl _ => true
  | _, .int _ => true
  | _, .str x => PyData.strOk x
  | n + 1, .tup l => shps n l
  | n + 1, .lst l => shps n l
  | _, _ => false
def shps : Nat → List D → Bool
  | _, [] => true
  | n, d :: l => shp n d && shps n l
end
theorem shp_all : ∀ (n : Nat), (∀ d : D, shp n d = true → pure? d = true ∧ (toP d).canLay0 = true ∧ (toP d).depth ≤ n ∧ (toP d).hasDict = false) ∧
    ∀ l : List D, shps n l = true → pures? l = true ∧ PyData.canLayAll0 (toPs l) = true ∧ PyData.depthAll (toPs l) ≤ n ∧ PyData.hasDictAll (toPs l) = false := by
  have lists : ∀ n, (∀ d : D, shp n d = true → pure? d = true ∧ (toP d).canLay0 = true ∧ (toP d).depth ≤ n ∧ (toP d).hasDict = false) →
      ∀ l : List D, shps n l = true → pures? l = true ∧ PyData.canLayAll0 (toPs l) = true ∧ PyData.depthAll (toPs l) ≤ n ∧ PyData.hasDictAll (toPs l) = false := by
    intro n h l
    induction l with
    | nil => intro _; exact ⟨by simp [pures?], by simp [toPs, PyData.canLayAll0], by simp [toPs, PyData.depthAll], by simp [toPs, PyData.hasDictAll]⟩
    | cons d l ih =>
      intro hl
      rw [shps, Bool.and_eq_true] at hl
      obtain ⟨a1, a2, a3, a4⟩ := h d hl.1
      obtain ⟨b1, b2, b3, b4⟩ := ih hl.2
      refine ⟨by simp [pures?, a1, b1], by simp [toPs, PyData.canLayAll0, a2, b2], ?_, by simp [toPs, PyData.hasDictAll, a4, b4]⟩
      simp only [toPs, PyData.depthAll]
      omega
  intro n
  induction n with
  | zero =>
    have one : ∀ d : D, shp 0 d = true → pure? d = true ∧ (toP d).canLay0 = true ∧ (toP d).depth ≤ 0 ∧ (toP d).hasDict = false := by
      intro d hd
      cases d <;> simp [shp] at hd <;> simp [pure?, toP, PyData.canLay0, PyData.depth, PyData.hasDict, hd]
    exact ⟨one, lists 0 one⟩
  | succ n ih =>
    have one : ∀ d : D, shp (n + 1) d = true → pure? d = true ∧ (toP d).canLay0 = true ∧ (toP d).depth ≤ n + 1 ∧ (toP d).hasDict = false := by
      intro d hd
      cases d with
      | tup l =>
        obtain ⟨b1, b2, b3, b4⟩ := ih.2 l (by simpa [shp] using hd)
        exact ⟨by simp [pure?, b1], by simp [toP, PyData.canLay0, b2], by simp only [toP, PyData.depth]; omega, by simp [toP, PyData.hasDict, b4]⟩
      | lst l =>
        obtain ⟨b1, b2, b3, b4⟩ := ih.2 l (by simpa [shp] using hd)
        exact ⟨by simp [pure?, b1], by simp [toP, PyData.canLay0, b2], by simp only [toP, PyData.depth]; omega, by simp [toP, PyData.hasDict, b4]⟩
      | _ => simp [shp] at hd <;> simp [pure?, toP, PyData.canLay0, PyData.depth, PyData.hasDict, hd]
    exact ⟨one, lists (n + 1) one⟩
theorem shp_shaped {d : D} (h : shp 60 d = true) : pure? d = true ∧ SeqAt.shaped (toP d) = true := by
  obtain ⟨h1, h2, h3, _⟩ := (shp_all 60).1 d h
  exact ⟨h1, by unfold SeqAt.shaped; rw [h2, decide_eq_true (Nat.le_trans h3 (by decide))]; rfl⟩
def gEq : D → D → (D → Prop) → Prop := fun x y R => match x, y with
  | .int i, .int j => R (.bl (decide (i = j)))
  | .str i, .str j => R (.bl (decide (i = j)))
  | .bl i, .bl j => R (.bl (decide (i = j)))
  | x, y => (shp 60 x = true ∧ shp 60 y = true) ∧ R (.bl (PyData.eqv (toP x) (toP y)))
def gNe : D → D → (D → Prop) → Prop := fun x y R => match x, y with
  | .int i, .int j => R (.bl (!decide (i = j)))
  | .str i, .str j => R (.bl (!decide (i = j)))
  | .bl i, .bl j => R (.bl (!decide (i = j)))
  | x, y => (shp 60 x = true ∧ shp 60 y = true) ∧ R (.bl (!PyData.eqv (toP x) (toP y)))
theorem opd_eq (hu : X.A.units + 64 < cLine) : OpD X p (compareOp .Eq) gEq := by
  refine ⟨_, op_eq.or (op_eqD hu), fun F H x y v u Q R pk ix iy hh q => ?_⟩
  unfold gEq at hh
  split at hh
  · cases ix
    cases iy
    exact .inl ⟨rfl, by simpa using q _ _ H (.refl pk.pk) (.bl _) hh⟩
  · cases ix
    cases iy
    exact .inl ⟨rfl, by simpa using q _ _ H (.refl pk.pk) (.bl _) hh⟩
  · cases ix
    cases iy
    exact .inl ⟨rfl, by simpa using q _ _ H (.refl pk.pk) (.bl _) hh⟩
  · obtain ⟨⟨h1, h2⟩, h5⟩ := hh
    exact .inr ⟨_, _, ix.dp (shp_shaped h1).1, iy.dp (shp_shaped h2).1, (shp_shaped h1).2, (shp_shaped h2).2, q _ _ H (.refl pk.pk) (.bl _) h5⟩
theorem opd_ne (hu : X.A.units + 64 < cLine) : OpD X p (compareOp .NotEq) gNe := by
  refine ⟨_, op_ne.or (op_neD hu), fun F H x y v u Q R pk ix iy hh q => ?_⟩
  unfold gNe at hh
  split at hh
  · cases ix
    cases iy
    exact .inl ⟨rfl, by simpa using q _ _ H (.refl pk.pk) (.bl _) hh⟩
  · cases ix
    cases iy
    exact .inl ⟨rfl, by simpa using q _ _ H (.refl pk.pk) (.bl _) hh⟩
  · cases ix
    cases iy
    exact .inl ⟨rfl, by simpa using q _ _ H (.refl pk.pk) (.bl _) hh⟩
  · obtain ⟨⟨h1, h2⟩, h5⟩ := hh
    exact .inr ⟨_, _, ix.dp (shp_shaped h1).1, iy.dp (shp_shaped h2).1, (shp_shaped h1).2, (shp_shaped h2).2, q _ _ H (.refl pk.pk) (.bl _) h5⟩
def isNon : D → Bool
  | .non => true
  | _ => false
def gNeg : D → (D → Prop) → Prop := fun x R => match x with
  | .int i => R (.int (-i))
  | _ => False
theorem und_neg : UnD X p (unaryOp .USub) gNeg := by
  refine ⟨_, un_neg, fun F H x v Q R pk ix hh q => ?_⟩
  cases ix with
  | int i => exact ⟨i, rfl, q _ _ H (.refl pk.pk) (.int _) hh⟩
  | _ => exact hh.elim
def atD (l : List D) (i : Int) : Option D := if 0 ≤ i then l[i.toNat]? else if -(l.length : Int) ≤ i then l[(i + (l.length : Int)).toNat]? else none
theorem atD_at {l : List D} {i : Int} {d : D} (h : atD l i = some d) : L2.atI l i = some d := by
  unfold atD at h
  unfold L2.atI ixN
  by_cases h0 : 0 ≤ i
  · rw [if_pos h0] at h ⊢
    have hl : i.toNat < l.length := (List.getElem?_eq_some_iff.mp h).1
    rw [if_pos (show i < (l.length : Int) by omega)]
    exact h
  · rw [if_neg h0] at h ⊢
    by_cases h1 : -(l.length : Int) ≤ i
    · rw [if_pos h1] at h ⊢
      exact h
    · rw [if_neg h1] at h
      cases h
def gIx : D → D → (D → Prop) → Prop := fun x y R => match x, y with
  | .tup l, .int i => match atD l i with
    | some d => R d
    | none => False
  | .lst l, .int i => match atD l i with
    | some d => R d
    | none => False
  | .pot, .int i => if i = 0 then ∀ a, 0 ≤ a → R (.int a) else i = 1 ∧ ∀ a, 0 ≤ a → a < 4294967296 → R (.int a)
  | _, _ => False
theorem IsL.atI {K : PySem.W.Frag} {F : List Addr} {H : Hp} {vs : List V} {l : List D} {i : Int} {d : D} (h : IsL K p F H vs l) (e : L2.atI l i = some d) : ∃ v, L2.atI vs i = some v ∧ Is K p F H v d := by
  unfold L2.atI at e ⊢
  rw [h.len]
  cases q : ixN l.length i with
  | none => rw [q] at e; cases e
  | some j =>
    rw [q] at e
    exact h.getD e
theorem pd_ix {a b : Expr} {da db : DE} {pos : Pos} (ha : PD X p a da) (hb : PD X p b db) (hs : PlainIx b := by exact fun _ _ => rfl) : PD X p (.Subscript a b pos) (dOp gIx da db) := by
  obtain ⟨ta, a1, a2⟩ := ha.run
  obtain ⟨tb, b1, b2⟩ := hb.run
  refine ⟨_, pe_ix ix_seq a1 b1 hs, op_run (fun F H x y v u Q R pk ix iy hh q => ?_) a2 b2⟩
  unfold gIx at hh
  split at hh
  · cases iy
    cases ix with
    | tup hs hn hl =>
      split at hh
      · rename_i d e
        obtain ⟨w, e1, e2⟩ := hl.atI (atD_at e)
        exact .inr (.inl ⟨_, _, _, w, rfl, rfl, hs, e1, q _ _ H (.refl pk.pk) e2 hh⟩)
      · exact hh.elim
  · cases iy
    cases ix with
    | lst hs hn hl =>
      split at hh
      · rename_i d e
        obtain ⟨w, e1, e2⟩ := hl.atI (atD_at e)
        exact .inl ⟨_, _, _, w, rfl, rfl, (Rdl.sq hs), e1, q _ _ H (.refl pk.pk) e2 hh⟩
      · exact hh.elim
  · cases iy
    cases ix
    obtain ⟨m, n, p0, p1, p2, hp⟩ := pk.pk.at_
    split at hh
    · rename_i e0
      subst e0
      exact .inl ⟨p.pot, _, 0, .int m, rfl, rfl, SqL.of hp, rfl, q _ _ H (.refl pk.pk) (.int m) (hh m p0)⟩
    · obtain ⟨rfl, hh⟩ := hh
      exact .inl ⟨p.pot, _, 1, .int n, rfl, rfl, SqL.of hp, rfl, q _ _ H (.refl pk.pk) (.int n) (hh n p1 p2)⟩
  · exact hh.elim
def cLen : List D → (D → Prop) → Prop := fun xs R => match xs with
  | [.tup l] => R (.int l.length)
  | [.lst l] => R (.int l.length)
  | _ => False
theorem cd_len : CallD X p (.builtin "len") cLen := by
  refine ⟨_, call_len_seq, fun F H xs vs Q R pk ix hh q => ?_⟩
  unfold cLen at hh
  split at hh
  · cases ix with
    | cons i1 i2 =>
      cases i2
      cases i1 with
      | tup hs hn hl => exact ⟨_, _, rfl, .inr hs, by rw [hl.len]; exact q _ _ H (.refl pk.pk) (.int _) hh⟩
  · cases ix with
    | cons i1 i2 =>
      cases i2
      cases i1 with
      | lst hs hn hl => exact ⟨_, _, rfl, .inl (Rdl.sq hs), by rw [hl.len]; exact q _ _ H (.refl pk.pk) (.int _) hh⟩
  · exact hh.elim
def cI1 (g : Int → D) : List D → (D → Prop) → Prop := fun xs R => match xs with
  | [.int i] => R (g i)
  | _ => False
def cI2 (C : Int → Int → Prop) (g : Int → Int → D) : List D → (D → Prop) → Prop := fun xs R => match xs with
  | [.int i, .int j] => C i j ∧ R (g i j)
  | _ => False
theorem cI1_of {f : Value} {r : List V → Hp → VK → Prop} {g : Int → D} (hr : CallR X f r) (h : ∀ i F H Q, PkF p F H → (∀ v' H', Ex p H H' → Is X.K p F H' v' (g i) → Q v' H') → r [.int i] H Q) : CallD X p f (cI1 g) := by
  refine ⟨_, hr, fun F H xs vs Q R pk ix hh q => ?_⟩
  unfold cI1 at hh
  split at hh
  · cases ix with
    | cons i1 i2 =>
      cases i2
      cases i1
      exact h _ F H Q pk fun v' H' e i => q _ v' H' e i hh
  · exact hh.elim
theorem cI2_of {f : Value} {r : List V → Hp → VK → Prop} {C : Int → Int → Prop} {g : Int → Int → D} (hr : CallR X f r) (h : ∀ i j F H Q, C i j → PkF p F H → (∀ v' H', Ex p H H' → Is X.K p F H' v' (g i j) → Q v' H') → r [.int i, .int j] H Q) : CallD X p f (cI2 C g) := by
  refine ⟨_, hr, fun F H xs vs Q R pk ix hh q => ?_⟩
  unfold cI2 at hh
  split at hh
  · cases ix with
    | cons i1 i2 =>
      cases i2 with
      | cons i2 i3 =>
        cases i3
        cases i1
        cases i2
        exact h _ _ F H Q hh.1 pk fun v' H' e i => q _ v' H' e i hh.2
  · exact hh.elim
theorem cd_abs : CallD X p (.builtin "abs") (cI1 fun i => .int (i.natAbs : Int)) := cI1_of call_abs fun i F H Q pk q => ⟨i, rfl, by
  have e : (if i < 0 then -i else i) = (i.natAbs : Int) := by split <;> omega
  rw [e]
  exact q _ H (.refl pk.pk) (.int _)⟩
def cInt : List D → (D → Prop) → Prop := fun xs R => match xs with
  | [.int i] => R (.int i)
  | [.bl b] => R (.int (if b = true then 1 else 0))
  | _ => False
theorem cd_int : CallD X p (.type "int") cInt := by
  refine ⟨_, call_int1, fun F H xs vs Q R pk ix hh q => ?_⟩
  unfold cInt at hh
  split at hh
  · cases ix with
    | cons i1 i2 =>
      cases i2
      cases i1
      exact .inl ⟨_, rfl, q _ _ H (.refl pk.pk) (.int _) hh⟩
  · cases ix with
    | cons i1 i2 =>
      cases i2
      cases i1
      exact .inr ⟨_, rfl, q _ _ H (.refl pk.pk) (.int _) hh⟩
  · exact hh.elim
theorem cd_divmod : CallD X p (.builtin "divmod") (cI2 (fun _ j => BD j) fun i j => .tup [.int (i / j), .int (i % j)]) := cI2_of call_divmodW fun i j F H Q hc pk q => by
  refine ⟨i, j, rfl, ⟨hc.1, ?_⟩, fun a ha => ?_⟩
  · have hj : j.natAbs.log2 < 8990 := hc.2
    show (decide ((if j == 0 then 0 else j.natAbs.log2 / 30 + 1) > 300) && _) = false
    rw [decide_eq_false (by split <;> omega), Bool.false_and]
  · have e := Ex.new (o := .tup [.int (i / j), .int (i % j)]) pk.pk ha
    exact q _ _ e (.tup (SqT.of upd_same) (pk.ne ha) (.cons (.int _) (.cons (.int _) .nil)))
def intsOf : List D → Option (List Int)
  | [] => some []
  | .int i :: l => (intsOf l).map (i :: ·)
  | _ => none
theorem intsOf_eq : ∀ {l : List D} {ns : List Int}, intsOf l = some ns → l = ns.map D.int
  | [], ns, h => by cases h; rfl
  | .int i :: l, ns, h => by
    unfold intsOf at h
    cases q : intsOf l with
    | none => rw [q] at h; cases h
    | some ms =>
      rw [q] at h
      cases h
      rw [intsOf_eq q]
      rfl
def boolsOf : List D → Option (List Bool)
  | [] => some []
  | .bl i :: l => (boolsOf l).map (i :: ·)
  | _ => none
def maxL : Int → List Int → Int
  | a, [] => a
  | a, b :: l => maxL (max a b) l
def minL : Int → List Int → Int
  | a, [] => a
  | a, b :: l => minL (min a b) l
theorem maxL_ge : ∀ (l : List Int) (a : Int), a ≤ maxL a l ∧ ∀ y ∈ l, y ≤ maxL a l
  | [], a => ⟨Int.le_refl _, fun y h => by cases h⟩
  | b :: l, a => by
    obtain ⟨h1, h2⟩ := maxL_ge l (max a b)
    refine ⟨by show a ≤ maxL (max a b) l; omega, fun y hy => ?_⟩
    rcases List.mem_cons.mp hy with e | e
    · subst e
      show y ≤ maxL (max a y) l
      omega
    · exact h2 y e
theorem maxL_mem : ∀ (l : List Int) (a : Int), maxL a l = a ∨ maxL a l ∈ l
  | [], a => .inl rfl
  | b :: l, a => by
    show maxL (max a b) l = a ∨ maxL (max a b) l ∈ b :: l
    rcases maxL_mem l (max a b) with e | e
    · rw [e]
      by_cases h : a ≤ b
      · exact .inr (by rw [Int.max_eq_right h]; exact List.mem_cons_self)
      · exact .inl (Int.max_eq_left (by omega))
    · exact .inr (List.mem_cons_of_mem _ e)
theorem minL_le : ∀ (l : List Int) (a : Int), minL a l ≤ a ∧ ∀ y ∈ l, minL a l ≤ y
  | [], a => ⟨Int.le_refl _, fun y h => by cases h⟩
  | b :: l, a => by
    obtain ⟨h1, h2⟩ := minL_le l (min a b)
    refine ⟨by show minL (min a b) l ≤ a; omega, fun y hy => ?_⟩
    rcases List.mem_cons.mp hy with e | e
    · subst e
      show minL (min a y) l ≤ y
      omega
    · exact h2 y e
theorem minL_mem : ∀ (l : List Int) (a : Int), minL a l = a ∨ minL a l ∈ l
  | [], a => .inl rfl
  | b :: l, a => by
    show minL (min a b) l = a ∨ minL (min a b) l ∈ b :: l
    rcases minL_mem l (min a b) with e | e
    · rw [e]
      by_cases h : a ≤ b
      · exact .inl (Int.min_eq_left h)
      · exact .inr (by rw [Int.min_eq_right (by omega)]; exact List.mem_cons_self)
    · exact .inr (List.mem_cons_of_mem _ e)
def cMax : List D → (D → Prop) → Prop := fun xs R => match xs with
  | [.int i, .int j] => R (.int (max i j))
  | [.lst l] => match intsOf l with
    | some (n :: ns) => R (.int (maxL n ns))
    | _ => False
  | _ => False
def cMin : List D → (D → Prop) → Prop := fun xs R => match xs with
  | [.int i, .int j] => R (.int (min i j))
  | [.lst l] => match intsOf l with
    | some (n :: ns) => R (.int (minL n ns))
    | _ => False
  | _ => False
theorem cd_max (hc : X.calm = true) : CallD X p (.builtin "max") cMax := by
  refine ⟨_, (call_max2 hc).or (cr_max hc), fun F H xs vs Q R pk ix hh q => ?_⟩
  unfold cMax at hh
  split at hh
  · rename_i i j
    cases ix with
    | cons i1 i2 =>
      cases i2 with
      | cons i2 i3 =>
        cases i3
        cases i1
        cases i2
        have e : (if j > i then j else i) = max i j := by split <;> omega
        exact .inl ⟨i, j, rfl, by rw [e]; exact q _ _ H (.refl pk.pk) (.int _) hh⟩
  · split at hh
    · rename_i l n ns e
      cases ix with
      | cons i1 i2 =>
        cases i2
        cases i1 with
        | lst hs hn hl =>
          rw [intsOf_eq e] at hl
          rw [hl.ints] at hs
          refine .inr ⟨_, n :: ns, rfl, (Rdl.sq hs), by simp, fun m hm hall => ?_⟩
          have em : m = maxL n ns := by
            have h1 : m ≤ maxL n ns := by
              rcases List.mem_cons.mp hm with e | e
              · rw [e]; exact (maxL_ge ns n).1
              · exact (maxL_ge ns n).2 m e
            have h2 : maxL n ns ≤ m := hall _ (by
              rcases maxL_mem ns n with e | e
              · rw [e]; exact List.mem_cons_self
              · exact List.mem_cons_of_mem _ e)
            omega
          subst em
          exact q _ _ H (.refl pk.pk) (.int _) hh
    · exact hh.elim
  · exact hh.elim
theorem cd_min (hc : X.calm = true) : CallD X p (.builtin "min") cMin := by
  refine ⟨_, (call_min2 hc).or (cr_min hc), fun F H xs vs Q R pk ix hh q => ?_⟩
  unfold cMin at hh
  split at hh
  · rename_i i j
    cases ix with
    | cons i1 i2 =>
      cases i2 with
      | cons i2 i3 =>
        cases i3
        cases i1
        cases i2
        have e : (if j < i then j else i) = min i j := by split <;> omega
        exact .inl ⟨i, j, rfl, by rw [e]; exact q _ _ H (.refl pk.pk) (.int _) hh⟩
  · split at hh
    · rename_i l n ns e
      cases ix with
      | cons i1 i2 =>
        cases i2
        cases i1 with
        | lst hs hn hl =>
          rw [intsOf_eq e] at hl
          rw [hl.ints] at hs
          refine .inr ⟨_, n :: ns, rfl, (Rdl.sq hs), by simp, fun m hm hall => ?_⟩
          have em : m = minL n ns := by
            have h1 : minL n ns ≤ m := by
              rcases List.mem_cons.mp hm with e | e
              · rw [e]; exact (minL_le ns n).1
              · exact (minL_le ns n).2 m e
            have h2 : m ≤ minL n ns := hall _ (by
              rcases minL_mem ns n with e | e
              · rw [e]; exact List.mem_cons_self
              · exact List.mem_cons_of_mem _ e)
            omega
          subst em
          exact q _ _ H (.refl pk.pk) (.int _) hh
    · exact hh.elim
  · exact hh.elim
def cAll : List D → (D → Prop) → Prop := fun xs R => match xs with
  | [.lst l] => match boolsOf l with
    | some bs => R (.bl (bs.all id))
    | _ => False
  | _ => False
def cAny : List D → (D → Prop) → Prop := fun xs R => match xs with
  | [.lst l] => match boolsOf l with
    | some bs => R (.bl (bs.any id))
    | _ => False
  | _ => False
end
end DL
namespace DL
open PySem PySem.Spec L2
open PyProof.Rows hiding St
structure FnG (P : Program) (w : World) (K : PySem.W.Frag) (mg : Str → Option Value) (base : Heap) (CX : CXT) (k : Nat) (f : Addr) (fd : FuncData) (ps : List Str) (sp : Sp) : Prop where
  len : ∀ vs H Q E, sp vs H Q E → vs.length = ps.length
  go : ∀ (A : Around) (outer : List Env) (s : Shared) (H : Hp) (args : Args) (us : List Value) (vs : List V) (Q : VK) (E : XK), A.guards = some [] → Room k A → Env0 P w K mg base A outer s H →
    BindsTo s fd args (ps.zip us) → Vals vs us → sp vs H Q E → codeAny (model P w) A (.call (.ref f) args) (CR CX outer P w H s Q E) s
section
variable {P : Program} {w : World} {K : PySem.W.Frag} {mg : Str → Option Value} {base : Heap} {CX : CXT} {k : Nat} {f : Addr} {fd : FuncData} {ps : List Str} {sp : Sp}
theorem FnG.weak {j : Nat} (F : FnG P w K mg base CX k f fd ps sp) (h : k ≤ j) : FnG P w K mg base CX j f fd ps sp :=
  ⟨F.len, fun A outer s H args us vs Q E g r => F.go A outer s H args us vs Q E g (r.mono h)⟩
theorem funG {x qual : Str} {st : Stmt} {N : List Str} (F : Fun K x qual st f fd) (S : FnScope N ps (defScope st)) (hlen : ∀ vs H Q E, sp vs H Q E → vs.length = ps.length)
    (body : ∀ (cdv : Value) (A : Around) (outer : List Env) (s : Shared) (H : Hp) (vs : List V) (Q : VK) (E : XK), fd.code = cdv → A.guards = some [] → (∀ a o, K.lookup a = some o → H a = none) → Room k (A.deeper (envOfC qual (defScope st) s.heap.objs.size f cdv)) → sp vs H Q E →
      ∃ t, PSs (cxOf CX P w K mg base N qual (defScope st) f cdv A outer s H E) (defBody st) t ∧ t { nx := fun _ H' => Q .non H', rt := Q } (L2.start N vs) H) : FnG P w K mg base CX (k + 1) f fd ps sp := by
  obtain ⟨oc, od, kV, doc, pm, an, cdv, ct, osl, rfl, lk, hcd⟩ := F.ex
  refine ⟨hlen, fun A outer s H args us vs Q E hg room ev bnd rel prom => ?_⟩
  have inK : K.In s.heap := ev.mod.kin.keeps fun b o q => And.left (ev.bs b o q)
  have lims : s.heap.NoLimit := ev.mod.nolimit.keeps fun b o q => And.left (ev.bs b o q)
  have kinds : ∀ y ∈ ps.zip us, (defScope st).names.lookup y.1 = some .local ∨ ((defScope st).names.lookup y.1 = some .cell ∧ ((cellsFrom (s.heap.objs.size + 1) (defScope st).names []).lookup y.1).isSome = true) := by
    rintro ⟨n, v⟩ hy
    exact (S.par n (And.left (List.of_mem_zip hy))).elim .inl fun q => .inr ⟨q, PySem.W.cellsFrom_some _ _ _ (Or.inl q)⟩
  refine codeAny_call_function room.depth (inK f _ lk) rfl S.co S.gen rfl (PySem.W.codeRec_of inK hcd) (bnd _ _ _ _ (wpAny_newFunctionEnv_cells S.kind kinds ?_))
  intro env0 hE s1 ent
  subst hE
  refine ⟨lims.keeps ent.toInCall.keep, codeAny_func ?_⟩
  obtain ⟨t, ht, q⟩ := body cdv A outer s H vs Q E rfl hg (fun a o lo => (ev.bs a o (ev.mod.kin a o lo)).2) (room.deeper _) prom
  have J := inv_start (CX := CX) (N := N) (E := E) S room.hd ev (hlen _ _ _ _ prom) rel ent
  refine wpAny_mono (ht.run [] s1 (L2.start N vs) H _ J q) ?_ fun _ _ z => z
  rintro (_ | u | _ | _) s' ho
  · obtain ⟨σ', H', J', q'⟩ := ho
    exact ⟨V.non, H', J'.os, J'.bare, J'.base, J'.hok, rfl, q'⟩
  · first
      | (obtain ⟨_, _, _, z⟩ := ho; exact (show False from z).elim)
      | (obtain ⟨v, σ', H', J', rv, q'⟩ := ho; exact ⟨v, H', J'.os, J'.bare, J'.base, J'.hok, rv, q'⟩)
  · first
      | (obtain ⟨_, _, _, z⟩ := ho; exact (show False from z).elim)
      | (obtain ⟨v, σ', H', J', rv, q'⟩ := ho; exact ⟨v, H', J'.os, J'.bare, J'.base, J'.hok, rv, q'⟩)
  · first
      | (obtain ⟨_, _, _, z⟩ := ho; exact (show False from z).elim)
      | (obtain ⟨v, σ', H', J', rv, q'⟩ := ho; exact ⟨v, H', J'.os, J'.bare, J'.base, J'.hok, rv, q'⟩)
end
def BindK (K : PySem.W.Frag) (fd : FuncData) (ps ks : List Str) (n : Nat) (perm : List Nat) : Prop :=
  ∀ (s : Shared) (us ws : List Value), K.In s.heap → us.length = n → ws.length = ks.length → ∃ zs : List Value, BindsTo s fd ⟨us, ks.zip ws⟩ (ps.zip zs) ∧ zs.length = ps.length ∧ perm.length = ps.length ∧ ∀ (i j : Nat), perm[i]? = some j → zs[i]? = (us ++ ws)[j]? ∧ j < (us ++ ws).length
section
variable {X : Cx} {CX : CXT} {k n : Nat} {f : Addr} {fd : FuncData} {ps ks : List Str} {sp : Sp} {E : XK} {x : Str} {q pos : Pos} {e : Expr} {es : List Expr} {kws : List Keyword} {t tk : TA}
theorem goG {pins : List (Addr × Obj)} {σ : L2.St} {H : Hp} {s : Shared} {Q : VK} {args : Args} {us : List Value} {vs : List V} (F : FnG X.prog X.w X.K X.mg X.base CX k f fd ps sp) (hg : X.A.guards = some []) (hr : Room k X.A) (hx : Passes CX X E)
    (I : Inv X pins σ H s) (hb : BindsTo s fd args (ps.zip us)) (r : Vals vs us) (h : sp vs H Q E) : wpAny (model X.prog X.w) X.A (call (.ref f) args.pos args.kw) (EP X pins σ Q) X.xe s := by
  refine wpAny_call (codeAny_mono (F.go X.A X.stack s H args us vs Q E hg hr I.env0 hb r h) ?_)
  intro res s' out
  match res, out with
  | .error v, o => exact hx pins σ H s v s' I o
  | .ok (.ret u), o => exact I.after o
  | .ok .next, o => exact False.elim o
  | .ok .brk, o => exact False.elim o
  | .ok .cont, o => exact False.elim o
theorem pe_callG (F : FnG X.prog X.w X.K X.mg X.base CX k f fd ps sp) (hgu : X.A.guards = some []) (hr : Room k X.A) (hx : Passes CX X E) (hg : Gl X x) (hm : X.mg x = some (.ref f)) (hk : PySem.W.keepIn X.K (.ref f) = true) (hb : Binds X.K fd ps [])
    (ha : PA X (e :: es) t) (hdb : (x == ("__debug__" : Str)) = false := by decide) (he : starEach (e :: es) X.env = (false, eval e X.env) :: starEach es X.env := by rfl) (hpl : (backTo pos (starEach es X.env)).any (·.1) = false := by rfl) :
    PE X (.Call (.Name x q) (e :: es) [] pos) (fun σ H Q => t σ H fun vs H1 => sp vs H1 Q E) := by
  refine ⟨fun pins s σ H Q I h => wpAny_Call_Name_kw (ld_glob I hg hm ?_ hdb)⟩
  refine PySem.W.callWith_K (h₀ := X.base) I.ok.mod.kin hk (thn (ha.run pos pins s σ H _ I h) ?_) he hpl
  rintro us s1 ⟨vs, H1, I1, r, z⟩
  have hl : (us ++ []).length = ps.length := by rw [List.append_nil, ← r.length]; exact F.len _ _ _ _ z
  have b := hb s1 us I1.kIn hl
  rw [List.append_nil] at b
  exact ⟨I1.kIn, goG (args := ⟨us, []⟩) F hgu hr hx I1 b r z⟩
theorem pe_callG0 (F : FnG X.prog X.w X.K X.mg X.base CX k f fd ps sp) (hgu : X.A.guards = some []) (hr : Room k X.A) (hx : Passes CX X E) (hg : Gl X x) (hm : X.mg x = some (.ref f)) (hk : PySem.W.keepIn X.K (.ref f) = true) (hb : Binds X.K fd ps [])
    (hdb : (x == ("__debug__" : Str)) = false := by decide) : PE X (.Call (.Name x q) [] [] pos) (fun _ H Q => sp [] H Q E) := by
  refine ⟨fun pins s σ H Q I z => wpAny_Call_Name_kw (ld_glob I hg hm ?_ hdb)⟩
  have hl : (([] : List Value) ++ []).length = ps.length := F.len _ _ _ _ z
  exact PySem.W.callWith_K0 I.kIn hk (goG (args := ⟨[], []⟩) F hgu hr hx I (hb s [] I.kIn hl) .nil z)
def ordV (perm : List Nat) (vs : List V) : List V := perm.map fun j => vs.getD j .non
theorem ordV_rel {perm : List Nat} {vs : List V} {us zs : List Value} (r : Vals vs us) (hl : perm.length = zs.length) (h : ∀ (i j : Nat), perm[i]? = some j → zs[i]? = us[j]? ∧ j < us.length) : Vals (ordV perm vs) zs := by
  unfold ordV
  induction perm generalizing zs with
  | nil =>
    cases zs with
    | nil => exact .nil
    | cons _ _ => simp at hl
  | cons j perm ih =>
    cases zs with
    | nil => simp at hl
    | cons z zs =>
      refine .cons ?_ (ih (by simpa using hl) fun i j' e => by simpa using h (i + 1) j' (by simpa using e))
      obtain ⟨h1, h2⟩ := h 0 j rfl
      obtain ⟨u, hu⟩ : ∃ u, us[j]? = some u := ⟨us[j], by simp [h2]⟩
      have e1 : z = u := by
        rw [hu] at h1
        simpa using h1
      have h3 : j < vs.length := by rw [r.length]; exact h2
      obtain ⟨u', g1, g2⟩ := r.get (i := j) (x := vs[j]) (by simp [h3])
      rw [hu] at g1
      cases g1
      rw [e1]
      show RelV (vs.getD j .non) u
      rw [List.getD_eq_getElem?_getD, List.getElem?_eq_getElem h3]
      exact g2
theorem pe_callGK0 (F : FnG X.prog X.w X.K X.mg X.base CX k f fd ps sp) (hgu : X.A.guards = some []) (hr : Room k X.A) (hx : Passes CX X E) (hg : Gl X x) (hm : X.mg x = some (.ref f)) (hk : PySem.W.keepIn X.K (.ref f) = true) {perm : List Nat} (hb : BindK X.K fd ps ks 0 perm)
    (hkw : PK X kws tk) (hall : (backToKw pos (keywordEach kws X.env)).all (·.1.isSome) = true := by rfl) (hks : (backToKw pos (keywordEach kws X.env)).filterMap (·.1) = ks := by rfl)
    (hdb : (x == ("__debug__" : Str)) = false := by decide)
    (hpl : ((backTo pos (starEach [] X.env)).any (·.1) || (backToKw pos (keywordEach kws X.env)).any (·.1.isNone)) = false := by rfl) :
    PE X (.Call (.Name x q) [] kws pos) (fun σ H Q => tk σ H fun ws H2 => ws.length = ks.length ∧ sp (ordV perm ws) H2 Q E) := by
  refine ⟨fun pins s σ H Q I h => wpAny_Call_Name_kw (ld_glob I hg hm ?_ hdb)⟩
  refine PySem.W.callWith_KW0 (h₀ := X.base) I.ok.mod.kin hk hall (thn (hkw.run pos pins s σ H _ I h) ?_) hpl
  rintro ws s2 ⟨zs, H2, I2, r2, l2, z⟩
  rw [hks]
  obtain ⟨os, b1, b2, b3, b4⟩ := hb s2 [] ws I2.kIn rfl (by rw [← r2.length]; exact l2)
  exact ⟨I2.kIn, goG (args := ⟨[], ks.zip ws⟩) F hgu hr hx I2 b1 (ordV_rel r2 (by rw [b3, b2]) b4) z⟩
end
section
variable {X : Cx} {p : Qt} {pos q : Pos} {e : Expr} {es : List Expr} {kws : List Keyword} {ds dk : DA} {k n : Nat} {f : Addr} {fd : FuncData} {ps ks : List Str} {sp : SpD} {x : Str}
theorem pdc (F : FnG X.prog X.w X.K X.mg X.base CX0 k f fd ps (toSp X.K p.tf n sp)) (hgu : X.A.guards = some []) (hr : Room k X.A) (hm : X.mg x = some (.ref f)) (hk : PySem.W.keepIn X.K (.ref f) = true) (hb : Binds X.K fd ps [])
    (ha : PDA X p (e :: es) ds) (hg : Gl X x := by rfl) (hn : (e :: es).length = n := by rfl) (hdb : (x == ("__debug__" : Str)) = false := by decide) (he : starEach (e :: es) X.env = (false, eval e X.env) :: starEach es X.env := by rfl) (hpl : (backTo pos (starEach es X.env)).any (·.1) = false := by rfl) :
    PD X p (.Call (.Name x q) (e :: es) [] pos) (dB sp ds) := by
  obtain ⟨t, h1, h2⟩ := ha.run
  refine ⟨_, pe_callG F hgu hr pass0 hg hm hk hb h1 hdb he hpl, fun g0 F σ H τ Q R rel h q => ?_⟩
  refine h2 g0 F σ H τ _ _ rel h fun xs vs H1 e1 i1 l1 h1 => ?_
  exact ⟨by rw [l1]; exact hn, p.pot, F, xs, R, (rel.st e1).pkf, i1, h1, fun z v' H' e i r => q z v' H' (e1.trans e) i r⟩
theorem pdc0 (F : FnG X.prog X.w X.K X.mg X.base CX0 k f fd ps (toSp X.K p.tf 0 sp)) (hgu : X.A.guards = some []) (hr : Room k X.A) (hm : X.mg x = some (.ref f)) (hk : PySem.W.keepIn X.K (.ref f) = true) (hb : Binds X.K fd ps [])
    (hg : Gl X x := by rfl) (hdb : (x == ("__debug__" : Str)) = false := by decide) : PD X p (.Call (.Name x q) [] [] pos) (dB sp dNil) := by
  refine ⟨_, pe_callG0 F hgu hr pass0 hg hm hk hb hdb, fun g0 F σ H τ Q R rel h q => ?_⟩
  exact ⟨rfl, p.pot, F, [], R, rel.pkf, .nil, h, q⟩
structure PDK (X : Cx) (p : Qt) (kws : List Keyword) (d : DA) : Prop where
  run : ∃ t, PK X kws t ∧ ∀ (g0 : Gd) (F : List Addr) (σ : L2.St) (H : Hp) (τ : Sl) (Q : List V → Hp → Prop) (R : List D → Prop), Rel X.K p g0 F σ H τ → d τ R → (∀ xs vs H', Ex p H H' → IsL X.K p F H' vs xs → vs.length = kws.length → R xs → Q vs H') → t σ H Q
theorem pdk_nil : PDK X p [] dNil := ⟨_, pk_nil, fun g0 F σ H τ Q R rel h q => q [] [] H (.refl rel.pk) .nil rfl h⟩
theorem pdk_cons {nm : Option Str} {da : DE} {kpos : Pos} (ha : PD X p e da) (hr : PDK X p kws dk) : PDK X p (⟨nm, e, kpos⟩ :: kws) (dCons da dk) := by
  obtain ⟨t, h1, h2⟩ := ha.run
  obtain ⟨u, k1, k2⟩ := hr.run
  refine ⟨_, pk_cons h1 k1, fun g0 F σ H τ Q R rel h q => ?_⟩
  refine h2 g0 F σ H τ _ _ rel h fun xs vs H1 e1 i1 h1 => ?_
  exact k2 g0 F σ H1 τ _ _ (rel.st e1) h1 fun xs vs H2 e2 i2 l2 h2 => q _ _ H2 (e1.trans e2) (.cons (i1.mono e2.kp) i2) (by simp [l2]) h2
def ordD (perm : List Nat) (xs : List D) : List D := perm.map fun j => xs.getD j .non
theorem ord_is {K : PySem.W.Frag} {F : List Addr} {H : Hp} {vs : List V} {xs : List D} (h : IsL K p F H vs xs) : ∀ {perm : List Nat}, (∀ j ∈ perm, j < vs.length) → IsL K p F H (ordV perm vs) (ordD perm xs)
  | [], _ => .nil
  | j :: perm, a => by
    refine .cons ?_ (ord_is (perm := perm) h fun i hi => a i (List.mem_cons_of_mem _ hi))
    have hj := a j List.mem_cons_self
    have hj2 : j < xs.length := by rw [← h.len]; exact hj
    obtain ⟨d, e1, e2⟩ := h.get (i := j) (v := vs[j]) (by simp [hj])
    show Is K p F H (vs.getD j .non) (xs.getD j .non)
    rw [List.getD_eq_getElem?_getD, List.getElem?_eq_getElem hj, List.getD_eq_getElem?_getD, e1]
    exact e2
def dBK (sp : SpD) (perm : List Nat) (ds dk : DA) : DE := fun τ R => ds τ fun xs => dk τ fun ys => sp (ordD perm (xs ++ ys)) R
theorem pdcK0 {perm : List Nat} (F : FnG X.prog X.w X.K X.mg X.base CX0 k f fd ps (toSp X.K p.tf n sp)) (hgu : X.A.guards = some []) (hr : Room k X.A) (hm : X.mg x = some (.ref f)) (hk : PySem.W.keepIn X.K (.ref f) = true) (hb : BindK X.K fd ps ks 0 perm)
    (hkw : PDK X p kws dk) (hn : perm.length = n := by rfl) (hp : ∀ j ∈ perm, j < kws.length := by decide) (hlk : kws.length = ks.length := by rfl) (hg : Gl X x := by rfl) (hall : (backToKw pos (keywordEach kws X.env)).all (·.1.isSome) = true := by rfl) (hks : (backToKw pos (keywordEach kws X.env)).filterMap (·.1) = ks := by rfl)
    (hdb : (x == ("__debug__" : Str)) = false := by decide)
    (hpl : ((backTo pos (starEach [] X.env)).any (·.1) || (backToKw pos (keywordEach kws X.env)).any (·.1.isNone)) = false := by rfl) :
    PD X p (.Call (.Name x q) [] kws pos) (dBK sp perm dNil dk) := by
  obtain ⟨u, k1, k2⟩ := hkw.run
  refine ⟨_, pe_callGK0 F hgu hr pass0 hg hm hk hb k1 hall hks hdb hpl, fun g0 F σ H τ Q R rel h q => ?_⟩
  refine k2 g0 F σ H τ _ _ rel h fun ys ws H2 e2 i2 l2 h2 => ⟨by rw [l2, hlk], ?_⟩
  refine ⟨by unfold ordV; rw [List.length_map]; exact hn, p.pot, F, _, R, (rel.st e2).pkf, ord_is i2 (fun j hj => ?_), h2, fun z v' H' e i r => q z v' H' (e2.trans e) i r⟩
  have := hp j hj
  omega
end
def startD (N : List Str) (ds : List D) : Sl := ds.map some ++ List.replicate (N.length - ds.length) none
theorem start_get {K : PySem.W.Frag} {p : Qt} {F : List Addr} {H : Hp} {N : List Str} {vs : List V} {ds : List D} (h : IsL K p F H vs ds) {i : Nat} {d : D} (e : (startD N ds)[i]? = some (some d)) : ∃ v, (L2.start N vs)[i]? = some (some v) ∧ Is K p F H v d := by
  unfold startD at e
  have hi : i < ds.length := by
    by_cases hi : i < ds.length
    · exact hi
    · rw [List.getElem?_append_right (by simpa using hi), List.getElem?_replicate] at e
      split at e <;> cases e
  rw [List.getElem?_append_left (by simpa using hi), List.getElem?_map] at e
  cases q : ds[i]? with
  | none => rw [q] at e; cases e
  | some d' =>
    rw [q] at e
    cases e
    obtain ⟨v, e1, e2⟩ := h.getD q
    refine ⟨v, ?_, e2⟩
    unfold L2.start
    rw [List.getElem?_append_left (by rw [List.length_map, h.len]; exact hi), List.getElem?_map, e1]
    rfl
theorem start_rel {K : PySem.W.Frag} {p : Qt} {F : List Addr} {H : Hp} {N : List Str} {vs : List V} {ds : List D} (pk : PkF p F H) (h : IsL K p F H vs ds) : Rel K p ⟨F, [], H⟩ F (L2.start N vs) H (startD N ds) := by
  have no : ∀ (i : Nat) (l : List D), (startD N ds)[i]? = some (some (.own l)) → False := fun i l e => by
    obtain ⟨v, _, z⟩ := start_get h e
    cases z
  refine ⟨pk.pk, fun _ _ _ _ _ e => e, fun _ h => h, pk.al, fun _ h => .inl h, fun i d e _ => start_get h e, fun i l e => (no i l e).elim, fun i j l l' a e _ _ _ => (no i l e).elim, by unfold L2.start startD; rw [List.length_append, List.length_append, List.length_map, List.length_map, List.length_replicate, List.length_replicate, h.len]⟩
section
variable {P : Program} {w : World} {K : PySem.W.Frag} {mg : Str → Option Value} {base : Heap} {tabs : Tf} {k : Nat} {f : Addr} {fd : FuncData} {ps : List Str} {sp : SpD}
theorem funD {x qual : Str} {st : Stmt} {N : List Str} (F : Fun K x qual st f fd) (S : FnScope N ps (defScope st))
    (body : ∀ (cdv : Value) (A : Around) (outer : List Env) (s : Shared) (H : Hp) (E : XK) (p : Qt), p.tf = tabs → fd.code = cdv → A.guards = some [] → (∀ a o, K.lookup a = some o → a ≠ p.pot) → Room k (A.deeper (envOfC qual (defScope st) s.heap.objs.size f cdv)) →
      ∃ d, PDSs (cxOf CX0 P w K mg base N qual (defScope st) f cdv A outer s H E).nox p (defBody st) d ∧ ∀ (ds : List D) (R : D → Prop), ds.length = ps.length → sp ds R → d { nx := fun _ => R .non, rt := R } (startD N ds)) :
    FnG P w K mg base CX0 (k + 1) f fd ps (toSp K tabs ps.length sp) := by
  refine funG F S (fun vs H Q E h => h.1) fun cdv A outer s H vs Q E hc hg hk hr h => ?_
  obtain ⟨hl, pot, Fb, ds, R, pk, is, h, q⟩ := h
  obtain ⟨d, hb, hd⟩ := body cdv A outer s H E ⟨pot, tabs⟩ rfl hc hg (fun a o lo => pk.ne (hk a o lo)) hr
  obtain ⟨t, h1, h2⟩ := hb.run
  refine ⟨t, h1.nox, ?_⟩
  have ex : ∀ {F' : List Addr} {σ' : L2.St} {H' : Hp} {τ' : Sl}, Rel K ⟨pot, tabs⟩ ⟨Fb, [], H⟩ F' σ' H' τ' → Ex ⟨pot, tabs⟩ H H' := by
    intro F' σ' H' τ' r
    exact ⟨fun b o n t e => r.kp b o n (fun z => nomatch z) t e, r.pk⟩
  exact h2 ⟨Fb, [], H⟩ Fb (L2.start N vs) H (startD N ds) _ _ (start_rel pk is) (hd ds R (by rw [← is.len]; exact hl) h)
    ⟨fun F' σ H' τ rel r => q _ _ H' (ex rel) .non r, fun F' σ H' τ v x rel i r => q x v H' (ex rel) (i.less rel.sub) r, fun _ _ _ _ _ z => z.elim, fun _ _ _ _ _ z => z.elim, fun _ _ _ _ _ _ _ _ _ _ _ _ z => z.elim⟩
end
structure Dfn (K : PySem.W.Frag) (mg : Str → Option Value) (x qual : Str) (st : Stmt) (ps : List Str) (kb : List (List Str × Nat × List Nat)) : Prop where
  ex : ∃ (f : Addr) (fd : FuncData), Fun K x qual st f fd ∧ mg x = some (.ref f) ∧ Binds K fd ps [] ∧ ∀ q ∈ kb, BindK K fd ps q.1 q.2.1 q.2.2
structure Cal (P : Program) (w : World) (K : PySem.W.Frag) (mg : Str → Option Value) (base : Heap) (tabs : Tf) (x : Str) (k n : Nat) (ps : List Str) (kb : List (List Str × Nat × List Nat)) (sp : SpD) : Prop where
  ex : ∃ (f : Addr) (fd : FuncData), FnG P w K mg base CX0 k f fd ps (toSp K tabs n sp) ∧ mg x = some (.ref f) ∧ PySem.W.keepIn K (.ref f) = true ∧ Binds K fd ps [] ∧ ∀ q ∈ kb, BindK K fd ps q.1 q.2.1 q.2.2
section
variable {P : Program} {w : World} {K : PySem.W.Frag} {mg : Str → Option Value} {base : Heap} {k : Nat} {ps : List Str} {sp : SpD} {kb : List (List Str × Nat × List Nat)}
theorem cal_of {tabs : Tf} {x qual : Str} {st : Stmt} {N : List Str} (D0 : Dfn K mg x qual st ps kb) (S : FnScope N ps (defScope st))
    (body : ∀ (f : Addr) (cdv : Value) (A : Around) (outer : List Env) (s : Shared) (H : Hp) (E : XK) (p : Qt), p.tf = tabs → A.guards = some [] → (∀ a o, K.lookup a = some o → a ≠ p.pot) → Room k (A.deeper (envOfC qual (defScope st) s.heap.objs.size f cdv)) →
      ∃ d, PDSs (cxOf CX0 P w K mg base N qual (defScope st) f cdv A outer s H E).nox p (defBody st) d ∧ ∀ (ds : List D) (R : D → Prop), ds.length = ps.length → sp ds R → d { nx := fun _ => R .non, rt := R } (startD N ds)) :
    Cal P w K mg base tabs x (k + 1) ps.length ps kb sp := by
  obtain ⟨f, fd, F, hm, hb, hk⟩ := D0.ex
  exact ⟨f, fd, funD F S fun cdv A outer s H E p ht _ => body f cdv A outer s H E p ht, hm, F.kp, hb, hk⟩
end
section
variable {X : Cx} {p : Qt} {pos q : Pos} {e : Expr} {es : List Expr} {kws : List Keyword} {ds dk : DA} {k j n : Nat} {ps : List Str} {sp : SpD} {x : Str} {kb : List (List Str × Nat × List Nat)}
theorem pdcC (C : Cal X.prog X.w X.K X.mg X.base p.tf x j n ps kb sp) (hgu : X.A.guards = some []) (hr : Room k X.A) (ha : PDA X p (e :: es) ds) (hj : j ≤ k := by decide) (hg : Gl X x := by rfl) (hn : (e :: es).length = n := by rfl) (hdb : (x == ("__debug__" : Str)) = false := by decide)
    (he : starEach (e :: es) X.env = (false, eval e X.env) :: starEach es X.env := by rfl) (hpl : (backTo pos (starEach es X.env)).any (·.1) = false := by rfl) : PD X p (.Call (.Name x q) (e :: es) [] pos) (dB sp ds) := by
  obtain ⟨f, fd, F, hm, hk, hb, _⟩ := C.ex
  exact pdc F hgu (hr.mono hj) hm hk hb ha hg hn hdb he hpl
theorem pdcC0 (C : Cal X.prog X.w X.K X.mg X.base p.tf x j 0 ps kb sp) (hgu : X.A.guards = some []) (hr : Room k X.A) (hj : j ≤ k := by decide) (hg : Gl X x := by rfl) (hdb : (x == ("__debug__" : Str)) = false := by decide) : PD X p (.Call (.Name x q) [] [] pos) (dB sp dNil) := by
  obtain ⟨f, fd, F, hm, hk, hb, _⟩ := C.ex
  exact pdc0 F hgu (hr.mono hj) hm hk hb hg hdb
theorem pdcCK0 {ks : List Str} {perm : List Nat} (C : Cal X.prog X.w X.K X.mg X.base p.tf x j n ps kb sp) (hgu : X.A.guards = some []) (hr : Room k X.A) (hq : (ks, 0, perm) ∈ kb) (hkw : PDK X p kws dk) (hj : j ≤ k := by decide)
    (hn : perm.length = n := by rfl) (hp : ∀ j ∈ perm, j < kws.length := by decide) (hlk : kws.length = ks.length := by rfl) (hg : Gl X x := by rfl) (hall : (backToKw pos (keywordEach kws X.env)).all (·.1.isSome) = true := by rfl) (hks : (backToKw pos (keywordEach kws X.env)).filterMap (·.1) = ks := by rfl)
    (hdb : (x == ("__debug__" : Str)) = false := by decide)
    (hpl : ((backTo pos (starEach [] X.env)).any (·.1) || (backToKw pos (keywordEach kws X.env)).any (·.1.isNone)) = false := by rfl) : PD X p (.Call (.Name x q) [] kws pos) (dBK sp perm dNil dk) := by
  obtain ⟨f, fd, F, hm, hk, _, hb⟩ := C.ex
  exact pdcK0 F hgu (hr.mono hj) hm hk (hb _ hq) hkw hn hp hlk hg hall hks hdb hpl
end
section
variable {K : PySem.W.Frag} {mg : Str → Option Value} {h : Heap} {x qual : Str} {st : Stmt} {f : Addr} {fd : FuncData} {ps ks : List Str} {n : Nat} {perm : List Nat} {kb : List (List Str × Nat × List Nat)}
theorem bindK_of (F : Fun K x qual st f fd) (hb : ∀ (kV doc pm : Value) (an : Option Addr) (cdv ct : Value) (us ws : List Value), us.length = n → ws.length = ks.length →
    ∃ zs : List Value, bindArgs (PySem.W.fnOf x qual (defArgs st) (defBody st) (defScope st) .none kV doc pm an cdv ct) ⟨us, ks.zip ws⟩ = pure (ps.zip zs) ∧ zs.length = ps.length ∧ perm.length = ps.length ∧ ∀ (i j : Nat), perm[i]? = some j → zs[i]? = (us ++ ws)[j]? ∧ j < (us ++ ws).length) : BindK K fd ps ks n perm := by
  obtain ⟨oc, od, kV, doc, pm, an, cdv, ct, osl, rfl, lk, hcd⟩ := F.ex
  intro s us ws _ h1 h2
  obtain ⟨zs, e, r⟩ := hb kV doc pm an cdv ct us ws h1 h2
  exact ⟨zs, .of_eq e, r⟩
theorem dfn_of {oc kV doc pm cdv ct : Value} {od an : Option Addr} {osl : Array (Option Value)} (X : K.In h) (G : h.Ns mainGlobals mg) (a : PySem.W.nsIn K mainGlobals x = some (some (.ref f)))
    (l : K.lookup f = some ⟨oc, od, .func (PySem.W.fnOf x x (defArgs st) (defBody st) (defScope st) .none kV doc pm an cdv ct), osl⟩) (c : PySem.W.codeIn K cdv x = true) (k : PySem.W.keepIn K (.ref f) = true)
    (hb : ∀ (kV doc pm : Value) (an : Option Addr) (cdv ct : Value) (us : List Value), us.length = ps.length → bindArgs (PySem.W.fnOf x x (defArgs st) (defBody st) (defScope st) .none kV doc pm an cdv ct) ⟨us, []⟩ = pure (ps.zip us))
    (hk : ∀ fd : FuncData, Fun K x x st f fd → ∀ q ∈ kb, BindK K fd ps q.1 q.2.1 q.2.2) : Dfn K mg x x st ps kb :=
  ⟨f, _, fun_mk l c k, PySem.W.mg_of X G a, (fun_mk l c k).binds hb, hk _ (fun_mk l c k)⟩
theorem ktup2 {a : Addr} {x y : Int} {t u : Tok} {dd : Option Addr} {m : Nat} {sl : Array (Option Value)} (l : K.lookup a = some ⟨.type "tuple", dd, .seq #[.int x t, .int y u] m, sl⟩) : KTup K a (.tup [.int x, .int y]) :=
  fun p F H ne => .tup (vs := [.int x, .int y]) (.inr ⟨_, _, m, l, rfl, rfl, by show 2 ≤ sizeLine; decide, .cons ⟨_, rfl⟩ (.cons ⟨_, rfl⟩ .nil)⟩) ne (.cons (.int _) (.cons (.int _) .nil))
end
end DL
namespace DL
open PySem PySem.Spec L2
open PyProof.Rows hiding St
section
variable {X : Cx} {p : Qt}
def tyN : D → Option String
  | .non => some "NoneType"
  | .bl _ => some "bool"
  | .int _ => some "int"
  | .str _ => some "str"
  | .tup _ => some "tuple"
  | .lst _ => some "list"
  | .pot => some "list"
  | .ty _ => none
  | .fn _ => none
  | .own _ => none
def cIsi : List D → (D → Prop) → Prop := fun xs R => match xs with
  | [x, .ty n] => match tyN x with
    | some t => match kitB t n with
      | some b => R (.bl b)
      | none => False
    | none => False
  | _ => False
theorem tyX_tup {K : PySem.W.Frag} {H : Hp} {a : Addr} {vs : List V} (h : SqT K H a vs) : TyX K H (.ref a) (.type "tuple") := by
  rcases h with (h | ⟨o, h⟩) | ⟨o, its, n, h, c, _⟩
  · exact .base (.tup h)
  · exact .fTuple h
  · exact .kTuple h c
theorem tyX_lst {K : PySem.W.Frag} {H : Hp} {a : Addr} {vs : List V} (h : SqL K H a vs) : TyX K H (.ref a) (.type "list") := by
  rcases h with (h | ⟨o, h⟩) | ⟨o, its, n, h, c, _⟩
  · exact .base (.lst h)
  · exact .base (.frz h)
  · exact .kList h c
theorem cd_isi : CallD X p (.builtin "isinstance") cIsi := by
  refine ⟨_, call_isi, fun F H xs vs Q R pk ix hh q => ?_⟩
  unfold cIsi at hh
  split at hh
  · split at hh
    · rename_i t et
      split at hh
      · rename_i b eb
        cases ix with
        | cons i1 i2 =>
          cases i2 with
          | cons i2 i3 =>
            cases i3
            cases i2
            have fin : ∀ {x : V}, TyX X.K H x (.type t) → ∃ (x' c : V) (t' u : Value) (b : Bool), [x, .ty _] = [x', c] ∧ ClsV c u ∧ TyX X.K H x' t' ∧ PySem.W.kitOne X.K t' u = some b ∧ Q (.bl b) H :=
              fun {x} hx => ⟨x, _, _, _, b, rfl, .ty _, hx, kit_ty eb, q _ _ H (.refl pk.pk) (.bl b) hh⟩
            cases i1 with
            | non => cases et; exact fin (.base .non)
            | bl _ => cases et; exact fin (.base (.bl _))
            | int _ => cases et; exact fin (.base (.int _))
            | str _ => cases et; exact fin (.base (.str _))
            | ty _ => cases et
            | fn _ => cases et
            | tup hs _ _ => cases et; exact fin (tyX_tup hs)
            | lst hs _ _ => cases et; exact fin (tyX_lst (Rdl.sq hs))
            | pot =>
              cases et
              obtain ⟨m, n, _, _, _, hp⟩ := pk.pk.at_
              exact fin (.base (.lst hp))
      · exact hh.elim
    · exact hh.elim
  · exact hh.elim
theorem kb_tt : kitB "tuple" "tuple" = some true := by decide +kernel
theorem kb_ii : kitB "int" "int" = some true := by decide +kernel
theorem kb_ib : kitB "int" "bool" = some false := by decide +kernel
theorem kb_bi : kitB "bool" "int" = some true := by decide +kernel
theorem kb_bb : kitB "bool" "bool" = some true := by decide +kernel
theorem kb_it : kitB "int" "tuple" = some false := by decide +kernel
theorem kb_bt : kitB "bool" "tuple" = some false := by decide +kernel
theorem kb_nt : kitB "NoneType" "tuple" = some false := by decide +kernel
theorem kb_ni : kitB "NoneType" "int" = some false := by decide +kernel
theorem kb_lt : kitB "list" "tuple" = some false := by decide +kernel
theorem kb_li : kitB "list" "int" = some false := by decide +kernel
theorem kb_ti : kitB "tuple" "int" = some false := by decide +kernel
theorem kb_si : kitB "str" "int" = some false := by decide +kernel
theorem kb_st : kitB "str" "tuple" = some false := by decide +kernel
theorem kb_ss : kitB "str" "str" = some true := by decide +kernel
mutual
def intsOk : D → Prop
  | .int i => i.natAbs.log2 < 1920
  | .str x => (PyData.str x).showable = true ∧ (PyData.str x).shown.length + 2 ≤ 1930
  | .tup l => intsOks l
  | .lst l => intsOks l
  | _ => True
def intsOks : List D → Prop
  | [] => True
  | d :: l => intsOk d ∧ intsOks l
end
mutual
def cnt : D → Nat
  | .tup l => cnts l + 1
  | .lst l => cnts l + 1
  | _ => 1
def cnts : List D → Nat
  | [] => 0
  | d :: l => cnt d + cnts l
end
theorem shown_ok : ∀ (n : Nat), (∀ d : D, shp n d = true → intsOk d → (toP d).showable = true ∧ (toP d).shown.length + 2 ≤ 1930 * cnt d) ∧
    ∀ l : List D, shps n l = true → intsOks l → PyData.showableAll (toPs l) = true ∧ piled (PyData.shownAll (toPs l)) ≤ 1930 * cnts l ∧ (∀ t ∈ PyData.shownAll (toPs l), t.length + 2 ≤ 1930 * cnts l) := by
  have lists : ∀ n, (∀ d : D, shp n d = true → intsOk d → (toP d).showable = true ∧ (toP d).shown.length + 2 ≤ 1930 * cnt d) →
      ∀ l : List D, shps n l = true → intsOks l → PyData.showableAll (toPs l) = true ∧ piled (PyData.shownAll (toPs l)) ≤ 1930 * cnts l ∧ (∀ t ∈ PyData.shownAll (toPs l), t.length + 2 ≤ 1930 * cnts l) := by
    intro n h l
    induction l with
    | nil => intro _ _; exact ⟨by simp [toPs, PyData.showableAll], by simp [toPs, PyData.shownAll, piled], by simp [toPs, PyData.shownAll]⟩
    | cons d l ih =>
      intro hl hi
      rw [shps, Bool.and_eq_true] at hl
      rw [intsOks] at hi
      obtain ⟨a1, a2⟩ := h d hl.1 hi.1
      obtain ⟨b1, b2, b3⟩ := ih hl.2 hi.2
      refine ⟨by simp [toPs, PyData.showableAll, a1, b1], ?_, ?_⟩
      · simp only [toPs, PyData.shownAll, piled_cons, cnts]
        omega
      · intro t ht
        simp only [toPs, PyData.shownAll, List.mem_cons] at ht
        simp only [cnts]
        rcases ht with e | e
        · subst e
          omega
        · have := b3 t e
          omega
  have one : ∀ n, (∀ m, n = m + 1 → ∀ l : List D, shps m l = true → intsOks l → PyData.showableAll (toPs l) = true ∧ piled (PyData.shownAll (toPs l)) ≤ 1930 * cnts l ∧ (∀ t ∈ PyData.shownAll (toPs l), t.length + 2 ≤ 1930 * cnts l)) →
      ∀ d : D, shp n d = true → intsOk d → (toP d).showable = true ∧ (toP d).shown.length + 2 ≤ 1930 * cnt d := by
    intro n hls d hd hi
    have hj : ∀ ts : List Str, (Str.join ", " ts).length ≤ piled ts := fun ts => by
      cases ts with
      | nil => exact Nat.le_refl _
      | cons t r =>
        have := join_length_add (t :: r) (by simp)
        omega
    cases d with
    | non => exact ⟨by simp [toP, PyData.showable], by show (4 : Nat) + 2 ≤ 1930 * 1; decide⟩
    | bl b => exact ⟨by simp [toP, PyData.showable], by cases b <;> (show (_ : Nat) ≤ 1930 * 1; decide)⟩
    | int i =>
      rw [intsOk] at hi
      refine ⟨by simp [toP, PyData.showable, hi], ?_⟩
      have := int_text_len_1921 hi
      show (Str.ofString (toString i)).length + 2 ≤ 1930 * 1
      omega
    | str x =>
      rw [intsOk] at hi
      refine ⟨hi.1, ?_⟩
      have := hi.2
      show (PyData.str x).shown.length + 2 ≤ 1930 * 1
      omega
    | tup l =>
      cases n with
      | zero => simp [shp] at hd
      | succ m =>
        obtain ⟨a1, a2, _⟩ := hls m rfl l (by simpa [shp] using hd) (by simpa [intsOk] using hi)
        refine ⟨by simp [toP, PyData.showable, a1], ?_⟩
        have h1 := hj (PyData.shownAll (toPs l))
        have h2 : (toP (.tup l)).shown.length ≤ 1 + (Str.join ", " (PyData.shownAll (toPs l))).length + 2 := by
          simp only [toP, PyData.shown, tupleText]
          rw [strLen_append, strLen_append]
          have : ((if (PyData.shownAll (toPs l)).length == 1 then ",)" else ")" : String) : Str).length ≤ 2 := by split <;> decide
          have : (("(" : String) : Str).length = 1 := rfl
          omega
        simp only [cnt]
        omega
    | lst l =>
      cases n with
      | zero => simp [shp] at hd
      | succ m =>
        obtain ⟨a1, a2, _⟩ := hls m rfl l (by simpa [shp] using hd) (by simpa [intsOk] using hi)
        refine ⟨by simp [toP, PyData.showable, a1], ?_⟩
        have h2 : (toP (.lst l)).shown.length ≤ piled (PyData.shownAll (toPs l)) + 4 := by
          have h1 := hj (PyData.shownAll (toPs l))
          simp only [toP, PyData.shown, listText_eq_join]
          rw [strLen_append, strLen_append]
          have : (("[" : String) : Str).length = 1 := rfl
          have : (("]" : String) : Str).length = 1 := rfl
          omega
        simp only [cnt]
        omega
    | _ => simp [shp] at hd
  intro n
  induction n with
  | zero => exact ⟨one 0 (fun m e => by omega), lists 0 (one 0 (fun m e => by omega))⟩
  | succ n ih =>
    have o := one (n + 1) (fun m e => by have : n = m := by omega
                                         subst this
                                         exact ih.2)
    exact ⟨o, lists (n + 1) o⟩
structure okR (d : D) : Prop where
  sh : shp 60 d = true
  nums : intsOk d
  few : cnt d ≤ 5000
def cRepr : List D → (D → Prop) → Prop := fun xs R => match xs with
  | [d] => okR d ∧ R (.str (toP d).shown)
  | _ => False
theorem call_repr_data (hg : X.A.guards = some []) (hu : X.A.units + 64 < cLine) : CallR X (.builtin "repr") (fun xs H Q => ∃ x d, xs = [x] ∧ Dp X.K H x d ∧ d.showable = true ∧ d.hasDict = false ∧ d.depth ≤ 60 ∧ d.shown.length ≤ sizeLine ∧ Q (.str d.shown) H) := by
  intro pins s σ H xs us Q I r h
  obtain ⟨x, d, rfl, dp, h1, h2, h3, h4, q⟩ := h
  obtain ⟨u, rfl, ru⟩ := vals1 r
  obtain ⟨as, rd⟩ := Dp.reads I d x u dp ru
  cases dp with
  | non => cases ru; exact PySem.P.repr_of_none ⟨.str _, H, I.tok _, ⟨_, rfl⟩, q⟩
  | bl b => cases ru; exact PySem.P.repr_of_bool ⟨.str _, H, I.tok _, ⟨_, rfl⟩, by
      cases b <;> exact q⟩
  | int i =>
    obtain ⟨t, rfl⟩ := ru
    exact PySem.P.repr_of_int (by simpa [PyData.showable] using h1) ⟨.str _, H, I.tok _, ⟨_, rfl⟩, q⟩
  | str z =>
    obtain ⟨t, rfl⟩ := ru
    exact PySem.P.repr_of_str ⟨.str _, H, I.tok _, ⟨_, rfl⟩, q⟩ h4
  | lst hs ha =>
    cases ru
    exact repr_of_reads' rd h1 (PyData.noDict_hsm h2) hg (by omega) (fun _ _ e => e) (fun h' u tk hk => ⟨.str _, H, I.kept (t' := tk) hk, ⟨_, rfl⟩, q⟩) h4
  | tup hs ha =>
    cases ru
    exact repr_of_reads' rd h1 (PyData.noDict_hsm h2) hg (by omega) (fun _ _ e => e) (fun h' u tk hk => ⟨.str _, H, I.kept (t' := tk) hk, ⟨_, rfl⟩, q⟩) h4
theorem cd_repr (hg : X.A.guards = some []) (hu : X.A.units + 64 < cLine) : CallD X p (.builtin "repr") cRepr := by
  refine ⟨_, call_repr_data hg hu, fun F H xs vs Q R pk ix hh q => ?_⟩
  unfold cRepr at hh
  split at hh
  · rename_i d
    obtain ⟨⟨h1, h2, h3⟩, h4⟩ := hh
    cases ix with
    | cons i1 i2 =>
      cases i2
      obtain ⟨a1, a2, a3, a4⟩ := (shp_all 60).1 d h1
      obtain ⟨b1, b2⟩ := (shown_ok 60).1 d h1 h2
      refine ⟨_, _, rfl, i1.dp a1, b1, a4, a3, ?_, q _ _ H (.refl pk.pk) (.str _) h4⟩
      have : sizeLine = 16777216 := sizeLine_eq
      omega
  · exact hh.elim
structure BS (i : Int) : Prop where
  nn : 0 ≤ i
  few : i < 2 ^ 512
theorem BS.of {j : Int} (h0 : 0 ≤ j) (h1 : j < 1606938044258990275541962092341162602522202993782792835301376) : BS j := by
  have e : (1606938044258990275541962092341162602522202993782792835301376 : Int) ≤ 2 ^ 512 := by decide +kernel
  exact ⟨h0, Int.lt_of_lt_of_le h1 e⟩
def cSqrt : List D → (D → Prop) → Prop := fun xs R => match xs with
  | [.int i] => BS i ∧ ∀ r : Int, 0 ≤ r → r * r ≤ i → i < (r + 1) * (r + 1) → R (.int r)
  | _ => False
theorem cd_gcd : CallD X p (.builtin "math.gcd") (cI2 (fun _ _ => True) fun a b => .int ((Nat.gcd a.natAbs b.natAbs : Nat) : Int)) := cI2_of cr_gcd fun a b F H Q _ pk q => ⟨a, b, rfl, q _ H (.refl pk.pk) (.int _)⟩
end
end DL
namespace DL
open PySem PySem.Spec L2
open PyProof.Rows hiding St
def liftE (K : PySem.W.Frag) (p : Qt) (d : DE) : TE := fun σ H Q => ∃ g F τ R, Rel K p g F σ H τ ∧ d τ R ∧ ∀ x v H', Ex p H H' → Is K p F H' v x → R x → Q v H'
def liftT (K : PySem.W.Frag) (p : Qt) (d : DT) : TT := fun σ H Q => ∃ g F τ R, Rel K p g F σ H τ ∧ d τ R ∧ ∀ b H', Ex p H H' → R b → Q b H'
theorem PD.pe {X : Cx} {p : Qt} {e : Expr} {d : DE} (h : PD X p e d) : PE X e (liftE X.K p d) := by
  obtain ⟨t, h1, h2⟩ := h.run
  exact ⟨fun pins s σ H Q I ⟨g, F, τ, R, a, b, c⟩ => h1.run pins s σ H Q I (h2 g F σ H τ Q R a b c)⟩
theorem PDT.pt {X : Cx} {p : Qt} {e : Expr} {d : DT} (h : PDT X p e d) : PT X e (liftT X.K p d) := by
  obtain ⟨t, h1, h2⟩ := h.run
  exact ⟨fun pins s σ H Q I ⟨g, F, τ, R, a, b, c⟩ => h1.run pins s σ H Q I (h2 g F σ H τ Q R a b c)⟩
section
variable {X : Cx} {p : Qt} {tg : Expr}
theorem SqT.since {K : PySem.W.Frag} {F : List Addr} {H H' : Hp} {a : Addr} {vs : List V} (h : SqT K H a vs) (n : a ≠ p.pot) (pk : PkF p F H) (e : ExF p F H H') : SqT K H' a vs := by
  have nf : ∀ o, ¬ isMut o → H a = some o → a ∉ F := fun o m q z => by
    obtain ⟨_, u, h1, h2⟩ := pk.al a z
    rw [q] at h1
    cases h1
    exact m h2
  rcases h with (h | ⟨o, h⟩) | h
  · exact .inl (.inl (e.kp _ _ n (nf (.tup vs) (fun z => z) h) (fun _ z => nomatch z) h))
  · exact .inl (.inr ⟨o, e.kp _ _ n (nf (.frz o (.tup vs)) (fun z => z) h) (fun _ z => nomatch z) h⟩)
  · exact .inr h
theorem Rdl.since {F : List Addr} {H H' : Hp} {a : Addr} {vs : List V} (h : Rd H a (.lst vs)) (n : a ≠ p.pot ∧ a ∉ F) (e : ExF p F H H') : Rd H' a (.lst vs) := by
  rcases h with h | ⟨o, h⟩
  · exact .inl (e.kp _ _ n.1 n.2 (fun _ z => nomatch z) h)
  · exact .inr ⟨o, e.kp _ _ n.1 n.2 (fun _ z => nomatch z) h⟩
theorem wd_list {K : PySem.W.Frag} {F : List Addr} {H : Hp} {a : Addr} {vs : List V} {l : List D} (h : Rd H a (.lst vs)) (ne : a ≠ p.pot ∧ a ∉ F) (i : IsL K p F H vs l) : WD K p F (Itl K a) H l := by
  refine ⟨fun n H' F' e k pk hn => ?_, fun H' e => ⟨vs, Rdl.sq (Rdl.since h ne e), by rw [i.len]; exact Nat.le_refl _⟩⟩
  have hv : n < vs.length := by rw [i.len]; exact hn
  have sq : SqL K H' a vs := Rdl.sq (Rdl.since h ne e)
  refine ⟨⟨vs, vs[n], sq, by simp [hv]⟩, fun x H2 y => ?_⟩
  obtain ⟨rfl, y⟩ := y
  obtain ⟨d, h1, h2⟩ := (k i).get (y vs sq)
  exact ⟨.refl e.pk, d, h1, h2⟩
theorem wd_tup {K : PySem.W.Frag} {F : List Addr} {H : Hp} {a : Addr} {vs : List V} {l : List D} (h : SqT K H a vs) (ne : a ≠ p.pot) (pk : PkF p F H) (i : IsL K p F H vs l) : WD K p F (Itt K a) H l := by
  refine ⟨fun n H' F' e k _ hn => ?_, fun H' e => ⟨vs, SqT.since h ne pk e, by rw [i.len]; exact Nat.le_refl _⟩⟩
  have hv : n < vs.length := by rw [i.len]; exact hn
  have sq : SqT K H' a vs := SqT.since h ne pk e
  refine ⟨⟨vs, vs[n], sq, by simp [hv]⟩, fun x H2 y => ?_⟩
  obtain ⟨rfl, y⟩ := y
  obtain ⟨d, h1, h2⟩ := (k i).get (y vs sq)
  exact ⟨.refl e.pk, d, h1, h2⟩
def dSq (d : DE) : DI := fun τ R => d τ fun x => match x with
  | .lst l => R l
  | .tup l => R l
  | _ => False
def iSq (K : PySem.W.Frag) (t : TE) : TI := fun σ H R => t σ H fun x H1 => ∃ a, x = .ref a ∧ ((∃ xs, SqL K H1 a xs ∧ R (Itl K a) H1) ∨ ∃ xs, SqT K H1 a xs ∧ R (Itt K a) H1)
theorem pi_sq {l : Expr} {t : TE} (h : PE X l t) : PI X tg l (iSq X.K t) := by
  refine ⟨fun pins s σ H R I q => thn (h.run pins s σ H _ I q) ?_⟩
  rintro v s1 ⟨x, H1, I1, r1, a, rfl, q1⟩
  cases r1
  have fr : H1 s1.heap.objs.size = none := I1.hok.fresh (Nat.le_refl _)
  have fp : ∀ b ∈ [s1.heap.objs.size], FpOk X pins H1 b := by
    intro b hb
    rw [List.mem_singleton] at hb
    rw [hb]
    exact I1.fpOk (Nat.le_refl _) fr
  rcases q1 with ⟨xs, hx, q1⟩ | ⟨xs, hx, q1⟩
  · obtain ⟨its, _, pl, _⟩ := I1.list hx
    exact wpAny_pyIter_list pl.isList ⟨s1.heap.objs.size, [s1.heap.objs.size], _, _, H1, rfl, I1.kept (t' := s1.toks) (fun b o e => Heap.get?_push_of_some _ e), turn_list a _, ⟨_, Heap.get?_push_size _ rfl, rfl, rfl⟩, fp, q1⟩
  · obtain ⟨its, _, pl, _⟩ := I1.tuple hx
    exact wpAny_pyIter_tuple (show s1.heap.IsTuple a its.toArray from pl) ⟨s1.heap.objs.size, [s1.heap.objs.size], _, _, H1, rfl, I1.kept (t' := s1.toks) (fun b o e => Heap.get?_push_of_some _ e), turn_tuple a _, ⟨_, Heap.get?_push_size _ rfl, rfl, rfl⟩, fp, q1⟩
theorem pdi_sq {e : Expr} {d : DE} (h : PD X p e d) : PDI X p tg e (dSq d) := by
  obtain ⟨t, h1, h2⟩ := h.run
  refine ⟨_, pi_sq h1, fun g F σ H τ Rw R rel hd q => ?_⟩
  refine h2 g F σ H τ _ _ rel hd fun x v H1 e1 i1 h1 => ?_
  cases i1 with
  | @lst a vs l hs hn hl => exact ⟨a, rfl, .inl ⟨vs, Rdl.sq hs, q _ H1 l e1 (wd_list hs hn hl) h1⟩⟩
  | @tup a vs l hs hn hl => exact ⟨a, rfl, .inr ⟨vs, hs, q _ H1 l e1 (wd_tup hs hn (rel.st e1).pkf hl) h1⟩⟩
  | _ => exact h1.elim
def rng (lo : Int) (n : Nat) : List D := (List.range n).map fun (k : Nat) => D.int (lo + (k : Int))
theorem rng_len (lo : Int) (n : Nat) : (rng lo n).length = n := by simp [rng]
theorem rng_get {lo : Int} {n i : Nat} (h : i < n) : (rng lo n)[i]? = some (.int (lo + i)) := by simp [rng, h]
theorem wd_rng {K : PySem.W.Frag} {F : List Addr} {H : Hp} {lo : Int} {n : Nat} : WD K p F (Itr lo n) H (rng lo n) := by
  refine ⟨fun i H' F' e k pk hi => ?_, fun H' e => by rw [rng_len]; exact Nat.le_refl _⟩
  rw [rng_len] at hi
  refine ⟨hi, fun x H2 y => ?_⟩
  obtain ⟨rfl, rfl⟩ := y
  exact ⟨.refl e.pk, _, rng_get hi, .int _⟩
def dRg1 (d : DA) : DI := fun τ R => d τ fun xs => match xs with
  | [.int j] => (-(2 ^ 62) ≤ j ∧ j < 2 ^ 62) ∧ R (rng 0 j.toNat)
  | _ => False
def dRg2 (d : DA) : DI := fun τ R => d τ fun xs => match xs with
  | [.int i, .int j] => (-(2 ^ 62) ≤ i ∧ i < 2 ^ 62 ∧ -(2 ^ 62) ≤ j ∧ j < 2 ^ 62) ∧ R (rng i (j - i).toNat)
  | _ => False
theorem pdi_rg1 {a : Expr} {q pos : Pos} {d : DA} (hm : X.mg "range" = none) (ha : PDA X p [a] d) (hg : Gl X "range" := by rfl) (hs : starEach [a] X.env = [(false, eval a X.env)] := by rfl) : PDI X p tg (.Call (.Name "range" q) [a] [] pos) (dRg1 d) := by
  obtain ⟨t, h1, h2⟩ := ha.run
  refine ⟨_, pi_range1 hg hm h1 hs, fun g F σ H τ Rw R rel hd q => ?_⟩
  refine h2 g F σ H τ _ _ rel hd fun xs vs H1 e1 i1 l1 h1 => ?_
  split at h1
  · cases i1 with
    | cons i1 i2 =>
      cases i2
      cases i1
      exact ⟨_, rfl, h1.1.1, h1.1.2, q _ H1 _ e1 wd_rng h1.2⟩
  · exact h1.elim
def zipD : List D → List D → List D
  | x :: xs, y :: ys => .tup [x, y] :: zipD xs ys
  | _, _ => []
def dZip (d : DA) : DI := fun τ R => d τ fun xs => match xs with
  | [.tup l, .tup m] => R (zipD l m)
  | [.lst l, .lst m] => R (zipD l m)
  | _ => False
end
theorem wipe_comm (σ : L2.St) (i : Nat) (x : Option V) : ∀ vs : List Nat, i ∉ vs → wipe (σ.set i x) vs = (wipe σ vs).set i x
  | [], _ => rfl
  | v :: vs, h => by
    simp only [List.mem_cons, not_or] at h
    unfold wipe
    rw [wipe_comm σ i x vs h.2, List.set_comm _ _ h.1]
theorem wipe_set (σ : L2.St) (i : Nat) (x : Option V) : ∀ vs : List Nat, i ∈ vs → wipe (σ.set i x) vs = wipe σ vs
  | [], h => by cases h
  | v :: vs, h => by
    unfold wipe
    by_cases hv : i ∈ vs
    · rw [wipe_set σ i x vs hv]
    · have e : i = v := by
        rcases List.mem_cons.mp h with e | e
        · exact e
        · exact absurd e hv
      subst e
      rw [wipe_comm σ i x vs hv, List.set_set]
theorem wipe_idem (σ : L2.St) (ws : List Nat) : wipe (wipe σ ws) ws = wipe σ ws := by
  have gen : ∀ (us : List Nat), (∀ u ∈ us, u ∈ ws) → wipe (wipe σ ws) us = wipe σ ws := by
    intro us
    induction us with
    | nil => intro _; rfl
    | cons u us ih =>
      intro hu
      show (wipe (wipe σ ws) us).set u none = wipe σ ws
      rw [ih fun v hv => hu v (List.mem_cons_of_mem _ hv)]
      have hu0 := hu u List.mem_cons_self
      have : ∀ ws : List Nat, u ∈ ws → (wipe σ ws).set u none = wipe σ ws := by
        intro ws
        induction ws with
        | nil => intro h; cases h
        | cons w ws ih2 =>
          intro h
          unfold wipe
          by_cases e : u = w
          · subst e
            rw [List.set_set]
          · have h' : u ∈ ws := by
              rcases List.mem_cons.mp h with z | z
              · exact absurd z e
              · exact z
            rw [List.set_comm _ _ (Ne.symm e), ih2 h']
      exact this ws hu0
  exact gen ws fun _ h => h
structure PDGw (X : Cx) (p : Qt) (vs : List Nat) (tg : Expr) (d : DG) (t : TG) : Prop where
  pg : PG X tg t
  go : ∀ (v : V) (x : D) (g : Gd) (F : List Addr) (σ : L2.St) (H : Hp) (τ : Sl) (Q : L2.St → Hp → Prop) (R : Sl → Prop), Rel X.K p g F σ H τ → Is X.K p F H v x → d x τ R → (∀ σ' H' τ', Ex p H H' → Rel X.K p g F σ' H' τ' → wipe σ' vs = wipe σ vs → R τ' → Q σ' H') → t v σ H Q
structure PDGsw (X : Cx) (p : Qt) (vs : List Nat) (tgs : List Expr) (d : DGs) (t : TGs) : Prop where
  pg : PGs X tgs t
  go : ∀ (ws : List V) (xs : List D) (g : Gd) (F : List Addr) (σ : L2.St) (H : Hp) (τ : Sl) (Q : L2.St → Hp → Prop) (R : Sl → Prop), Rel X.K p g F σ H τ → IsL X.K p F H ws xs → d xs τ R → (∀ σ' H' τ', Ex p H H' → Rel X.K p g F σ' H' τ' → wipe σ' vs = wipe σ vs → R τ' → Q σ' H') → t ws σ H Q
section
variable {X : Cx} {p : Qt} {pos : Pos} {vs : List Nat}
theorem pgw_name {i : Nat} {x : Str} (hN : X.N.Nodup) (hi : X.N[i]? = some x) (hx : Loc X.env.scope x) (hv : i ∈ vs := by decide) (hf : X.fn x = true ∨ X.env.scope.names.lookup x = some .local := by first | exact .inl rfl | exact .inr rfl | assumption) : PDGw X p vs (.Name x pos) (gN i) (gName i) :=
  ⟨pg_name hN hi hx hf, fun v x g F σ H τ Q R rel i1 h q => q _ H _ (.refl rel.pk) (rel.set i1) (wipe_set σ i _ vs hv) h⟩
end
def dYes : DT := fun _ R => R true
def dLcGo (g : DG) (tt : DT) (te : DE) (τ : Sl) : List D → List D → (List D → Prop) → Prop
  | [], acc, R => R acc
  | x :: r, acc, R => g x τ fun τ2 => tt τ2 fun b => if b = true then te τ2 fun y => dLcGo g tt te τ r (acc ++ [y]) R else dLcGo g tt te τ r acc R
structure LenOk (l : List D) : Prop where
  few : l.length ≤ 1000000
theorem LenOk.of {l : List D} (n : Nat) (h : l.length = n) (h2 : n ≤ 1000000) : LenOk l := ⟨by rw [h]; exact h2⟩
def dLc (it : DI) (g : DG) (tt : DT) (te : DE) (own : List Nat) : DE := fun τ R => it τ fun l => LenOk l ∧ dLcGo g tt te (wipeD τ own) l [] fun acc => R (.lst acc)
section
variable {X : Cx} {p : Qt} {pos : Pos}
theorem Rel.shut {K : PySem.W.Frag} {g : Gd} {F : List Addr} {σ : L2.St} {H : Hp} {τ : Sl} {D0 : Addr} (rel : Rel K p g F σ H τ) (hD : H D0 = none) {xs : List V} : Rel K p g (D0 :: F) σ (upd H D0 (.lst xs)) τ := by
  have e : Ex p H (upd H D0 (.lst xs)) := .new rel.pk hD
  have r := rel.st e
  have mo : ∀ b ∈ D0 :: F, b ∈ F ∨ ∀ o, NoT o → H b ≠ some o := fun b hb => by
    rcases List.mem_cons.mp hb with z | z
    · exact .inr fun o _ q => by rw [z, hD] at q; cases q
    · exact .inl z
  refine ⟨r.pk, r.kp, fun b hb => List.mem_cons_of_mem _ (r.sub b hb), fun b hb => ?_, fun b hb => ?_, fun i d h n => ?_, fun i l h => ?_, r.un, r.len⟩
  · rcases List.mem_cons.mp hb with z | z
    · subst z
      exact ⟨rel.pk.ne hD, _, upd_same, trivial⟩
    · exact r.al b z
  · rcases List.mem_cons.mp hb with z | z
    · subst z
      by_cases hB : b ∈ g.B
      · exact .inr (.inl hB)
      · exact .inr (.inr fun o t q => by
          have := rel.kp b o (rel.pk.ne hD) hB t q
          rw [hD] at this
          cases this)
    · exact r.fo b z
  · obtain ⟨v, h1, h2⟩ := rel.sl i d h n
    exact ⟨v, h1, (h2.more mo).mono e.kp⟩
  · obtain ⟨a, vs, h1, h2, h3, h4, h6⟩ := rel.ow i l h
    exact ⟨a, vs, h1, e.kp _ _ (rel.al a h3).1 (fun _ z => nomatch z) h2, List.mem_cons_of_mem _ h3, h4, (h6.more mo).mono e.kp⟩
theorem Rel.wrote {K : PySem.W.Frag} {g : Gd} {F : List Addr} {σ : L2.St} {H : Hp} {τ : Sl} {D0 : Addr} {ws xs : List V} (rel : Rel K p g F σ H τ) (hF : D0 ∈ F) (hD : H D0 = some (.lst ws)) (hg : D0 ∈ g.B ∨ ∀ o, NoT o → g.H0 D0 ≠ some o) (ho : ∀ (i : Nat) (l : List D), τ[i]? = some (some (D.own l)) → σ[i]? ≠ some (some (V.ref D0))) : Rel K p g F σ (upd H D0 (.lst xs)) τ ∧ ∀ w y, Is K p F H w y → Is K p F (upd H D0 (.lst xs)) w y := by
  have nP : D0 ≠ p.pot := (rel.al D0 hF).1
  have nT : ∀ t ∈ p.tabs, D0 ≠ t := fun t ht z => by
    obtain ⟨ps, q, _⟩ := rel.pk.tb t ht
    rw [← z, hD] at q
    cases q
  have tupk : ∀ {a : Addr} {vs : List V}, SqT K H a vs → SqT K (upd H D0 (.lst xs)) a vs := by
    intro a vs h
    rcases h with (h | ⟨o, h⟩) | h
    · exact .inl (.inl (by rw [upd_ne (ne_of h hD (by intro z; cases z))]; exact h))
    · exact .inl (.inr ⟨o, by rw [upd_ne (ne_of h hD (by intro z; cases z))]; exact h⟩)
    · exact .inr h
  have lstk : ∀ {a : Addr} {vs : List V}, a ∉ F → Rd H a (.lst vs) → Rd (upd H D0 (.lst xs)) a (.lst vs) := by
    intro a vs n h
    have ne : a ≠ D0 := fun z => n (z ▸ hF)
    rcases h with h | ⟨o, h⟩
    · exact .inl (by rw [upd_ne ne]; exact h)
    · exact .inr ⟨o, by rw [upd_ne ne]; exact h⟩
  have isk : ∀ {v : V} {d : D}, Is K p F H v d → Is K p F (upd H D0 (.lst xs)) v d := by
    intro v d h
    exact Is.rec (motive_1 := fun v d _ => Is K p F (upd H D0 (.lst xs)) v d) (motive_2 := fun vs l _ => IsL K p F (upd H D0 (.lst xs)) vs l) .non .bl .int .str .ty .fn
      (fun h n _ ih => .tup (tupk h) n ih) (fun h n _ ih => .lst (lstk n.2 h) n ih) .pot .nil (fun _ _ i1 i2 => .cons i1 i2) h
  have islk : ∀ {vs : List V} {l : List D}, IsL K p F H vs l → IsL K p F (upd H D0 (.lst xs)) vs l := fun {vs l} h => h.all fun w y z => isk z
  refine ⟨⟨⟨?_, fun t ht => TabG.upd (rel.pk.tb t ht) (nT t ht), Tabs.put rel.pk.lt hD, rel.pk.lp⟩, fun b o n nb t q => ?_, rel.sub, fun b hb => ?_, rel.fo, fun i d h n => ?_, fun i l h => ?_, rel.un, rel.len⟩, fun w y => isk⟩
  · obtain ⟨x, y, g1, g2, g3, g4⟩ := rel.pk.at_
    exact ⟨x, y, g1, g2, g3, by rw [upd_ne nP.symm]; exact g4⟩
  · have ne : b ≠ D0 := fun z => by
      subst z
      rcases hg with z | z
      · exact nb z
      · exact z o t q
    rw [upd_ne ne]
    exact rel.kp b o n nb t q
  · obtain ⟨h1, o, h2, h3⟩ := rel.al b hb
    by_cases ne : b = D0
    · subst ne
      exact ⟨h1, _, upd_same, trivial⟩
    · exact ⟨h1, o, by rw [upd_ne ne]; exact h2, h3⟩
  · obtain ⟨v, h1, h2⟩ := rel.sl i d h n
    exact ⟨v, h1, isk h2⟩
  · obtain ⟨a, vs, h1, h2, h3, h4, h6⟩ := rel.ow i l h
    have ne : a ≠ D0 := fun z => ho i l h (by rw [h1, z])
    exact ⟨a, vs, h1, by rw [upd_ne ne]; exact h2, h3, h4, islk h6⟩
theorem lc_run {K : PySem.W.Frag} {J : It} {g0 : Gd} {F : List Addr} {H1 : Hp} {l : List D} {D0 : Addr} {g : DG} {tt : DT} {te : DE} {tgt : TG} {tT : TT} {vs : List Nat} {σ : L2.St} {τ : Sl} {Q : VK} {R : D → Prop} (hD : H1 D0 = none) (wd : WD K p F J H1 l) (hl : l.length ≤ 1000000) (rel : Rel K p g0 F σ H1 τ)
    (hg : ∀ (v : V) (x : D) (g0 : Gd) (F : List Addr) (σ : L2.St) (H : Hp) (τ : Sl) (Q : L2.St → Hp → Prop) (R : Sl → Prop), Rel K p g0 F σ H τ → Is K p F H v x → g x τ R → (∀ σ' H' τ', Ex p H H' → Rel K p g0 F σ' H' τ' → wipe σ' vs = wipe σ vs → R τ' → Q σ' H') → tgt v σ H Q)
    (ht : ∀ (g0 : Gd) (F : List Addr) (σ : L2.St) (H : Hp) (τ : Sl) (Q : Bool → Hp → Prop) (R : Bool → Prop), Rel K p g0 F σ H τ → tt τ R → (∀ b H', Ex p H H' → R b → Q b H') → tT σ H Q)
    (h : dLcGo g tt te (wipeD τ vs) l [] fun acc => R (.lst acc)) (q : ∀ x v H', Ex p H1 H' → Is K p F H' v x → R x → Q v H') :
    ∃ W : Nat → Nat → Hp → Prop, (∃ m, W 0 m (upd H1 D0 (.lst []))) ∧ ∀ i m H, W i m H → (J.stop i H ∧ Q (.ref D0) H) ∨ (J.go i H ∧ ∃ Nx : Hp → Prop, (∀ H', Nx H' → ∃ m', m' < m ∧ W (i + 1) m' H') ∧
      ∀ x H', J.yld i H x H' → tgt x (wipe σ vs) H' fun σ2 H2 => wipe σ2 vs = wipe σ vs ∧ tT σ2 H2 fun b H3 => if b = true then liftE K p te σ2 H3 fun y H4 => ∃ acc, H4 D0 = some (.lst acc) ∧ acc.length < sizeLine ∧ Nx (upd H4 D0 (.lst (acc ++ [y]))) else Nx H3) := by
  have nD := rel.notF hD
  have r0 := rel.wipe vs
  have start : Ex p H1 (upd H1 D0 (.lst [])) := .new rel.pk hD
  have mo : ∀ b ∈ D0 :: F, b ∈ F ∨ ∀ o, NoT o → H1 b ≠ some o := fun b hb => by
    rcases List.mem_cons.mp hb with z | z
    · exact .inr fun o _ q => by rw [z, hD] at q; cases q
    · exact .inl z
  have hgD : D0 ∈ g0.B ∨ ∀ o, NoT o → g0.H0 D0 ≠ some o := by
    by_cases hB : D0 ∈ g0.B
    · exact .inl hB
    · exact .inr fun o t q => by
        have := rel.kp D0 o nD.1 hB t q
        rw [hD] at this
        cases this
  have ho : ∀ (i : Nat) (l : List D), (wipeD τ vs)[i]? = some (some (D.own l)) → (wipe σ vs)[i]? ≠ some (some (V.ref D0)) := fun i l h1 h2 => by
    obtain ⟨a, us, k1, k2, _⟩ := r0.ow i l h1
    rw [h2] at k1
    cases k1
    rw [hD] at k2
    cases k2
  refine ⟨fun i m H => i ≤ l.length ∧ m = l.length - i ∧ Ex p H1 H ∧ Rel K p g0 (D0 :: F) (wipe σ vs) H (wipeD τ vs) ∧ ∃ va acc, H D0 = some (.lst va) ∧ IsL K p (D0 :: F) H va acc ∧ acc.length ≤ i ∧ dLcGo g tt te (wipeD τ vs) (l.drop i) acc fun acc => R (.lst acc),
    ⟨_, Nat.zero_le _, rfl, start, r0.shut hD, [], [], upd_same, .nil, Nat.le_refl _, h⟩, ?_⟩
  rintro i m H ⟨hi, rfl, ex, rl, va, acc, hva, iva, lva, h⟩
  by_cases hlt : i < l.length
  · obtain ⟨go, y⟩ := wd.step i H (D0 :: F) ex.toF (fun z => (z.more mo).mono ex.kp) rl.pkf hlt
    refine .inr ⟨go, fun H' => Ex p H1 H' ∧ Rel K p g0 (D0 :: F) (wipe σ vs) H' (wipeD τ vs) ∧ ∃ va acc, H' D0 = some (.lst va) ∧ IsL K p (D0 :: F) H' va acc ∧ acc.length ≤ i + 1 ∧ dLcGo g tt te (wipeD τ vs) (l.drop (i + 1)) acc fun acc => R (.lst acc), fun H' ⟨q1, q2, q3⟩ => ⟨_, by omega, hlt, rfl, q1, q2, q3⟩, fun x H2 yl => ?_⟩
    obtain ⟨e2, d, hd, hx⟩ := y x H2 yl
    rw [drop_at hd] at h
    refine hg x d g0 (D0 :: F) _ H2 _ _ _ (rl.st e2) hx h fun σ3 H3 τ3 e3 rel3 w3 h3 => ⟨by rw [w3, wipe_idem], ?_⟩
    refine ht g0 (D0 :: F) σ3 H3 τ3 _ _ rel3 h3 fun b H4 e4 h4 => ?_
    have e24 := (e2.trans e3).trans e4
    have ex4 := ex.trans e24
    have nDp : D0 ≠ p.pot := nD.1
    have hva4 : H4 D0 = some (.lst va) := e24.kp _ _ nDp (fun _ z => nomatch z) hva
    cases b with
    | true =>
      rw [if_pos rfl] at h4 ⊢
      refine ⟨g0, D0 :: F, τ3, _, rel3.st e4, h4, fun z v H5 e5 i5 h5 => ?_⟩
      have hva5 : H5 D0 = some (.lst va) := e5.kp _ _ nDp (fun _ z => nomatch z) hva4
      have len := iva.len
      have rl5 := (rl.st e24).st e5
      obtain ⟨rw5, isk⟩ := rl5.wrote List.mem_cons_self hva5 hgD ho (xs := va ++ [v])
      refine ⟨va, hva5, ?_, ?_, rw5, va ++ [v], acc ++ [z], upd_same, (((iva.mono e24.kp).mono e5.kp).app (.cons i5 .nil)).all isk, by rw [List.length_append]; simp; omega, h5⟩
      · have : sizeLine = 16777216 := sizeLine_eq
        omega
      · have ex5 := ex4.trans e5
        exact ⟨fun b o nb t e => by rw [upd_ne (ne_of_none e hD)]; exact ex5.kp b o nb t e, rw5.pk⟩
    | false =>
      rw [if_neg Bool.false_ne_true] at h4 ⊢
      exact ⟨ex4, rl.st e24, va, acc, hva4, iva.mono e24.kp, by omega, h4⟩
  · have e : i = l.length := by omega
    subst e
    rw [List.drop_length] at h
    exact .inl ⟨wd.stop H ex.toF, q _ _ H ex (.lst (Rd.of hva) nD (iva.less fun b hb => List.mem_cons_of_mem _ hb)) h⟩
end
def dGenGo (c : Bool) (g : DG) (te : DE) (τ : Sl) : List D → (Bool → Prop) → Prop
  | [], R => R c
  | x :: r, R => g x τ fun τ2 => te τ2 fun y => match y with
    | .bl b => if b = c then dGenGo c g te τ r R else R (!c)
    | _ => False
def dGen (c : Bool) (it : DI) (g : DG) (te : DE) (own : List Nat) : DE := fun τ R => it τ fun l => dGenGo c g te (wipeD τ own) l fun b => R (.bl b)
section
variable {X : Cx} {p : Qt}
theorem Room.gx {k : Nat} {A : Around} {ge : Env} (r : Room (k + 1) A) : Room k (A.in1.in1.deeper ge) :=
  ⟨r.hd, by have := r.dp; show A.depth + 1 + 3 * k + 5 < _; omega, by have := r.un; show A.units + 1 + 1 + 3 + 16 * k + 200 < _; omega⟩
end
structure PCh (X : Cx) (p : Qt) (ops : List CmpOp) (es : List Expr) (d : D → DE) : Prop where
  run : ∀ (pos : Pos) (pins : List (Addr × Obj)) (s : Shared) (g0 : Gd) (F : List Addr) (σ : L2.St) (H : Hp) (τ : Sl) (v : V) (u : Value) (x : D) (Q : VK) (R : D → Prop), Inv X pins σ H s → Rel X.K p g0 F σ H τ → RelV v u → Is X.K p F H v x → d x τ R → (∀ z v' H', Ex p H H' → Is X.K p F H' v' z → R z → Q v' H') →
    wpAny (model X.prog X.w) X.A (compareChain pos u ops (evalEach es X.env)) (EP X pins σ Q) X.xe s
structure PCt (X : Cx) (p : Qt) (ops : List CmpOp) (es : List Expr) (d : D → DT) : Prop where
  run : ∀ (pos : Pos) (pins : List (Addr × Obj)) (s : Shared) (g0 : Gd) (F : List Addr) (σ : L2.St) (H : Hp) (τ : Sl) (v : V) (u : Value) (x : D) (Q : Bool → Hp → Prop) (R : Bool → Prop), Inv X pins σ H s → Rel X.K p g0 F σ H τ → RelV v u → Is X.K p F H v x → d x τ R → (∀ b H', Ex p H H' → R b → Q b H') →
    wpAny (model X.prog X.w) X.A (testChain pos u ops (evalEach es X.env)) (TP X pins σ Q) X.xe s
def cLast (g : D → D → (D → Prop) → Prop) (dc : DE) : D → DE := fun x τ R => dc τ fun w => g x w R
def cLink (g : D → D → (D → Prop) → Prop) (db : DE) (d : D → DE) : D → DE := fun x τ R => db τ fun y => g x y fun z => match z with
  | .bl k => if k = true then d y τ R else R (.bl false)
  | _ => False
def tLast (g : D → D → (D → Prop) → Prop) (dc : DE) : D → DT := fun x τ R => dc τ fun w => g x w fun z => match z with
  | .bl k => R k
  | _ => False
def tLink (g : D → D → (D → Prop) → Prop) (db : DE) (d : D → DT) : D → DT := fun x τ R => db τ fun y => g x y fun z => match z with
  | .bl k => if k = true then d y τ R else R false
  | _ => False
def dCh (da : DE) (d : D → DE) : DE := fun τ R => da τ fun x => d x τ R
def dCt (da : DE) (d : D → DT) : DT := fun τ R => da τ fun x => d x τ R
section
variable {X : Cx} {p : Qt} {a b : Expr} {da db : DE} {op op' : CmpOp} {ops : List CmpOp} {es : List Expr} {e' : Expr} {g : D → D → (D → Prop) → Prop} {pos : Pos}
theorem pch_last (ho : OpD X p (compareOp op) g) (hb : PD X p b db) : PCh X p [op] [b] (cLast g db) := by
  obtain ⟨r, h1, h2⟩ := ho
  refine ⟨fun pos pins s g0 F σ H τ v u x Q R I rel rv iv h q => chain_last (thn (hb.pe.run pins s σ H (fun v' H' => r v v' H' Q) I ⟨g0, F, τ, _, rel, h, fun y v' H1 e1 i1 k1 => h2 F H1 x y v v' Q R (rel.st e1).pkf (iv.mono e1.kp) i1 k1 fun z v2 H2 e2 i2 k2 => q z v2 H2 (e1.trans e2) i2 k2⟩) ?_)⟩
  rintro u2 s2 ⟨v2, H2, I2, r2, k2⟩
  exact h1 pins s2 σ H2 v v2 u u2 Q I2 rv r2 k2
theorem pch_cons {d : D → DE} (ho : OpD X p (compareOp op) g) (hb : PD X p b db) (ht : PCh X p (op' :: ops) (e' :: es) d) : PCh X p (op :: op' :: ops) (b :: e' :: es) (cLink g db d) := by
  obtain ⟨r, h1, h2⟩ := ho
  refine ⟨fun pos pins s g0 F σ H τ v u x Q R I rel rv iv h q => chain_link (thn (hb.pe.run pins s σ H (fun v' H' => ∃ y, Ex p H H' ∧ Is X.K p F H' v' y ∧ r v v' H' fun z H2 => ∃ k, z = .bl k ∧ Ex p H H2 ∧ Is X.K p F H2 v' y ∧ (if k = true then d y τ R else R (.bl false))) I ⟨g0, F, τ, _, rel, h, fun y v' H1 e1 i1 k1 => ⟨y, e1, i1, h2 F H1 x y v v' _ _ (rel.st e1).pkf (iv.mono e1.kp) i1 k1 fun z v2 H2 e2 i2 k2 => ?_⟩⟩) ?_)⟩
  · cases i2 with
    | bl k => exact ⟨k, rfl, e1.trans e2, i1.mono e2.kp, k2⟩
    | _ => exact k2.elim
  · rintro u2 s2 ⟨v2, H2, I2, r2, y, e2, i2, k2⟩
    refine thn (h1 pins s2 σ H2 v v2 u u2 _ I2 rv r2 k2) ?_
    rintro u3 s3 ⟨v3, H3, I3, r3, k, rfl, e3, i3, k3⟩
    cases r3
    refine wpAny_truthy_bool ?_
    cases k with
    | false =>
      rw [if_neg Bool.false_ne_true] at k3 ⊢
      exact ⟨.bl false, H3, I3, rfl, q _ _ H3 e3 (.bl false) k3⟩
    | true =>
      rw [if_pos rfl] at k3 ⊢
      exact ht.run pos pins s3 g0 F σ H3 τ v2 u2 y Q R I3 (rel.st e3) r2 i3 k3 fun z v' H' e i rr => q z v' H' (e3.trans e) i rr
theorem pct_last (ho : OpD X p (compareOp op) g) (hb : PD X p b db) : PCt X p [op] [b] (tLast g db) := by
  obtain ⟨r, h1, h2⟩ := ho
  refine ⟨fun pos pins s g0 F σ H τ v u x Q R I rel rv iv h q => test_last (thn (hb.pe.run pins s σ H (fun v' H' => r v v' H' fun z H2 => ∃ k, z = .bl k ∧ Q k H2) I ⟨g0, F, τ, _, rel, h, fun y v' H1 e1 i1 k1 => h2 F H1 x y v v' _ _ (rel.st e1).pkf (iv.mono e1.kp) i1 k1 fun z v2 H2 e2 i2 k2 => ?_⟩) ?_)⟩
  · cases i2 with
    | bl k => exact ⟨k, rfl, q k H2 (e1.trans e2) k2⟩
    | _ => exact k2.elim
  · rintro u2 s2 ⟨v2, H2, I2, r2, k2⟩
    refine thn (h1 pins s2 σ H2 v v2 u u2 _ I2 rv r2 k2) ?_
    rintro u3 s3 ⟨v3, H3, I3, r3, k, rfl, k3⟩
    cases r3
    exact wpAny_truthy_bool ⟨H3, I3, k3⟩
theorem pct_cons {d : D → DT} (ho : OpD X p (compareOp op) g) (hb : PD X p b db) (ht : PCt X p (op' :: ops) (e' :: es) d) : PCt X p (op :: op' :: ops) (b :: e' :: es) (tLink g db d) := by
  obtain ⟨r, h1, h2⟩ := ho
  refine ⟨fun pos pins s g0 F σ H τ v u x Q R I rel rv iv h q => test_link (thn (hb.pe.run pins s σ H (fun v' H' => ∃ y, Ex p H H' ∧ Is X.K p F H' v' y ∧ r v v' H' fun z H2 => ∃ k, z = .bl k ∧ Ex p H H2 ∧ Is X.K p F H2 v' y ∧ (if k = true then d y τ R else R false)) I ⟨g0, F, τ, _, rel, h, fun y v' H1 e1 i1 k1 => ⟨y, e1, i1, h2 F H1 x y v v' _ _ (rel.st e1).pkf (iv.mono e1.kp) i1 k1 fun z v2 H2 e2 i2 k2 => ?_⟩⟩) ?_)⟩
  · cases i2 with
    | bl k => exact ⟨k, rfl, e1.trans e2, i1.mono e2.kp, k2⟩
    | _ => exact k2.elim
  · rintro u2 s2 ⟨v2, H2, I2, r2, y, e2, i2, k2⟩
    refine thn (h1 pins s2 σ H2 v v2 u u2 _ I2 rv r2 k2) ?_
    rintro u3 s3 ⟨v3, H3, I3, r3, k, rfl, e3, i3, k3⟩
    cases r3
    refine wpAny_truthy_bool ?_
    cases k with
    | false =>
      rw [if_neg Bool.false_ne_true] at k3 ⊢
      exact ⟨H3, I3, q _ H3 e3 k3⟩
    | true =>
      rw [if_pos rfl] at k3 ⊢
      exact ht.run pos pins s3 g0 F σ H3 τ v2 u2 y Q R I3 (rel.st e3) r2 i3 k3 fun z H' e rr => q z H' (e3.trans e) rr
theorem pd_chainN {d : D → DE} (ha : PD X p a da) (ht : PCh X p (op :: op' :: ops) (b :: e' :: es) d) (hm : lastMarks (op :: op' :: ops) (b :: e' :: es) = false := by with_unfolding_all rfl) : PD X p (.Compare a (op :: op' :: ops) (b :: e' :: es) pos) (dCh da d) := by
  refine ⟨liftE X.K p (dCh da d), ⟨fun pins s σ H Q I hq => ?_⟩, fun g0 F σ H τ Q R rel h q => ⟨g0, F, τ, R, rel, h, q⟩⟩
  obtain ⟨g0, F, τ, R, rel, h, q⟩ := hq
  refine Compare_chain (thn (ha.pe.run pins s σ H (fun v' H' => ∃ x, Ex p H H' ∧ Is X.K p F H' v' x ∧ d x τ R) I ⟨g0, F, τ, _, rel, h, fun x v' H1 e1 i1 k1 => ⟨x, e1, i1, k1⟩⟩) ?_) hm
  rintro u1 s1 ⟨v1, H1, I1, r1, x, e1, i1, k1⟩
  exact ht.run pos pins s1 g0 F σ H1 τ v1 u1 x Q R I1 (rel.st e1) r1 i1 k1 fun z v' H' e i rr => q z v' H' (e1.trans e) i rr
theorem pdt_chainN {d : D → DT} (ha : PD X p a da) (ht : PCt X p (op :: op' :: ops) (b :: e' :: es) d) (hm : lastMarks (op :: op' :: ops) (b :: e' :: es) = false := by with_unfolding_all rfl) : PDT X p (.Compare a (op :: op' :: ops) (b :: e' :: es) pos) (dCt da d) := by
  refine ⟨liftT X.K p (dCt da d), ⟨fun pins s σ H Q I hq => ?_⟩, fun g0 F σ H τ Q R rel h q => ⟨g0, F, τ, R, rel, h, q⟩⟩
  obtain ⟨g0, F, τ, R, rel, h, q⟩ := hq
  refine isTrue_chain (thn (ha.pe.run pins s σ H (fun v' H' => ∃ x, Ex p H H' ∧ Is X.K p F H' v' x ∧ d x τ R) I ⟨g0, F, τ, _, rel, h, fun x v' H1 e1 i1 k1 => ⟨x, e1, i1, k1⟩⟩) ?_) hm
  rintro u1 s1 ⟨v1, H1, I1, r1, x, e1, i1, k1⟩
  exact ht.run pos pins s1 g0 F σ H1 τ v1 u1 x Q R I1 (rel.st e1) r1 i1 k1 fun z H' e rr => q z H' (e1.trans e) rr
end
end DL
namespace DL
open PySem PySem.Spec L2
open PyProof.Rows hiding St
section
variable {X : Cx} {p : Qt}
def gIs : D → D → (D → Prop) → Prop := fun x y R => match y with
  | .non => R (.bl (isNon x))
  | .bl b => match x with
    | .bl a => R (.bl (decide (a = b)))
    | _ => False
  | _ => False
def gIsNot : D → D → (D → Prop) → Prop := fun x y R => match y with
  | .non => R (.bl (!isNon x))
  | .bl b => match x with
    | .bl a => R (.bl (!decide (a = b)))
    | _ => False
  | _ => False
def gIn : D → D → (D → Prop) → Prop := fun x y R => match y with
  | .lst l => (shp 60 x = true ∧ shp 60 (.lst l) = true) ∧ R (.bl (l.any fun z => PyData.eqv (toP z) (toP x)))
  | _ => False
def gNotIn : D → D → (D → Prop) → Prop := fun x y R => match y with
  | .lst l => (shp 60 x = true ∧ shp 60 (.lst l) = true) ∧ R (.bl (!l.any fun z => PyData.eqv (toP z) (toP x)))
  | _ => False
def cTuple : List D → (D → Prop) → Prop := fun xs R => match xs with
  | [.lst l] => R (.tup l)
  | [.tup l] => R (.tup l)
  | _ => False
def cList : List D → (D → Prop) → Prop := fun xs R => match xs with
  | [.lst l] => R (.lst l)
  | [.tup l] => R (.lst l)
  | _ => False
def cutD (l : List D) (lo hi : Option Int) : List D := (l.drop (HT.sIx l.length 0 lo)).take (HT.sIx l.length l.length hi - HT.sIx l.length 0 lo)
abbrev DO := Sl → (Option Int → Prop) → Prop
structure PDO (X : Cx) (p : Qt) (e : Option Expr) (d : DO) : Prop where
  run : ∃ t, PO X e t ∧ ∀ (g0 : Gd) (F : List Addr) (σ : L2.St) (H : Hp) (τ : Sl) (Q : Option Int → Hp → Prop) (R : Option Int → Prop), Rel X.K p g0 F σ H τ → d τ R → (∀ x H', Ex p H H' → R x → Q x H') → t σ H Q
def oNone : DO := fun _ R => R none
def oSome (d : DE) : DO := fun τ R => d τ fun x => match x with
  | .int i => R (some i)
  | _ => False
theorem pdo_none : PDO X p none oNone := ⟨_, po_none, fun g0 F σ H τ Q R rel h q => q _ H (.refl rel.pk) h⟩
theorem pdo_some {e : Expr} {d : DE} (he : PD X p e d) : PDO X p (some e) (oSome d) := by
  obtain ⟨t, h1, h2⟩ := he.run
  refine ⟨_, po_some h1, fun g0 F σ H τ Q R rel h q => ?_⟩
  refine h2 g0 F σ H τ _ _ rel h fun x v H' e i r => ?_
  cases i with
  | int i => exact ⟨i, rfl, q _ H' e r⟩
  | _ => exact r.elim
theorem IsL.cut {K : PySem.W.Frag} {F : List Addr} {H : Hp} {vs : List V} {l : List D} (h : IsL K p F H vs l) (lo hi : Option Int) : IsL K p F H (cutV vs lo hi) (cutD l lo hi) := by
  unfold cutV cutD
  rw [h.len]
  exact (h.drop _).take _
def gSl (d : DE) (lo hi : DO) : DE := fun τ R => d τ fun x => lo τ fun a => hi τ fun b => match x with
  | .tup l => R (.tup (cutD l a b))
  | .lst l => R (.lst (cutD l a b))
  | _ => False
def gMt (g : List D → List D → (D → Prop) → Prop) (d : DE) (ds : DA) : DE := fun τ R => d τ fun x => match x with
  | .lst l => ds τ fun xs => g l xs R
  | _ => False
def firstI (n : Int) : List Int → Nat
  | [] => 0
  | m :: l => if m = n then 0 else firstI n l + 1
def gIndex : List D → List D → (D → Prop) → Prop := fun l xs R => match xs with
  | [.int n] => match intsOf l with
    | some ns => n ∈ ns ∧ R (.int (firstI n ns))
    | none => False
  | _ => False
end
end DL
namespace DL
open PySem PySem.Spec L2
open PyProof.Rows hiding St
def onlyAt (a : Addr) (vs : List Value) (ns : List Int) (ts : List Addr) (sc : Bool) : Hp := fun b => if b ∈ ts then some (.tbl #[]) else if sc = true ∧ b = a then some (.frz { cls := .type "list", data := .seq vs.toArray } (.lst (ns.map V.int))) else none
theorem callTop {P : Program} {w : World} {K : PySem.W.Frag} {mg mb : Str → Option Value} {k : Nat} {fa a : Addr} {fd : FuncData} {x : Str} {sp : Sp} {s : Shared} {vs : List Value} {ns : List Int} {cs : List (Addr × Addr)}
    (inK : K.In s.heap) (gl : s.heap.Ns mainGlobals mg) (bl : s.heap.Ns builtinsNs mb) (ble : ∀ x : Str, x ≠ "__name__" → mb x = bootBuiltins x) (lim : s.heap.NoLimit) (gens : s.gens = #[])
    (tabs : ∀ q ∈ cs, s.heap.get? q.2 = some { cls := .none, data := .fields #[] } ∧ K.lookup q.2 = none ∧ PySem.W.CodeHd s.heap q.1 q.2)
    (bmain : ∃ (bm : Addr) (ob : Obj), mg "__builtins__" = some (.ref bm) ∧ bm ≠ builtinsNs ∧ s.heap.get? bm = some ob ∧ ob.cls = .type "module" ∧ ob.dict = some builtinsNs ∧ ob.data = .plain)
    (obj : s.heap.get? a = some { cls := .type "list", data := .seq vs.toArray }) (isI : IntsAre vs ns) (len : ns.length ≤ sizeLine) (room : Room k callerA)
    (F : ∀ base : Heap, K.In base → base.Ns mainGlobals mg → (∀ q ∈ cs, GxR.TabB base mg q.1 q.2) → FnG P w K mg base CX0 k fa fd [x] sp) (bind : ∀ (s : Shared) (u : Value), BindsTo s fd ⟨[u], []⟩ [(x, u)])
    (prom : ∀ H : Hp, (∀ q ∈ cs, H q.2 = some (.tbl #[])) → SqL K H a (ns.map V.int) → sp [.ref a] H (fun v _ => v = .bl true) fun _ _ _ => False) :
    codeAny (model P w) callerA (.call (.ref fa) ⟨[.ref a], []⟩) (fun r s' => r = .ok (.ret (.bool true)) ∧ OldK s.heap s'.heap ∧ s'.os = s.os ∧ AllBare s'.gens) s := by
  have vals := vals_ints isI
  -- where the tables stand
  generalize hts : cs.map (·.2) = ts
  have inT : ∀ q ∈ cs, q.2 ∈ ts := fun q hq => by rw [← hts]; exact List.mem_map.mpr ⟨q, hq, rfl⟩
  have ofT : ∀ b ∈ ts, s.heap.get? b = some { cls := .none, data := .fields #[] } ∧ K.lookup b = none := fun b hb => by
    rw [← hts] at hb
    obtain ⟨q, hq, e⟩ := List.mem_map.mp hb
    rw [← e]
    exact ⟨(tabs q hq).1, (tabs q hq).2.1⟩
  have nT : a ∉ ts := fun z => by
    have := (ofT a z).1
    rw [obj] at this
    have z' := congrArg Obj.data (Option.some.inj this)
    exact nomatch (show Data.seq vs.toArray _ = Data.fields #[] from z')
  suffices main : ∀ sc : Bool, SqL K (onlyAt a vs ns ts sc) a (ns.map V.int) → (sc = true → K.lookup a = none) →
      codeAny (model P w) callerA (.call (.ref fa) ⟨[.ref a], []⟩) (fun r s' => r = .ok (.ret (.bool true)) ∧ OldK s.heap s'.heap ∧ s'.os = s.os ∧ AllBare s'.gens) s by
    by_cases hk : K.lookup a = none
    · refine main true (.inl (.inr ⟨{ cls := .type "list", data := .seq vs.toArray }, ?_⟩)) fun _ => hk
      unfold onlyAt
      rw [if_neg nT, if_pos ⟨rfl, rfl⟩]
    · obtain ⟨o, ho⟩ := Option.ne_none_iff_exists'.mp hk
      have same := inK a o ho
      rw [obj] at same
      cases same
      have lv := isI.length
      refine main false (.inr ⟨_, vs.toArray, _, ho, rfl, rfl, rfl, ?_, ?_⟩) fun z => nomatch z
      · rw [List.size_toArray, lv]
        exact len
      · simpa using vals
  intro sc hS hsc
  generalize hH : onlyAt a vs ns ts sc = H at hS
  have look : ∀ b u, H b = some u → (b ∈ ts ∧ u = .tbl #[]) ∨ (b = a ∧ sc = true ∧ u = .frz { cls := .type "list", data := .seq vs.toArray } (.lst (ns.map V.int))) := fun b u e => by
    rw [← hH] at e
    unfold onlyAt at e
    split at e
    · cases e
      exact .inl ⟨by assumption, rfl⟩
    · split at e
      · rename_i q
        cases e
        exact .inr ⟨q.2, q.1, rfl⟩
      · cases e
  have tabH : ∀ b ∈ ts, H b = some (.tbl #[]) := fun b hb => by
    rw [← hH]
    unfold onlyAt
    rw [if_pos hb]
  have ok : HOk P w H s.heap := fun b u e => by
    rcases look b u e with ⟨h1, rfl⟩ | ⟨rfl, _, rfl⟩
    · exact (ofT b h1).1
    · exact ⟨obj, by rw [List.length_map]; exact len, vs, _, vals, obj⟩
  -- an object of another form is not tracked
  have free : ∀ {b : Addr} {o : Obj}, s.heap.get? b = some o → o.data ≠ .fields #[] → (∀ n, o.data ≠ .seq vs.toArray n) → H b = none := fun {b o} e h1 h2 => by
    cases z : H b with
    | none => rfl
    | some u =>
      rcases look b u z with ⟨h, _⟩ | ⟨rfl, _⟩
      · rw [(ofT b h).1] at e
        cases e
        exact absurd rfl h1
      · rw [obj] at e
        cases e
        exact absurd rfl (h2 _)
  have dict : ∀ {b : Addr} {m : Str → Option Value}, s.heap.Ns b m → (hidT s.heap H).Ns b m := by
    rintro b m ⟨o, es, ep, e, d, r⟩
    exact ⟨o, es, ep, hidT_get e (free e (by rw [d]; exact fun z => nomatch z) (by intro n; rw [d]; exact fun z => nomatch z)), d, r⟩
  have kin : K.In (hidT s.heap H) := fun b o e => hidT_get (inK b o e) (by
    cases z : H b with
    | none => rfl
    | some u =>
      rcases look b u z with ⟨h, _⟩ | ⟨rfl, h, _⟩
      · rw [(ofT b h).2] at e
        cases e
      · rw [hsc h] at e
        cases e)
  have mod : Mod K mg (hidT s.heap H) := ⟨kin, dict gl, ⟨mb, dict bl, ble⟩, by
    obtain ⟨mc, h1, h2⟩ := lim
    exact ⟨mc, dict h1, h2⟩⟩
  have e0 : Env0 P w K mg (hidT s.heap H) callerA [] s H := ⟨rfl, mod, fun b o e => of_hidT e, Nat.le_of_eq (hidT_size _ _), trivial, fun b z => absurd (show b ∈ ([] : List Addr) from z) List.not_mem_nil, ok, .of_eq gens⟩
  have TB : ∀ q ∈ cs, GxR.TabB (hidT s.heap H) mg q.1 q.2 := fun q hq => by
    obtain ⟨hP, _, C⟩ := tabs q hq
    obtain ⟨og, es, ep, eg, dg, _⟩ := id gl
    refine ⟨?_, ?_, fun z => ?_⟩
    · obtain ⟨o, us, file, tf, flags, tg, inF, text, tt, e1, r1, r2, r3, rest⟩ := C
      refine ⟨o, us, file, tf, flags, tg, inF, text, tt, hidT_get e1 (free e1 (fun z => ?_) fun n z => ?_), r1, r2, r3, rest⟩
      · rw [r2] at z
        cases z
        simp at r3
      · rw [r2] at z
        cases z
    · obtain ⟨bm, ob, b1, b2, b3, b4, b5, b6⟩ := bmain
      refine ⟨bm, ob, b1, b2, fun z => ?_, fun z => ?_, hidT_get b3 (free b3 (fun z => ?_) fun n z => ?_), b4, b5, b6⟩
      · rw [z, eg] at b3
        cases b3
        rw [dg] at b6
        cases b6
      · rw [z, hP] at b3
        cases b3
        cases b6
      · rw [b6] at z
        cases z
      · rw [b6] at z
        cases z
    · rw [z, hP] at eg
      cases eg
      cases dg
  refine codeAny_mono ((F _ kin (dict gl) TB).go callerA [] s H ⟨[.ref a], []⟩ [.ref a] [.ref a] _ _ rfl room e0 (bind s (.ref a)) (.cons rfl .nil) (prom H (fun q hq => tabH _ (inT q hq)) hS)) ?_
  rintro r s' out
  match r, out with
  | .error _, o => exact False.elim o
  | .ok .next, o => exact False.elim o
  | .ok .brk, o => exact False.elim o
  | .ok .cont, o => exact False.elim o
  | .ok (.ret u), o =>
    obtain ⟨v, H', os, bare, un, ok', rv, ev⟩ := o
    have ev : v = .bl true := ev
    subst ev
    cases rv
    have key : ∀ b o, b ∉ ts → s.heap.get? b = some o → s'.heap.get? b = some o := fun b o nb e => by
      cases z : H b with
      | none => exact un.keep b o e z (fun m => absurd (show b ∈ ([] : List Addr) from m) List.not_mem_nil) (fun m => absurd (show b ∈ ([] : List Addr) from m) List.not_mem_nil)
      | some u =>
        rcases look b u z with ⟨h, _⟩ | ⟨rfl, _, rfl⟩
        · exact absurd h nb
        · obtain ⟨e2, _⟩ := ok' b _ (un.frzs b _ _ z)
          rw [obj] at e
          cases e
          exact e2
    have grown : ∀ b ∈ ts, ∃ more : Array Value, s'.heap.get? b = some { cls := .none, data := .fields more } := fun b hb => by
      obtain ⟨more, z⟩ := un.tbls b #[] (tabH b hb)
      exact ⟨_, ok' b _ z⟩
    refine ⟨rfl, ⟨fun b o e => ?_, fun b o e => ?_⟩, os, bare⟩
    · by_cases hb : b ∈ ts
      · obtain ⟨more, hm⟩ := grown b hb
        have h1 := (ofT b hb).1
        rw [h1] at e
        cases e
        rw [← hts] at hb
        obtain ⟨q, hq, eq⟩ := List.mem_map.mp hb
        obtain ⟨hP, _, C⟩ := tabs q hq
        rw [← eq] at hm ⊢
        exact .inr (.inl ⟨(C.tab hP).isCodeTable, rfl, #[], more, rfl, by rw [Array.empty_append]; exact hm⟩)
      · exact .inl (key b o hb e)
    · by_cases hb : b ∈ ts
      · obtain ⟨more, hm⟩ := grown b hb
        exact ⟨_, hm⟩
      · exact ⟨o, key b o hb e⟩
def OwnTab (K : PySem.W.Frag) (mg : Str → Option Value) (h : Heap) (nm : Str) : Prop := ∀ (f c P : Addr) (o : Obj) (fd : FuncData) (e : Value) (dd : Option Addr) (vs : Array Value) (sl : Array (Option Value)), mg nm = some (.ref f) → K.lookup f = some o → o.data = .func fd → fd.code = .ref c →
  K.lookup c = some ⟨e, dd, .fields vs, sl⟩ → vs[11]? = some (.ref P) → h.get? P = some { cls := .none, data := .fields #[] } ∧ PySem.W.CodeHd h c P
end DL
namespace DL
open PySem PySem.Spec L2
open PyProof.Rows hiding St
theorem _root_.L2.Room.u65 {k : Nat} {A : Around} (r : Room k A) : A.units + 65 < cLine := by have := r.un; omega
theorem Cal.cal {P : Program} {w : World} {K : PySem.W.Frag} {mg : Str → Option Value} {base : Heap} {tabs : Tf} {x : Str} {k n : Nat} {ps : List Str} {kb : List (List Str × Nat × List Nat)} {sp : SpD} {p : Qt} (C : Cal P w K mg base tabs x k n ps kb sp) (h : p.tf = tabs) : Cal P w K mg base p.tf x k n ps kb sp := by
  rw [h]
  exact C
section
variable {X : Cx} {p : Qt} {pos : Pos}
theorem pds_setLc {i : Nat} {y : Str} {py spos : Pos} {elt tg iter : Expr} {scope : Scope} {own : List (Str × Nat)} {it : DI} {g : DG} {te : DE} {t : TG} (hc : X.calm = true) (hN : X.N.Nodup) (hy : X.N[i]? = some y) (hyl : X.env.scope.names.lookup y = some .local)
    (hi : PDI X p tg iter it) (ok : blkC X.N X.env.scope scope own = true)
    (hg : ∀ (s : Shared) (H : Hp) (C : Addr) (cl : List (Str × Addr)) (fp : List Addr), PDGw (X.blk s H scope (compEnvC scope cl C X.env) fp) p (own.map (·.2)) tg g t)
    (he : ∀ (s : Shared) (H : Hp) (C : Addr) (cl : List (Str × Addr)) (fp : List Addr), PD (X.blk s H scope (compEnvC scope cl C X.env) fp) p elt te) (sh : Shared)
    (hsw : swapsWith (.ListComp elt [⟨tg, iter, [], 0⟩] scope pos) (some (.Name y py)) spos.line X.env = pure true := by rfl) (hs : ∀ x, foldedSetIterable iter X.env x = pure x := by intro _; rfl) :
    PDS X p (.Assign [.Name y py] (.ListComp elt [⟨tg, iter, [], 0⟩] scope pos) spos) (dAsg (dLc it g dYes te (own.map (·.2))) (gN i)) := by
  obtain ⟨wi, i1, i2⟩ := hi.run
  refine ⟨_, ps_setLc (te := liftE X.K p te) hc hN hy hyl hsw i1 (blkOk_by ok) (fun s H C cl fp => (hg s H C cl fp).pg) (fun _ _ _ _ _ => pts_nil) (fun s H C cl fp => (he s H C cl fp).pe) hs, fun g0 F σ H τ E E' rel h ag => ?_⟩
  refine i2 g0 F σ H τ _ _ rel h fun J H1 l e1 wd h1 => ?_
  intro D0 hD
  exact lc_run (K := X.K) (tt := dYes) hD wd h1.1.few (rel.st e1) (hg sh H 0 [] []).go (fun g0 F σ H τ Q R rel h q => q true H (.refl rel.pk) h) h1.2 fun x v H' e i r => ag.nx F _ H' _ ((rel.st (e1.trans e)).set i) r
end
def ivD (q : Int × Int) : D := .tup [.int q.1, .int q.2]
theorem forInv {g : DG} {body : DS} {E : DEn} (I : Nat → Sl → Prop) (l : List D) (τ : Sl) (h0 : I 0 τ)
    (step : ∀ (k : Sl → Prop) (i : Nat) (x : D) (τ : Sl), l[i]? = some x → (∀ τ', I (i + 1) τ' → k τ') → I i τ → g x τ fun τ2 => body { nx := k, rt := E.rt, bk := E.nx, ct := k } τ2)
    (fin : ∀ τ, I l.length τ → E.nx τ) : dForGo g body E l τ := by
  have key : ∀ (r : List D) (i : Nat) (τ : Sl), l.drop i = r → i ≤ l.length → I i τ → dForGo g body E r τ := by
    intro r
    induction r with
    | nil =>
      intro i τ e hi h
      have : l.length ≤ i := by
        have := congrArg List.length e
        rw [List.length_drop, List.length_nil] at this
        omega
      have e2 : i = l.length := by omega
      subst e2
      exact fin τ h
    | cons x r ih =>
      intro i τ e hi h
      have hlt : i < l.length := by
        have := congrArg List.length e
        rw [List.length_drop, List.length_cons] at this
        omega
      rw [List.drop_eq_getElem_cons hlt] at e
      injection e with e1 e2
      exact step _ i x τ (by rw [List.getElem?_eq_getElem hlt, e1]) (fun τ' h' => ih (i + 1) τ' e2 hlt h') h
  exact key l 0 τ rfl (Nat.zero_le _) h0
theorem whileI {c : DT} {body : DS} {E : DEn} (W : Nat → Sl → Prop) (m : Nat) (τ : Sl) (h0 : W m τ)
    (step : ∀ (m : Nat) (τ : Sl) (k : Sl → Prop), (∀ τ' m', m' < m → W m' τ' → k τ') → W m τ → c τ fun b => if b = true then body { nx := k, rt := E.rt, bk := E.nx, ct := k } τ else E.nx τ) : dWhile c body E τ :=
  ⟨W, ⟨m, h0⟩, fun m τ h => step m τ _ (fun τ' m' h1 h2 => ⟨m', h1, h2⟩) h⟩
theorem ifN {c A : Prop} [Decidable c] (h : ¬ c) (k : A) : if c then False else A := by rw [if_neg h]; exact k
theorem ite2P {c : Prop} [Decidable c] {A B : Prop} (h1 : c → A) (h2 : ¬ c → B) : if c then A else B := by
  by_cases h : c
  · rw [if_pos h]; exact h1 h
  · rw [if_neg h]; exact h2 h
theorem zipD_map {α β : Type} (c : α → D) (c' : β → D) : ∀ (l : List α) (m : List β), zipD (l.map c) (m.map c') = (l.zip m).map fun q => .tup [c q.1, c' q.2]
  | [], _ => by simp [zipD]
  | _ :: _, [] => by simp [zipD]
  | x :: l, y :: m => by
    simp only [List.map_cons, zipD, List.zip_cons_cons]
    rw [zipD_map c c' l m]
theorem eqv_self {d : D} (h : shp 60 d = true) : PyData.eqv (toP d) (toP d) = true := PySem.SeqAt.eqv_refl _ ((shp_all 60).1 d h).2.1
theorem gNe_self {d : D} {R : D → Prop} (h : shp 60 d = true) (k : R (.bl false)) : gNe d d R := by
  unfold gNe
  split
  · simpa using k
  · simpa using k
  · simpa using k
  · exact ⟨⟨h, h⟩, by rw [eqv_self h]; exact k⟩
theorem em0 {a n : Int} (h : 0 < n) : 0 ≤ a % n := Int.emod_nonneg a (by omega)
theorem em1 {a n : Int} (h : 0 < n) : a % n < n := Int.emod_lt_of_pos a h
theorem ed0 {a n : Int} (h : 0 ≤ a) (h1 : 0 < n) : 0 ≤ a / n := Int.ediv_nonneg h (by omega)
theorem pot_lo {a n : Int} (h : 0 < n) : 0 ≤ a % n + 1 := by have := em0 (a := a) h; omega
theorem pot_hi {a n : Int} (h : 0 < n) (h2 : n < 4294967295) : a % n + 1 < 4294967296 := by have := em1 (a := a) h; omega
theorem small_log {i : Int} (h0 : -1606938044258990275541962092341162602522202993782792835301376 < i) (h1 : i < 1606938044258990275541962092341162602522202993782792835301376) : i.natAbs.log2 < 1920 := by
  have e : (2 : Nat) ^ 200 = 1606938044258990275541962092341162602522202993782792835301376 := by decide +kernel
  exact Nat.lt_of_lt_of_le (PySem.Flt.log2_lt_of (k := 200) (by decide) (by rw [e]; omega)) (by decide)
end DL
namespace DL
open PySem PySem.Spec L2
open PyProof.Rows hiding St
section
variable {K : PySem.W.Frag} {p : Qt} {g : Gd} {F : List Addr} {H H' : Hp} {σ : L2.St} {τ : Sl} {i : Nat} {a : Addr} {vs : List V} {l : List D}
theorem Rel.junk (r : Rel K p g F σ H τ) {v : Option V} : Rel K p g F (σ.set i v) H (τ.set i none) := by
  have oth : ∀ (j : Nat) (d : D), (τ.set i none)[j]? = some (some d) → i ≠ j ∧ τ[j]? = some (some d) := fun j l q => by
    rcases set_get q with ⟨rfl, e2, hl⟩ | q
    · cases e2
    · exact q
  refine ⟨r.pk, r.kp, r.sub, r.al, r.fo, fun j e q n => ?_, fun j l q => ?_, fun a b l l' c q1 q2 s1 s2 => ?_, by simp [r.len]⟩
  · obtain ⟨hj, q⟩ := oth j e q
    obtain ⟨u, h1, h2⟩ := r.sl j e q n
    exact ⟨u, by rw [List.getElem?_set_ne hj]; exact h1, h2⟩
  · obtain ⟨hj, q⟩ := oth j _ q
    obtain ⟨a, vs, h1, h2⟩ := r.ow j l q
    exact ⟨a, vs, by rw [List.getElem?_set_ne hj]; exact h1, h2⟩
  · obtain ⟨n1, q1⟩ := oth a _ q1
    obtain ⟨n2, q2⟩ := oth b _ q2
    rw [List.getElem?_set_ne n1] at s1
    rw [List.getElem?_set_ne n2] at s2
    exact r.un a b l l' c q1 q2 s1 s2
theorem set_same {α : Type} : ∀ {σ : List α} {i : Nat} {v : α}, σ[i]? = some v → σ.set i v = σ
  | _ :: _, 0, _, h => by cases h; rfl
  | x :: s, i + 1, v, h => by
    show x :: s.set i v = x :: s
    rw [set_same (by simpa using h)]
theorem Rel.forget (r : Rel K p g F σ H τ) : Rel K p g F σ H (τ.set i none) := by
  by_cases hi : i < σ.length
  · have := r.junk (i := i) (v := σ[i])
    rwa [set_same (List.getElem?_eq_getElem hi)] at this
  · have e : τ.set i none = τ := List.set_eq_of_length_le (by rw [r.len]; omega)
    rw [e]
    exact r
theorem Rel.addOwn (r : Rel K p g F σ H (τ.set i none)) (h1 : σ[i]? = some (some (.ref a))) (h2 : H a = some (.lst vs)) (h3 : a ∈ F) (h4 : a ∉ g.F0) (h5 : IsL K p F H vs l)
    (h6 : ∀ (j : Nat) (m : List D), j ≠ i → τ[j]? = some (some (.own m)) → σ[j]? ≠ some (some (.ref a))) : Rel K p g F σ H (τ.set i (some (.own l))) := by
  have oth : ∀ (j : Nat) (d : D), i ≠ j → τ[j]? = some (some d) → (τ.set i none)[j]? = some (some d) := fun j d n q => by rw [List.getElem?_set_ne n]; exact q
  refine ⟨r.pk, r.kp, r.sub, r.al, r.fo, fun j e q n => ?_, fun j m q => ?_, fun b c m m' x q1 q2 s1 s2 => ?_, by simpa using r.len⟩
  · rcases set_get q with ⟨rfl, e2, _⟩ | ⟨hj, q⟩
    · cases e2
      cases n
    · exact r.sl j e (oth j e hj q) n
  · rcases set_get q with ⟨rfl, e2, _⟩ | ⟨hj, q⟩
    · cases e2
      exact ⟨a, vs, h1, h2, h3, h4, h5⟩
    · exact r.ow j m (oth j _ hj q)
  · rcases set_get q1 with ⟨rfl, e1, _⟩ | ⟨n1, q1⟩
    · rcases set_get q2 with ⟨rfl, _, _⟩ | ⟨n2, q2⟩
      · rfl
      · rw [h1] at s1
        cases s1
        exact absurd s2 (h6 c m' (fun z => n2 z.symm) q2)
    · rcases set_get q2 with ⟨rfl, _, _⟩ | ⟨n2, q2⟩
      · rw [h1] at s2
        cases s2
        exact absurd s1 (h6 b m (fun z => n1 z.symm) q1)
      · exact r.un b c m m' x (oth b _ n1 q1) (oth c _ n2 q2) s1 s2
theorem Rel.shut2 (r : Rel K p g F σ H τ) (e : Ex p H H') (nP : a ≠ p.pot) (hn : ∀ o, NoT o → H a ≠ some o) (hD : H' a = some (.lst vs)) : Rel K p g (a :: F) σ H' τ := by
  have r' := r.st e
  have mo : ∀ b ∈ a :: F, b ∈ F ∨ ∀ o, NoT o → H b ≠ some o := fun b hb => by
    rcases List.mem_cons.mp hb with z | z
    · exact .inr (by rw [z]; exact hn)
    · exact .inl z
  refine ⟨r'.pk, r'.kp, fun b hb => List.mem_cons_of_mem _ (r.sub b hb), fun b hb => ?_, fun b hb => ?_, fun j d h n => ?_, fun j m h => ?_, r.un, r.len⟩
  · rcases List.mem_cons.mp hb with z | z
    · subst z
      exact ⟨nP, _, hD, trivial⟩
    · exact r'.al b z
  · rcases List.mem_cons.mp hb with z | z
    · subst z
      by_cases hB : b ∈ g.B
      · exact .inr (.inl hB)
      · exact .inr (.inr fun o t q => hn o t (r.kp b o nP hB t q))
    · exact r.fo b z
  · obtain ⟨v, h1, h2⟩ := r.sl j d h n
    exact ⟨v, h1, (h2.more mo).mono e.kp⟩
  · obtain ⟨b, ws, h1, h2, h3, h4, h6⟩ := r.ow j m h
    exact ⟨b, ws, h1, e.kp _ _ (r.al b h3).1 (fun _ z => nomatch z) h2, List.mem_cons_of_mem _ h3, h4, (h6.more mo).mono e.kp⟩
theorem Rel.takes (r : Rel K p g F σ H τ) (e : Ex p H H') (nP : a ≠ p.pot) (hn : ∀ o, NoT o → H a ≠ some o) (hD : H' a = some (.lst vs)) (il : IsL K p (a :: F) H' vs l) (hi : i < σ.length) : Rel K p g (a :: F) (σ.set i (some (.ref a))) H' (τ.set i (some (.own l))) := by
  have r1 := r.shut2 e nP hn hD
  have nF : a ∉ F := fun z => by
    obtain ⟨_, o, h1, h2⟩ := r.al a z
    exact hn o h2.noT h1
  have r2 : Rel K p g (a :: F) (σ.set i (some (.ref a))) H' (τ.set i none) := r1.junk
  refine r2.addOwn (by rw [List.getElem?_set_self hi]) hD List.mem_cons_self (fun z => nF (r.sub a z)) il fun j m hj hm z => ?_
  rw [List.getElem?_set_ne (fun y => hj y.symm)] at z
  obtain ⟨b, ws, h1, _, h3, _⟩ := r.ow j m hm
  rw [z] at h1
  cases h1
  exact nF h3
theorem Rel.puts {ws : List V} {l' : List D} (r : Rel K p g F σ H τ) (hτ : τ[i]? = some (some (.own l))) (h1 : σ[i]? = some (some (.ref a))) (il : IsL K p F H ws l') : Rel K p g F σ (upd H a (.lst ws)) (τ.set i (some (.own l'))) ∧ ∀ w y, Is K p F H w y → Is K p F (upd H a (.lst ws)) w y := by
  obtain ⟨b, us, k1, k2, k3, k4, k5⟩ := r.ow i l hτ
  rw [h1] at k1
  cases k1
  have ho : ∀ (j : Nat) (m : List D), j ≠ i → τ[j]? = some (some (.own m)) → σ[j]? ≠ some (some (.ref a)) := fun j m hj hm z => hj (r.un j i m l a hm hτ z h1)
  have hg : a ∈ g.B ∨ ∀ o, NoT o → g.H0 a ≠ some o := (r.fo a k3).elim (fun z => absurd z k4) id
  obtain ⟨r2, isk⟩ := (r.forget (i := i)).wrote (xs := ws) k3 k2 hg fun j m q z => by
    rcases set_get q with ⟨rfl, e2, _⟩ | ⟨hj, q⟩
    · cases e2
    · exact ho j m (fun y => hj y.symm) q z
  exact ⟨r2.addOwn h1 upd_same k3 k4 (il.all isk) ho, isk⟩
theorem Rel.frees (r : Rel K p g F σ H τ) (hτ : τ[i]? = some (some (.own l))) (h1 : σ[i]? = some (some (.ref a))) : Rel K p g (F.filter fun b => decide (b ≠ a)) σ H (τ.set i (some (.lst l))) := by
  obtain ⟨b, us, k1, k2, k3, k4, k5⟩ := r.ow i l hτ
  rw [h1] at k1
  cases k1
  have inF : ∀ b, b ∈ F.filter (fun b => decide (b ≠ a)) ↔ b ∈ F ∧ b ≠ a := fun b => by rw [List.mem_filter, decide_eq_true_iff]
  have sub : ∀ b ∈ F.filter (fun b => decide (b ≠ a)), b ∈ F := fun b hb => ((inF b).mp hb).1
  have hi : i < τ.length := (List.getElem?_eq_some_iff.mp hτ).1
  refine ⟨r.pk, r.kp, fun b hb => (inF b).mpr ⟨r.sub b hb, fun z => k4 (z ▸ hb)⟩, fun b hb => r.al b (sub b hb), fun b hb => r.fo b (sub b hb), fun j d q n => ?_, fun j m q => ?_, fun b c m m' x q1 q2 s1 s2 => ?_, by simpa using r.len⟩
  · rcases set_get q with ⟨rfl, e2, _⟩ | ⟨hj, q⟩
    · cases e2
      exact ⟨.ref a, h1, .lst (Rd.of k2) ⟨(r.al a k3).1, fun z => ((inF a).mp z).2 rfl⟩ (k5.less sub)⟩
    · obtain ⟨v, g1, g2⟩ := r.sl j d q n
      exact ⟨v, g1, g2.less sub⟩
  · rcases set_get q with ⟨rfl, e2, _⟩ | ⟨hj, q⟩
    · cases e2
    · obtain ⟨b, ws, g1, g2, g3, g4, g5⟩ := r.ow j m q
      exact ⟨b, ws, g1, g2, (inF b).mpr ⟨g3, fun z => hj (r.un i j l m a hτ q h1 (by rw [g1, z]))⟩, g4, g5.less sub⟩
  · rcases set_get q1 with ⟨rfl, e1, _⟩ | ⟨n1, q1⟩
    · cases e1
    · rcases set_get q2 with ⟨rfl, e2, _⟩ | ⟨n2, q2⟩
      · cases e2
      · exact r.un b c m m' x q1 q2 s1 s2
end
structure PDF (X : Cx) (p : Qt) (e : Expr) (d : DA) : Prop where
  run : ∃ t, PE X e t ∧ ∀ (g0 : Gd) (F : List Addr) (σ : L2.St) (H : Hp) (τ : Sl) (Q : VK) (R : List D → Prop), Rel X.K p g0 F σ H τ → d τ R →
    (∀ l a vs H', Ex p H H' → a ≠ p.pot → (∀ o, NoT o → H a ≠ some o) → H' a = some (.lst vs) → IsL X.K p (a :: F) H' vs l → R l → Q (.ref a) H') → t σ H Q
section
variable {X : Cx} {p : Qt} {pos : Pos}
theorem IsL.fresh {K : PySem.W.Frag} {F : List Addr} {H : Hp} {a : Addr} {o : HO} {vs : List V} {l : List D} (pk : Pk p H) (hn : H a = none) (h : IsL K p F H vs l) : IsL K p (a :: F) (upd H a o) vs l := by
  refine (h.more fun b hb => ?_).mono (Ex.new (o := o) pk hn).kp
  rcases List.mem_cons.mp hb with z | z
  · exact .inr fun o _ q => by rw [z, hn] at q; cases q
  · exact .inl z
theorem Ex.nothere {H H1 : Hp} {a : Addr} (e : Ex p H H1) (hn : H1 a = none) : a ≠ p.pot ∧ ∀ o, NoT o → H a ≠ some o := by
  have nP := e.pk.ne hn
  exact ⟨nP, fun o t q => by
    have := e.kp a o nP t q
    rw [hn] at this
    cases this⟩
theorem pdf_lst {es : List Expr} {ds : DA} (ha : PDA X p es ds) (hl : es.length ≤ sizeLine := by decide) : PDF X p (.List es pos) ds := by
  obtain ⟨t, h1, h2⟩ := ha.run
  refine ⟨_, pe_lst h1, fun g0 F σ H τ Q R rel h q => ?_⟩
  refine h2 g0 F σ H τ _ _ rel h fun xs vs H1 e1 i1 l1 h1 => ⟨by rw [l1]; exact hl, fun a hn => ?_⟩
  obtain ⟨nP, nh⟩ := e1.nothere hn
  exact q xs a vs _ (e1.trans (.new e1.pk hn)) nP nh upd_same (i1.fresh e1.pk hn) h1
theorem lc_runF {K : PySem.W.Frag} {J : It} {g0 : Gd} {F : List Addr} {H1 : Hp} {l : List D} {D0 : Addr} {g : DG} {tt : DT} {te : DE} {tgt : TG} {tT : TT} {vs : List Nat} {σ : L2.St} {τ : Sl} {Q : VK} {R : List D → Prop} (hD : H1 D0 = none) (wd : WD K p F J H1 l) (hl : l.length ≤ 1000000) (rel : Rel K p g0 F σ H1 τ)
    (hg : ∀ (v : V) (x : D) (g0 : Gd) (F : List Addr) (σ : L2.St) (H : Hp) (τ : Sl) (Q : L2.St → Hp → Prop) (R : Sl → Prop), Rel K p g0 F σ H τ → Is K p F H v x → g x τ R → (∀ σ' H' τ', Ex p H H' → Rel K p g0 F σ' H' τ' → wipe σ' vs = wipe σ vs → R τ' → Q σ' H') → tgt v σ H Q)
    (ht : ∀ (g0 : Gd) (F : List Addr) (σ : L2.St) (H : Hp) (τ : Sl) (Q : Bool → Hp → Prop) (R : Bool → Prop), Rel K p g0 F σ H τ → tt τ R → (∀ b H', Ex p H H' → R b → Q b H') → tT σ H Q)
    (h : dLcGo g tt te (wipeD τ vs) l [] R) (q : ∀ l a vs H', Ex p H1 H' → a ≠ p.pot → (∀ o, NoT o → H1 a ≠ some o) → H' a = some (.lst vs) → IsL K p (a :: F) H' vs l → R l → Q (.ref a) H') :
    ∃ W : Nat → Nat → Hp → Prop, (∃ m, W 0 m (upd H1 D0 (.lst []))) ∧ ∀ i m H, W i m H → (J.stop i H ∧ Q (.ref D0) H) ∨ (J.go i H ∧ ∃ Nx : Hp → Prop, (∀ H', Nx H' → ∃ m', m' < m ∧ W (i + 1) m' H') ∧
      ∀ x H', J.yld i H x H' → tgt x (wipe σ vs) H' fun σ2 H2 => wipe σ2 vs = wipe σ vs ∧ tT σ2 H2 fun b H3 => if b = true then liftE K p te σ2 H3 fun y H4 => ∃ acc, H4 D0 = some (.lst acc) ∧ acc.length < sizeLine ∧ Nx (upd H4 D0 (.lst (acc ++ [y]))) else Nx H3) := by
  have nD := rel.notF hD
  have r0 := rel.wipe vs
  have start : Ex p H1 (upd H1 D0 (.lst [])) := .new rel.pk hD
  have mo : ∀ b ∈ D0 :: F, b ∈ F ∨ ∀ o, NoT o → H1 b ≠ some o := fun b hb => by
    rcases List.mem_cons.mp hb with z | z
    · exact .inr fun o _ q => by rw [z, hD] at q; cases q
    · exact .inl z
  have hgD : D0 ∈ g0.B ∨ ∀ o, NoT o → g0.H0 D0 ≠ some o := by
    by_cases hB : D0 ∈ g0.B
    · exact .inl hB
    · exact .inr fun o t q => by
        have := rel.kp D0 o nD.1 hB t q
        rw [hD] at this
        cases this
  have ho : ∀ (i : Nat) (l : List D), (wipeD τ vs)[i]? = some (some (D.own l)) → (wipe σ vs)[i]? ≠ some (some (V.ref D0)) := fun i l h1 h2 => by
    obtain ⟨a, us, k1, k2, _⟩ := r0.ow i l h1
    rw [h2] at k1
    cases k1
    rw [hD] at k2
    cases k2
  refine ⟨fun i m H => i ≤ l.length ∧ m = l.length - i ∧ Ex p H1 H ∧ Rel K p g0 (D0 :: F) (wipe σ vs) H (wipeD τ vs) ∧ ∃ va acc, H D0 = some (.lst va) ∧ IsL K p (D0 :: F) H va acc ∧ acc.length ≤ i ∧ dLcGo g tt te (wipeD τ vs) (l.drop i) acc R,
    ⟨_, Nat.zero_le _, rfl, start, r0.shut hD, [], [], upd_same, .nil, Nat.le_refl _, h⟩, ?_⟩
  rintro i m H ⟨hi, rfl, ex, rl, va, acc, hva, iva, lva, h⟩
  by_cases hlt : i < l.length
  · obtain ⟨go, y⟩ := wd.step i H (D0 :: F) ex.toF (fun z => (z.more mo).mono ex.kp) rl.pkf hlt
    refine .inr ⟨go, fun H' => Ex p H1 H' ∧ Rel K p g0 (D0 :: F) (wipe σ vs) H' (wipeD τ vs) ∧ ∃ va acc, H' D0 = some (.lst va) ∧ IsL K p (D0 :: F) H' va acc ∧ acc.length ≤ i + 1 ∧ dLcGo g tt te (wipeD τ vs) (l.drop (i + 1)) acc R, fun H' ⟨q1, q2, q3⟩ => ⟨_, by omega, hlt, rfl, q1, q2, q3⟩, fun x H2 yl => ?_⟩
    obtain ⟨e2, d, hd, hx⟩ := y x H2 yl
    rw [drop_at hd] at h
    refine hg x d g0 (D0 :: F) _ H2 _ _ _ (rl.st e2) hx h fun σ3 H3 τ3 e3 rel3 w3 h3 => ⟨by rw [w3, wipe_idem], ?_⟩
    refine ht g0 (D0 :: F) σ3 H3 τ3 _ _ rel3 h3 fun b H4 e4 h4 => ?_
    have e24 := (e2.trans e3).trans e4
    have ex4 := ex.trans e24
    have nDp : D0 ≠ p.pot := nD.1
    have hva4 : H4 D0 = some (.lst va) := e24.kp _ _ nDp (fun _ z => nomatch z) hva
    cases b with
    | true =>
      rw [if_pos rfl] at h4 ⊢
      refine ⟨g0, D0 :: F, τ3, _, rel3.st e4, h4, fun z v H5 e5 i5 h5 => ?_⟩
      have hva5 : H5 D0 = some (.lst va) := e5.kp _ _ nDp (fun _ z => nomatch z) hva4
      have len := iva.len
      have rl5 := (rl.st e24).st e5
      obtain ⟨rw5, isk⟩ := rl5.wrote List.mem_cons_self hva5 hgD ho (xs := va ++ [v])
      refine ⟨va, hva5, ?_, ?_, rw5, va ++ [v], acc ++ [z], upd_same, (((iva.mono e24.kp).mono e5.kp).app (.cons i5 .nil)).all isk, by rw [List.length_append]; simp; omega, h5⟩
      · have : sizeLine = 16777216 := sizeLine_eq
        omega
      · have ex5 := ex4.trans e5
        exact ⟨fun b o nb t e => by rw [upd_ne (ne_of_none e hD)]; exact ex5.kp b o nb t e, rw5.pk⟩
    | false =>
      rw [if_neg Bool.false_ne_true] at h4 ⊢
      exact ⟨ex4, rl.st e24, va, acc, hva4, iva.mono e24.kp, by omega, h4⟩
  · have e : i = l.length := by omega
    subst e
    rw [List.drop_length] at h
    exact .inl ⟨wd.stop H ex.toF, q acc D0 va H ex nD.1 (fun o _ z => by rw [hD] at z; cases z) hva iva h⟩
def dLcF (it : DI) (g : DG) (tt : DT) (te : DE) (own : List Nat) : DA := fun τ R => it τ fun l => LenOk l ∧ dLcGo g tt te (wipeD τ own) l [] R
theorem pdf_lc {elt tg iter : Expr} {scope : Scope} {own : List (Str × Nat)} {it : DI} {g : DG} {te : DE} {t : TG} (hc : X.calm = true) (hN : X.N.Nodup) (hi : PDI X p tg iter it) (ok : blkC X.N X.env.scope scope own = true)
    (hg : ∀ (s : Shared) (H : Hp) (C : Addr) (cl : List (Str × Addr)) (fp : List Addr), PDGw (X.blk s H scope (compEnvC scope cl C X.env) fp) p (own.map (·.2)) tg g t)
    (he : ∀ (s : Shared) (H : Hp) (C : Addr) (cl : List (Str × Addr)) (fp : List Addr), PD (X.blk s H scope (compEnvC scope cl C X.env) fp) p elt te) (hs : ∀ x, foldedSetIterable iter X.env x = pure x := by intro _; rfl) (sh : Shared) :
    PDF X p (.ListComp elt [⟨tg, iter, [], 0⟩] scope pos) (dLcF it g dYes te (own.map (·.2))) := by
  obtain ⟨wi, i1, i2⟩ := hi.run
  refine ⟨_, pe_lc (te := liftE X.K p te) hc hN i1 (blkOk_by ok) (fun s H C cl fp => (hg s H C cl fp).pg) (fun _ _ _ _ _ => pts_nil) (fun s H C cl fp => (he s H C cl fp).pe) hs, fun g0 F σ H τ Q R rel h q => ?_⟩
  refine i2 g0 F σ H τ _ _ rel h fun J H1 l e1 wd h1 => ?_
  intro D0 hD
  exact lc_runF (K := X.K) (tt := dYes) hD wd h1.1.few (rel.st e1) (hg sh H 0 [] []).go (fun g0 F σ H τ Q R rel h q => q true H (.refl rel.pk) h) h1.2 fun l a vs H' e n1 n2 h3 i r => q l a vs H' (e1.trans e) n1 (fun o t z => n2 o t (e1.kp a o n1 t z)) h3 i r
def dOwn (d : DA) (i : Nat) : DS := fun E τ => d τ fun l => E.nx (τ.set i (some (.own l)))
theorem pds_own {i : Nat} {x : Str} {pos' : Pos} {e : Expr} {d : DA} (hN : X.N.Nodup) (hi : X.N[i]? = some x) (hx : Loc X.env.scope x) (he : PDF X p e d) (hs : swapsWith e (some (.Name x pos')) pos.line X.env = pure false := by rfl) (hf : X.fn x = true ∨ X.env.scope.names.lookup x = some .local := by first | exact .inl rfl | exact .inr rfl | assumption) :
    PDS X p (.Assign [.Name x pos'] e pos) (dOwn d i) := by
  obtain ⟨a, a1, a2⟩ := he.run
  refine ⟨_, ps_set hN hi hx a1 hs hf, fun g F σ H τ E E' rel h ag => ?_⟩
  refine a2 g F σ H τ _ _ rel h fun l a vs H' e nP hn hD il r => ?_
  by_cases hl : i < σ.length
  · exact ag.nx _ _ H' _ (rel.takes e nP hn hD il hl) r
  · have e1 : τ.set i (some (.own l)) = τ := List.set_eq_of_length_le (by rw [rel.len]; omega)
    have e2 : σ.set i (some (V.ref a)) = σ := List.set_eq_of_length_le (by omega)
    rw [e1] at r
    show E.nx (σ.set i (some (V.ref a))) H'
    rw [e2]
    exact ag.nx _ _ H' _ (rel.st e) r
theorem pds_ownLc {i : Nat} {y : Str} {py spos : Pos} {elt tg iter : Expr} {scope : Scope} {own : List (Str × Nat)} {it : DI} {g : DG} {te : DE} {t : TG} (hc : X.calm = true) (hN : X.N.Nodup) (hy : X.N[i]? = some y) (hyl : X.env.scope.names.lookup y = some .local)
    (hi : PDI X p tg iter it) (ok : blkC X.N X.env.scope scope own = true)
    (hg : ∀ (s : Shared) (H : Hp) (C : Addr) (cl : List (Str × Addr)) (fp : List Addr), PDGw (X.blk s H scope (compEnvC scope cl C X.env) fp) p (own.map (·.2)) tg g t)
    (he : ∀ (s : Shared) (H : Hp) (C : Addr) (cl : List (Str × Addr)) (fp : List Addr), PD (X.blk s H scope (compEnvC scope cl C X.env) fp) p elt te) (sh : Shared)
    (hsw : swapsWith (.ListComp elt [⟨tg, iter, [], 0⟩] scope pos) (some (.Name y py)) spos.line X.env = pure true := by rfl) (hs : ∀ x, foldedSetIterable iter X.env x = pure x := by intro _; rfl) :
    PDS X p (.Assign [.Name y py] (.ListComp elt [⟨tg, iter, [], 0⟩] scope pos) spos) (dOwn (dLcF it g dYes te (own.map (·.2))) i) := by
  obtain ⟨wi, i1, i2⟩ := hi.run
  refine ⟨_, ps_setLc (te := liftE X.K p te) hc hN hy hyl hsw i1 (blkOk_by ok) (fun s H C cl fp => (hg s H C cl fp).pg) (fun _ _ _ _ _ => pts_nil) (fun s H C cl fp => (he s H C cl fp).pe) hs, fun g0 F σ H τ E E' rel h ag => ?_⟩
  refine i2 g0 F σ H τ _ _ rel h fun J H1 l e1 wd h1 => ?_
  intro D0 hD
  refine lc_runF (K := X.K) (tt := dYes) (tT := tYes) (Q := fun x H1 => gName i x σ H1 E.nx) hD wd h1.1.few (rel.st e1) (hg sh H 0 [] []).go (fun g0 F σ H τ Q R rel h q => q true H (.refl rel.pk) h) h1.2 fun l a vs H' e n1 n2 h3 il r => ?_
  by_cases hl : i < σ.length
  · exact ag.nx _ _ H' _ (rel.takes (e1.trans e) n1 (fun o t z => n2 o t (e1.kp a o n1 t z)) h3 il hl) r
  · have e1' : τ.set i (some (.own l)) = τ := List.set_eq_of_length_le (by rw [rel.len]; omega)
    have e2' : σ.set i (some (V.ref a)) = σ := List.set_eq_of_length_le (by omega)
    rw [e1'] at r
    show E.nx (σ.set i (some (V.ref a))) H'
    rw [e2']
    exact ag.nx _ _ H' _ (rel.st (e1.trans e)) r
def dApp (i : Nat) (d : DE) : DS := fun E τ => match τ[i]? with
  | some (some (.own l)) => d τ fun x => l.length ≤ 1000000 ∧ E.nx (τ.set i (some (.own (l ++ [x]))))
  | _ => False
theorem pds_app {i : Nat} {x : Str} {px apos cpos : Pos} {e : Expr} {d : DE} (he : PD X p e d) (hN : X.N[i]? = some x := by rfl) (hv : Vis X.env.scope x := by first | exact Or.inl rfl | exact Or.inr (Or.inl rfl) | exact Or.inr (Or.inr rfl)) (hd : (x == ("__debug__" : Str)) = false := by decide)
    (hcd : (x == ("__classdict__" : Str)) = false := by decide) (hs : swapsWith (.Call (.Attribute (.Name x px) "append" apos) [e] [] cpos) none pos.line X.env = pure false := by rfl)
    (hbase : attributeBase (.Name x px) "append" X.env (eval (.Name x px) X.env) = eval (.Name x px) X.env := by rfl)
    (hfew : ((backTo cpos (starEach [e] X.env)).all (fun x => !x.1) && (backToKw cpos (keywordEach [] X.env)).all (fun x => x.1.isSome)
      && decide (([e] : List Expr).length + ([] : List Keyword).length + (if ([] : List Keyword).isEmpty then 0 else 1) < 30)) = true := by rfl)
    (hline : (apos.endLine == cpos.line) = true := by rfl) (hst : starEach [e] X.env = (false, eval e X.env) :: starEach [] X.env := by rfl) (hplain : (backTo cpos (starEach [] X.env)).any (·.1) = false := by rfl) :
    PDS X p (.Expr (.Call (.Attribute (.Name x px) "append" apos) [e] [] cpos) pos) (dApp i d) := by
  obtain ⟨t, h1, h2⟩ := (pda_cons he pda_nil hst).run
  refine ⟨_, ps_expr (pe_bm PySem.F.plainAttrs_list PySem.F.slot_list_append PySem.F.type_list_append mt_append (pe_var hN hv hd hcd) h1 hbase hfew hline hst hplain) hs, fun g0 F σ H τ E E' rel h ag => ?_⟩
  unfold dApp at h
  split at h
  · rename_i l ht
    obtain ⟨a, vs, s1, s2, s3, s4, s5⟩ := rel.ow i l ht
    refine ⟨.ref a, s1, .inl ⟨rfl, vs, .inl (.inl s2)⟩, ?_⟩
    refine h2 g0 F σ H τ _ (fun xs => match xs with | [x] => l.length ≤ 1000000 ∧ E'.nx (τ.set i (some (.own (l ++ [x])))) | _ => False) rel h fun xs ws H1 e1 i1 l1 h1 => ?_
    cases i1 with
    | nil => exact h1.elim
    | cons i1 i2 =>
      cases i2 with
      | cons _ _ => exact h1.elim
      | nil =>
        have s2' := e1.kp a (.lst vs) (rel.al a s3).1 (fun _ z => nomatch z) s2
        have len := s5.len
        refine ⟨a, vs, _, rfl, rfl, s2', by have : sizeLine = 16777216 := sizeLine_eq; omega, ?_⟩
        exact ag.nx F σ _ _ ((rel.st e1).puts ht s1 ((s5.mono e1.kp).app (.cons i1 .nil))).1 h1.2
  · exact h.elim
def dExt (i : Nat) (d : DA) : DS := fun E τ => match τ[i]? with
  | some (some (.own l)) => d τ fun m => l.length + m.length ≤ 1000000 ∧ E.nx (τ.set i (some (.own (l ++ m))))
  | _ => False
theorem pds_ext {i : Nat} {x : Str} {px apos cpos : Pos} {e : Expr} {d : DA} (he : PDF X p e d) (hN : X.N[i]? = some x := by rfl) (hv : Vis X.env.scope x := by first | exact Or.inl rfl | exact Or.inr (Or.inl rfl) | exact Or.inr (Or.inr rfl)) (hd : (x == ("__debug__" : Str)) = false := by decide)
    (hcd : (x == ("__classdict__" : Str)) = false := by decide) (hs : swapsWith (.Call (.Attribute (.Name x px) "extend" apos) [e] [] cpos) none pos.line X.env = pure false := by rfl)
    (hbase : attributeBase (.Name x px) "extend" X.env (eval (.Name x px) X.env) = eval (.Name x px) X.env := by rfl)
    (hfew : ((backTo cpos (starEach [e] X.env)).all (fun x => !x.1) && (backToKw cpos (keywordEach [] X.env)).all (fun x => x.1.isSome)
      && decide (([e] : List Expr).length + ([] : List Keyword).length + (if ([] : List Keyword).isEmpty then 0 else 1) < 30)) = true := by rfl)
    (hline : (apos.endLine == cpos.line) = true := by rfl) (hst : starEach [e] X.env = (false, eval e X.env) :: starEach [] X.env := by rfl) (hplain : (backTo cpos (starEach [] X.env)).any (·.1) = false := by rfl) :
    PDS X p (.Expr (.Call (.Attribute (.Name x px) "extend" apos) [e] [] cpos) pos) (dExt i d) := by
  obtain ⟨t, h1, h2⟩ := he.run
  refine ⟨_, ps_expr (pe_bm PySem.F.plainAttrs_list PySem.F.slot_list_extend PySem.F.type_list_extend mt_extend (pe_var hN hv hd hcd) (pa_cons h1 pa_nil hst) hbase hfew hline hst hplain) hs, fun g0 F σ H τ E E' rel h ag => ?_⟩
  unfold dExt at h
  split at h
  · rename_i l ht
    obtain ⟨a, vs, s1, s2, s3, s4, s5⟩ := rel.ow i l ht
    refine ⟨.ref a, s1, .inl ⟨rfl, vs, .inl (.inl s2)⟩, ?_⟩
    refine h2 g0 F σ H τ _ _ rel h fun m b ws H1 e1 nP hn hD il h1 => ?_
    have s2' := e1.kp a (.lst vs) (rel.al a s3).1 (fun _ z => nomatch z) s2
    have len := s5.len
    have len2 := il.len
    refine ⟨a, b, vs, ws, rfl, rfl, s2', hD, by have : sizeLine = 16777216 := sizeLine_eq; omega, ?_⟩
    exact ag.nx F σ _ _ ((rel.st e1).puts ht s1 ((s5.mono e1.kp).app (il.less fun b hb => List.mem_cons_of_mem _ hb))).1 h1.2
  · exact h.elim
def dFree (i : Nat) (d : DS) : DS := fun E τ => match τ[i]? with
  | some (some (.own l)) => d E (τ.set i (some (.lst l)))
  | _ => d E τ
theorem pds_free {st : Stmt} {d : DS} (i : Nat) (h : PDS X p st d) : PDS X p st (dFree i d) := by
  obtain ⟨t, h1, h2⟩ := h.run
  refine ⟨t, h1, fun g F σ H τ E E' rel hh ag => ?_⟩
  unfold dFree at hh
  split at hh
  · rename_i l ht
    obtain ⟨a, vs, s1, _⟩ := rel.ow i l ht
    exact h2 g _ σ H _ E E' (rel.frees ht s1) hh ag
  · exact h2 g F σ H τ E E' rel hh ag
def gPutO (i : Nat) (d : DE) : DG := fun x τ R => match τ[i]? with
  | some (some (.own l)) => d τ fun k => match k with
    | .int k => (0 ≤ k ∧ k.toNat < l.length) ∧ R (τ.set i (some (.own (l.set k.toNat x))))
    | _ => False
  | _ => False
theorem IsL.set {K : PySem.W.Frag} {F : List Addr} {H : Hp} {v : V} {d : D} (hv : Is K p F H v d) : ∀ {vs : List V} {l : List D} (j : Nat), IsL K p F H vs l → IsL K p F H (vs.set j v) (l.set j d)
  | _, _, _, .nil => .nil
  | _, _, 0, .cons _ t => .cons hv t
  | _, _, j + 1, .cons h t => .cons h (IsL.set hv j t)
def dIxO (i : Nat) (d : DE) : DE := fun τ R => match τ[i]? with
  | some (some (.own l)) => d τ fun k => match k with
    | .int k => match atD l k with
      | some x => R x
      | none => False
    | _ => False
  | _ => False
theorem pd_ixO {i : Nat} {x : Str} {px : Pos} {e : Expr} {d : DE} (he : PD X p e d) (hN : X.N[i]? = some x := by rfl) (hv : Vis X.env.scope x := by first | exact Or.inl rfl | exact Or.inr (Or.inl rfl) | exact Or.inr (Or.inr rfl)) (hd : (x == ("__debug__" : Str)) = false := by decide)
    (hcd : (x == ("__classdict__" : Str)) = false := by decide) (hn : ∀ lo hi st sp, e ≠ .Slice lo hi st sp := by intros; exact fun z => nomatch z) : PD X p (.Subscript (.Name x px) e pos) (dIxO i d) := by
  obtain ⟨t, h1, h2⟩ := he.run
  refine ⟨_, pe_ix ix_list (pe_var hN hv hd hcd) h1 (fun _ _ => by cases e <;> first | rfl | exact absurd rfl (hn _ _ _ _)), fun g F σ H τ Q R rel h q => ?_⟩
  unfold dIxO at h
  split at h
  · rename_i l ht
    obtain ⟨a, vs, s1, s2, s3, s4, s5⟩ := rel.ow i l ht
    refine ⟨.ref a, s1, ?_⟩
    refine h2 g F σ H τ _ _ rel h fun k kv H1 e1 i1 h1 => ?_
    have s2' := e1.kp a (.lst vs) (rel.al a s3).1 (fun _ z => nomatch z) s2
    cases i1 with
    | int k =>
      have h1' : match atD l k with | some x => R x | none => False := h1
      split at h1'
      · rename_i y ey
        obtain ⟨w, k1, k2⟩ := (s5.mono e1.kp).atI (atD_at ey)
        exact ⟨a, vs, k, w, rfl, rfl, .inl (.inl s2'), k1, q y w H1 e1 k2 h1'⟩
      · exact h1'.elim
    | _ => exact (show False from h1).elim
  · exact h.elim
def dLend (i : Nat) (d : DE) : DE := fun τ R => match τ[i]? with
  | some (some (.own l)) => d (τ.set i (some (.lst l))) fun x => noL x = true ∧ R x
  | _ => d τ R
def dLendT (i : Nat) (d : DT) : DT := fun τ R => match τ[i]? with
  | some (some (.own l)) => d (τ.set i (some (.lst l))) R
  | _ => d τ R
end
end DL
namespace DL
open PySem PySem.Spec L2
open PyProof.Rows hiding St
open PySem.W (HoldAll Holds maxOf minOf max_tuple_datum min_tuple_datum DatumOrd)
section
variable {X : Cx} {p : Qt}
theorem vals_hold {ns : List Int} : ∀ {us : List Value} (h : Heap), Vals (ns.map V.int) us → HoldAll h us ns := by
  induction ns with
  | nil =>
    intro us h r
    cases r
    exact ⟨[], .nil⟩
  | cons n ns ih =>
    intro us h r
    cases r with
    | cons r1 r2 =>
      obtain ⟨t, rfl⟩ := r1
      obtain ⟨as, q⟩ := ih h r2
      exact ⟨[] ++ as, .cons (.int n t) q⟩
theorem maxOf_eq (n : Int) (ns : List Int) : maxOf n ns = maxL n ns := by
  unfold maxOf
  induction ns generalizing n with
  | nil => rfl
  | cons m ns ih =>
    show List.foldl _ (if DatumOrd.lt n m = true then m else n) ns = maxL (max n m) ns
    have e : (if DatumOrd.lt n m = true then m else n) = max n m := by
      show (if decide (n < m) = true then m else n) = max n m
      by_cases c : n < m
      · rw [if_pos (decide_eq_true c), Int.max_eq_right (by omega)]
      · rw [if_neg (by simpa using c), Int.max_eq_left (by omega)]
    rw [e]
    exact ih _
theorem minOf_eq (n : Int) (ns : List Int) : minOf n ns = minL n ns := by
  unfold minOf
  induction ns generalizing n with
  | nil => rfl
  | cons m ns ih =>
    show List.foldl _ (if DatumOrd.lt m n = true then m else n) ns = minL (min n m) ns
    have e : (if DatumOrd.lt m n = true then m else n) = min n m := by
      show (if decide (m < n) = true then m else n) = min n m
      by_cases c : m < n
      · rw [if_pos (decide_eq_true c), Int.min_eq_right (by omega)]
      · rw [if_neg (by simpa using c), Int.min_eq_left (by omega)]
    rw [e]
    exact ih _
theorem cr_maxT (hc : X.calm = true) (hu : X.A.units + 65 < cLine) : CallR X (.builtin "max") (fun xs H Q => ∃ (a : Addr) (n : Int) (ns : List Int), xs = [V.ref a] ∧ SqT X.K H a ((n :: ns).map V.int) ∧ Q (.int (maxL n ns)) H) := by
  intro pins s σ H vs us Q I r h
  obtain ⟨a, n, ns, rfl, hs, q⟩ := h
  obtain ⟨its, rv, hl, _⟩ := I.tuple hs
  rw [Vals.ref1 r]
  refine max_tuple_datum (α := Int) (I.ok.hd hc) hl (vals_hold s.heap rv) (by show X.A.units + 1 + 0 < cLine; omega) fun i v h' tk _ hv hk => ?_
  obtain ⟨as, hv⟩ := hv
  cases hv
  exact ⟨.int _, H, I.kept hk, ⟨_, rfl⟩, by rw [maxOf_eq]; exact q⟩
theorem cr_minT (hc : X.calm = true) (hu : X.A.units + 65 < cLine) : CallR X (.builtin "min") (fun xs H Q => ∃ (a : Addr) (n : Int) (ns : List Int), xs = [V.ref a] ∧ SqT X.K H a ((n :: ns).map V.int) ∧ Q (.int (minL n ns)) H) := by
  intro pins s σ H vs us Q I r h
  obtain ⟨a, n, ns, rfl, hs, q⟩ := h
  obtain ⟨its, rv, hl, _⟩ := I.tuple hs
  rw [Vals.ref1 r]
  refine min_tuple_datum (α := Int) (I.ok.hd hc) hl (vals_hold s.heap rv) (by show X.A.units + 1 + 0 < cLine; omega) fun i v h' tk _ hv hk => ?_
  obtain ⟨as, hv⟩ := hv
  cases hv
  exact ⟨.int _, H, I.kept hk, ⟨_, rfl⟩, by rw [minOf_eq]; exact q⟩
def cMaxT : List D → (D → Prop) → Prop := fun xs R => match xs with
  | [.int i, .int j] => R (.int (max i j))
  | [.lst l] => match intsOf l with
    | some (n :: ns) => R (.int (maxL n ns))
    | _ => False
  | [.tup l] => match intsOf l with
    | some (n :: ns) => R (.int (maxL n ns))
    | _ => False
  | _ => False
def cMinT : List D → (D → Prop) → Prop := fun xs R => match xs with
  | [.int i, .int j] => R (.int (min i j))
  | [.lst l] => match intsOf l with
    | some (n :: ns) => R (.int (minL n ns))
    | _ => False
  | [.tup l] => match intsOf l with
    | some (n :: ns) => R (.int (minL n ns))
    | _ => False
  | _ => False
theorem cd_maxT (hc : X.calm = true) (hu : X.A.units + 65 < cLine) : CallD X p (.builtin "max") cMaxT := by
  obtain ⟨r, h1, h2⟩ := cd_max (X := X) (p := p) hc
  refine ⟨_, h1.or (cr_maxT hc hu), fun F H xs vs Q R pk ix hh q => ?_⟩
  unfold cMaxT at hh
  split at hh
  · exact .inl (h2 F H _ vs Q R pk ix hh q)
  · exact .inl (h2 F H _ vs Q R pk ix hh q)
  · split at hh
    · rename_i l n ns e
      cases ix with
      | cons i1 i2 =>
        cases i2
        cases i1 with
        | tup hs hn hl =>
          rw [intsOf_eq e] at hl
          rw [hl.ints] at hs
          exact .inr ⟨_, n, ns, rfl, hs, q _ _ H (.refl pk.pk) (.int _) hh⟩
    · exact hh.elim
  · exact hh.elim
theorem cd_minT (hc : X.calm = true) (hu : X.A.units + 65 < cLine) : CallD X p (.builtin "min") cMinT := by
  obtain ⟨r, h1, h2⟩ := cd_min (X := X) (p := p) hc
  refine ⟨_, h1.or (cr_minT hc hu), fun F H xs vs Q R pk ix hh q => ?_⟩
  unfold cMinT at hh
  split at hh
  · exact .inl (h2 F H _ vs Q R pk ix hh q)
  · exact .inl (h2 F H _ vs Q R pk ix hh q)
  · split at hh
    · rename_i l n ns e
      cases ix with
      | cons i1 i2 =>
        cases i2
        cases i1 with
        | tup hs hn hl =>
          rw [intsOf_eq e] at hl
          rw [hl.ints] at hs
          exact .inr ⟨_, n, ns, rfl, hs, q _ _ H (.refl pk.pk) (.int _) hh⟩
    · exact hh.elim
  · exact hh.elim
abbrev gModN := gIIc (fun _ j => j ≠ 0) fun i j => .int (i.fmod j)
theorem opd_modN : OpD X p (binaryOp .Mod) gModN := opd_I op_modN (fun _ _ h => h) fun _ _ _ _ _ => .int _
def dAug (i : Nat) (f : Int → Int → Int) (d : DE) : DS := fun E τ => match τ[i]? with
  | some (some (.int a)) => d τ fun y => match y with
    | .int b => E.nx (τ.set i (some (.int (f a b))))
    | _ => False
  | _ => False
end
end DL
namespace DL
open PySem PySem.Spec L2
open PyProof.Rows hiding St
section
variable {prog : Program} {w : World} {A : Around} {E : Value → Shared → Prop} {s : Shared} {f g : Addr} {of og : Obj}
end
def gEqF (L : List Str) : D → D → (D → Prop) → Prop := fun x y R => match x, y with
  | .fn x, .fn y => (x ∈ L ∧ y ∈ L) ∧ R (.bl (decide (x = y)))
  | x, y => gEq x y R
section
variable {X : Cx} {p : Qt}
inductive CalT (P : Program) (w : World) (K : PySem.W.Frag) (mg : Str → Option Value) (base : Heap) (tf : Tf) (k n : Nat) : List (Str × SpD) → Prop
  | nil : CalT P w K mg base tf k n []
  | cons {x : Str} {j : Nat} {ps : List Str} {kb : List (List Str × Nat × List Nat)} {sp : SpD} {l : List (Str × SpD)} (C : Cal P w K mg base tf x j n ps kb sp) (hj : j ≤ k) (r : CalT P w K mg base tf k n l) : CalT P w K mg base tf k n ((x, sp) :: l)
def spOf (S : List (Str × SpD)) (x : Str) : SpD := fun ds R => match S with
  | [] => False
  | (y, sp) :: l => if x = y then sp ds R else spOf l x ds R
def dCallV (i : Nat) (S : List (Str × SpD)) (t : DA) : DE := fun τ R => match τ[i]? with
  | some (some (.fn x)) => x ∈ S.map (·.1) ∧ t τ fun xs => spOf S x xs R
  | _ => False
theorem CalT.run {S : List (Str × SpD)} {k n : Nat} (C : CalT X.prog X.w X.K X.mg X.base p.tf k n S) (hf : p.tf.fns = X.mg) (hgu : X.A.guards = some []) (hr : Room k X.A) {x : Str} {f : Addr} (ht : p.tf.fns x = some (.ref f)) {pins : List (Addr × Obj)} {σ : L2.St} {H : Hp} {s : Shared} {Q : VK} {us : List Value} {vs : List V}
    (I : Inv X pins σ H s) (r : Vals vs us) (h : toSp X.K p.tf n (spOf S x) vs H Q fun _ _ _ => False) : PySem.W.keepIn X.K (.ref f) = true ∧ wpAny (model X.prog X.w) X.A (call (.ref f) us []) (EP X pins σ Q) X.xe s := by
  induction C with
  | nil =>
    obtain ⟨_, _, _, _, _, _, _, z, _⟩ := h
    exact z.elim
  | @cons y j ps kb sp l C hj _ ih =>
    by_cases e : x = y
    · subst e
      obtain ⟨g, fd, F, hm, hk, hb, _⟩ := C.ex
      rw [hf, hm] at ht
      cases ht
      have h' : toSp X.K p.tf n sp vs H Q fun _ _ _ => False := by
        obtain ⟨hl, pot, Fb, ds, R, pk, is, z, q⟩ := h
        refine ⟨hl, pot, Fb, ds, R, pk, is, ?_, q⟩
        unfold spOf at z
        rw [if_pos rfl] at z
        exact z
      refine ⟨hk, ?_⟩
      have hl : (us ++ []).length = ps.length := by rw [List.append_nil, ← r.length]; exact F.len _ _ _ _ h'
      have b := hb s us I.kIn hl
      rw [List.append_nil] at b
      exact goG (args := ⟨us, []⟩) (F.weak hj) hgu hr pass0 I b r h'
    · refine ih ?_
      obtain ⟨hl, pot, Fb, ds, R, pk, is, z, q⟩ := h
      refine ⟨hl, pot, Fb, ds, R, pk, is, ?_, q⟩
      unfold spOf at z
      rw [if_neg e] at z
      exact z
def rngC (lo c : Int) (n : Nat) : List D := (List.range n).map fun (k : Nat) => D.int (lo + (k : Int) * c)
def dRgN (d : DA) : DI := fun τ R => d τ fun xs => match xs with
  | [.int i, .int j, .int (-1)] => (-(2 ^ 62) ≤ i ∧ i < 2 ^ 62 ∧ -(2 ^ 62) ≤ j ∧ j < 2 ^ 62) ∧ R (rngC i (-1) (i - j).toNat)
  | _ => False
end
end DL
namespace DL
open PySem PySem.Spec L2
open PyProof.Rows hiding St
structure Big (a : Nat) (i : Int) : Prop where
  lt : i.natAbs < 2 ^ a
section
variable {a b : Nat} {i j : Int}
theorem Big.mono (h : Big a i) (l : a ≤ b) : Big b i := ⟨Nat.lt_of_lt_of_le h.lt (Nat.pow_le_pow_right (by decide) l)⟩
theorem Big.neg (h : Big a i) : Big a (-i) := ⟨by rw [Int.natAbs_neg]; exact h.lt⟩
theorem Big.abs (h : Big a i) : Big a (i.natAbs : Int) := ⟨by rw [Int.natAbs_natCast]; exact h.lt⟩
theorem Big.mul (h : Big a i) (k : Big b j) : Big (a + b) (i * j) := ⟨by
  rw [Int.natAbs_mul, Nat.pow_add]
  exact Nat.mul_lt_mul'' h.lt k.lt⟩
theorem Big.add (h : Big a i) (k : Big b j) : Big (max a b + 1) (i + j) := ⟨by
  have h1 := (h.mono (Nat.le_max_left a b)).lt
  have h2 := (k.mono (Nat.le_max_right a b)).lt
  have h3 := Int.natAbs_add_le i j
  rw [Nat.pow_succ]
  omega⟩
theorem Big.sub (h : Big a i) (k : Big b j) : Big (max a b + 1) (i - j) := by
  rw [Int.sub_eq_add_neg]
  exact h.add k.neg
theorem Big.div (h : Big a i) : Big a (i / j) := ⟨Nat.lt_of_le_of_lt (Int.natAbs_ediv_le_natAbs i j) h.lt⟩
theorem Big.one : Big 1 1 := ⟨by decide⟩
theorem Big.zero : Big a 0 := ⟨Nat.two_pow_pos a⟩
theorem Big.of (h : i.natAbs < 2 ^ a) : Big a i := ⟨h⟩
theorem MulC.big (h : Big a i) (k : Big b j) (l : a + b ≤ 900000) : MulC i j := by
  refine ⟨CMulW.ok (wide_mul (h.mono (Nat.le_succ a)).lt (k.mono (Nat.le_succ b)).lt (by omega) (by omega) (by omega))⟩
theorem BD.big (h0 : 0 < j) (h : Big a j) (l : a ≤ 8980) : BD j := ⟨h0, Nat.lt_of_lt_of_le (PySem.Flt.log2_lt_of (by omega) (h.mono (Nat.le_succ a)).lt) (by omega)⟩
end
def rd (x : Rat) : D := .tup [.int x.num, .int (x.den : Int)]
structure Sz (a : Nat) (x : Rat) : Prop where
  n : Big a x.num
  d : Big a (x.den : Int)
theorem den_pos (x : Rat) : 0 < (x.den : Int) := by have := x.den_pos; omega
theorem val_eq (x : Rat) : x = (x.num : Rat) / ((x.den : Int) : Rat) := by
  rw [← Rat.divInt_eq_div]
  exact (Rat.num_divInt_den x).symm
theorem frac_num {n u : Int} (h : 0 < u) : ((n : Rat) / (u : Rat)).num = n / (Nat.gcd n.natAbs u.natAbs : Int) := by
  rw [← Rat.divInt_eq_div, Rat.num_divInt, Int.sign_eq_one_of_pos h, Int.one_mul, Int.gcd_comm]
  rfl
theorem frac_den {n u : Int} (h : 0 < u) : (((n : Rat) / (u : Rat)).den : Int) = u / (Nat.gcd n.natAbs u.natAbs : Int) := by
  rw [← Rat.divInt_eq_div, Rat.den_divInt, if_neg (by omega), Int.gcd_comm]
  show ((u.natAbs / Nat.gcd n.natAbs u.natAbs : Nat) : Int) = _
  rw [Int.natCast_ediv]
  congr 1
  omega
section
variable {a b : Nat} {x y : Rat}
theorem Sz.mono (h : Sz a x) (l : a ≤ b) : Sz b x := ⟨h.n.mono l, h.d.mono l⟩
theorem Sz.of_frac {n u : Int} (h : 0 < u) (hn : Big a n) (hu : Big a u) : Sz a ((n : Rat) / (u : Rat)) := ⟨by rw [frac_num h]; exact hn.div, by rw [frac_den h]; exact hu.div⟩
theorem add_frac (x y : Rat) : x + y = ((x.num * y.den + y.num * x.den : Int) : Rat) / ((x.den * y.den : Int) : Rat) := by
  have h1 : ((x.den : Int) : Rat) ≠ 0 := by have := den_pos x; exact_mod_cast (show (x.den : Int) ≠ 0 by omega)
  have h2 : ((y.den : Int) : Rat) ≠ 0 := by have := den_pos y; exact_mod_cast (show (y.den : Int) ≠ 0 by omega)
  have e1 := val_eq x
  have e2 := val_eq y
  rw [Rat.intCast_add, Rat.intCast_mul, Rat.intCast_mul, Rat.intCast_mul]
  grind
theorem mul_frac (x y : Rat) : x * y = ((x.num * y.num : Int) : Rat) / ((x.den * y.den : Int) : Rat) := by
  have h1 : ((x.den : Int) : Rat) ≠ 0 := by have := den_pos x; exact_mod_cast (show (x.den : Int) ≠ 0 by omega)
  have h2 : ((y.den : Int) : Rat) ≠ 0 := by have := den_pos y; exact_mod_cast (show (y.den : Int) ≠ 0 by omega)
  have e1 := val_eq x
  have e2 := val_eq y
  rw [Rat.intCast_mul, Rat.intCast_mul]
  grind
theorem Sz.add (h : Sz a x) (k : Sz b y) : Sz (a + b + 1) (x + y) := by
  rw [add_frac]
  refine Sz.of_frac (Int.mul_pos (den_pos x) (den_pos y)) ?_ ((h.d.mul k.d).mono (by omega))
  exact ((h.n.mul k.d).add (k.n.mul h.d)).mono (by omega)
theorem Sz.neg (h : Sz a x) : Sz a (-x) := ⟨by rw [Rat.neg_num]; exact h.n.neg, by rw [Rat.neg_den]; exact h.d⟩
theorem Sz.sub (h : Sz a x) (k : Sz b y) : Sz (a + b + 1) (x - y) := by
  rw [Rat.sub_eq_add_neg]
  exact h.add k.neg
theorem Sz.mul (h : Sz a x) (k : Sz b y) : Sz (a + b) (x * y) := by
  rw [mul_frac]
  exact Sz.of_frac (Int.mul_pos (den_pos x) (den_pos y)) (h.n.mul k.n) (h.d.mul k.d)
theorem Sz.zero : Sz 1 0 := ⟨Big.zero, Big.one⟩
theorem Sz.one : Sz 1 1 := ⟨Big.one, Big.one⟩
end
section
variable {p q : Int × Int}
end
end DL
namespace DL
open PySem PySem.Spec L2
section
variable {X : Cx} {p : Qt}
def enumD (l : List D) : List D := zipD (rng 0 l.length) l
def dEnum (d : DA) : DI := fun τ R => d τ fun xs => match xs with
  | [.tup l] => R (enumD l)
  | _ => False
section
open PyProof.Rows hiding St
end
def gMulT : D → D → (D → Prop) → Prop := fun x y R => match x, y with
  | .tup l, .int k => (1 ≤ l.length ∧ 1 ≤ k ∧ k ≤ 1000 ∧ l.length ≤ 1000) ∧ R (.tup (List.replicate k.toNat l).flatten)
  | .int i, .int j => MulC i j ∧ R (.int (i * j))
  | _, _ => False
structure CN (j : Int) : Prop where
  ne : j ≠ 0
  few : j.natAbs < 1073741824
abbrev gDivN := gIIc (fun _ j => CN j) fun i j => .int (i.fdiv j)
end
section
variable {X : Cx} {p : Qt} {pos : Pos} {s0 : Shared} {H0 : Hp} {sc0 : Scope} {cl0 : List (Str × Addr)} {C0 : Addr} {fp0 : List Addr}
end
theorem seqIf {c : DT} {t u w : DS} {E : DEn} {τ : Sl} (b : Bool) (hc : ∀ Q : Bool → Prop, Q b → c τ Q) (h : if b = true then t { E with nx := w E } τ else u { E with nx := w E } τ) : dSeq (dIfS c t u) w E τ :=
  hc _ h
theorem ofNext {u : DS} {E : DEn} {τ : Sl} {rt : D → Prop} {bk ct : Sl → Prop} {ro : List D → Prop} (h : u E τ) : dNext { nx := u E, rt := rt, bk := bk, ct := ct, ro := ro } τ := h
theorem seqAsg {i : Nat} {d : DE} {w : DS} {E : DEn} {τ : Sl} (x : D) (hd : ∀ Q : D → Prop, Q x → d τ Q) (h : w E (τ.set i (some x))) : dSeq (dAsg d (gN i)) w E τ := hd _ h
theorem seqPar {i j : Nat} {d : DA} {w : DS} {E : DEn} {τ : Sl} (x y : D) (hd : ∀ Q : List D → Prop, Q [x, y] → d τ Q) (h : w E ((τ.set i (some x)).set j (some y))) : dSeq (dPar i j d) w E τ := by
  unfold dSeq dPar
  exact hd _ h
theorem seqAsgP {i : Nat} {d : DE} {w : DS} {E : DEn} {τ : Sl} (I : D → Prop) (hd : ∀ Q : D → Prop, (∀ x, I x → Q x) → d τ Q) (h : ∀ x, I x → w E (τ.set i (some x))) : dSeq (dAsg d (gN i)) w E τ := hd _ h
def dTru (d : DE) : DT := fun τ R => d τ fun x => match x with
  | .tup l => R (!l.isEmpty)
  | .lst l => R (!l.isEmpty)
  | _ => False
theorem seqTo {t u : DS} {E : DEn} {τ : Sl} (τ1 : Sl) (h1 : ∀ k : Sl → Prop, k τ1 → t { nx := k, rt := E.rt, bk := E.bk, ct := E.ct, ro := E.ro } τ) (h2 : u E τ1) : dSeq t u E τ := h1 _ h2
theorem seqOwnP {i : Nat} {d : DA} {w : DS} {E : DEn} {τ : Sl} (I : List D → Prop) (hd : ∀ Q : List D → Prop, (∀ l, I l → Q l) → d τ Q) (h : ∀ l, I l → w E (τ.set i (some (.own l)))) : dSeq (dOwn d i) w E τ := hd _ h
end DL
namespace DL
open PySem PySem.Spec L2
open PyProof.Rows hiding St
open HT in
open HT in
section
variable {X : Cx} {p : Qt}
end
section
variable {X : Cx} {p : Qt} {pos : Pos}
def dRev (d : DE) : DE := fun τ R => d τ fun x => match x with
  | .tup l => R (.tup l.reverse)
  | _ => False
def dFr (d : DA) : DE := fun τ R => d τ fun l => R (.lst l)
theorem pd_of {e : Expr} {d : DA} (he : PDF X p e d) : PD X p e (dFr d) := by
  obtain ⟨t, h1, h2⟩ := he.run
  refine ⟨t, h1, fun g0 F σ H τ Q R rel h q => ?_⟩
  refine h2 g0 F σ H τ Q _ rel h fun l a vs H' e nP hn hD il r => ?_
  have nF : a ∉ F := fun z => by
    obtain ⟨_, o, k1, k2⟩ := rel.al a z
    exact hn o k2.noT k1
  exact q (.lst l) (.ref a) H' e (.lst (Rd.of hD) ⟨nP, nF⟩ (il.less fun b hb => List.mem_cons_of_mem _ hb)) r
def dRepL (d : DA) (dn : DE) : DA := fun τ R => d τ fun l => dn τ fun k => match k with
  | .int k => (0 ≤ k ∧ k ≤ 1000 ∧ l.length ≤ 1000) ∧ R (List.replicate k.toNat l).flatten
  | _ => False
def dCatL (d d' : DA) : DA := fun τ R => d τ fun l => d' τ fun m => l.length + m.length ≤ 1000000 ∧ R (l ++ m)
theorem pdf_cat {a b : Expr} {d d' : DA} (ha : PDF X p a d) (hb : PDF X p b d') : PDF X p (.BinOp a .Add b pos) (dCatL d d') := by
  obtain ⟨t, h1, h2⟩ := ha.run
  obtain ⟨u, k1, k2⟩ := hb.run
  refine ⟨_, pe_op op_cat h1 k1, fun g0 F σ H τ Q R rel h q => ?_⟩
  refine h2 g0 F σ H τ _ _ rel h fun l a vs H1 e1 nP hn hD il r => ?_
  refine k2 g0 F σ H1 τ _ _ (rel.st e1) r fun m b ws H2 e2 nP2 hn2 hD2 il2 r2 => ?_
  have e12 := e1.trans e2
  have hl := il.len
  have hl2 := il2.len
  refine ⟨a, b, vs, ws, rfl, rfl, e2.kp _ _ nP (fun _ z => nomatch z) hD, hD2, by rw [sizeLine_eq]; omega, fun c hc => ?_⟩
  obtain ⟨nc, hc2⟩ := e12.nothere hc
  have i1 : IsL X.K p F H2 vs l := (il.less fun b hb => List.mem_cons_of_mem _ hb).mono e2.kp
  have i2 : IsL X.K p F H2 ws m := il2.less fun b hb => List.mem_cons_of_mem _ hb
  exact q _ c _ _ (e12.trans (.new e12.pk hc)) nc hc2 upd_same ((i1.app i2).fresh e12.pk hc) r2.2
def cSorted : List D → (D → Prop) → Prop := fun xs R => match xs with
  | [.lst l] => match intsOf l with
    | some ns => ns.length < 64 ∧ ∀ ns' : List Int, ns'.Perm ns → ns'.Pairwise (· ≤ ·) → R (.lst (ns'.map D.int))
    | none => False
  | _ => False
end
abbrev SpO := List D → (List D → Prop) → Prop
def toSpO (K : PySem.W.Frag) (tabs : Tf) (n : Nat) (sp : SpO) : Sp := fun vs H Q _ => vs.length = n ∧ ∃ (pot : Addr) (F : List Addr) (ds : List D) (R : List D → Prop), PkF ⟨pot, tabs⟩ F H ∧ IsL K ⟨pot, tabs⟩ F H vs ds ∧ sp ds R ∧
  ∀ l a ws H', Ex ⟨pot, tabs⟩ H H' → a ≠ pot → (∀ o, NoT o → H a ≠ some o) → H' a = some (.lst ws) → IsL K ⟨pot, tabs⟩ (a :: F) H' ws l → R l → Q (.ref a) H'
def SpO.sp (s : SpO) : SpD := fun ds R => s ds fun l => R (.lst l)
theorem toSpO_le {K : PySem.W.Frag} {tabs : Tf} {n : Nat} {s : SpO} {vs : List V} {H : Hp} {Q : VK} {E : XK} (h : toSp K tabs n s.sp vs H Q E) : toSpO K tabs n s vs H Q E := by
  obtain ⟨hl, pot, F, ds, R, pk, is, h, q⟩ := h
  refine ⟨hl, pot, F, ds, fun l => R (.lst l), pk, is, h, fun l a ws H' e nP hn hD il r => ?_⟩
  have nF : a ∉ F := fun z => by
    obtain ⟨_, o, k1, k2⟩ := pk.al a z
    exact hn o k2.noT k1
  exact q (.lst l) (.ref a) H' e (.lst (Rd.of hD) ⟨nP, nF⟩ (il.less fun b hb => List.mem_cons_of_mem _ hb)) r
section
variable {P : Program} {w : World} {K : PySem.W.Frag} {mg : Str → Option Value} {base : Heap} {tabs : Tf} {k : Nat} {f : Addr} {fd : FuncData} {ps : List Str} {sp : SpO}
end
structure CalO (P : Program) (w : World) (K : PySem.W.Frag) (mg : Str → Option Value) (base : Heap) (tabs : Tf) (x : Str) (k n : Nat) (ps : List Str) (kb : List (List Str × Nat × List Nat)) (sp : SpO) : Prop where
  ex : ∃ (f : Addr) (fd : FuncData), FnG P w K mg base CX0 k f fd ps (toSpO K tabs n sp) ∧ mg x = some (.ref f) ∧ PySem.W.keepIn K (.ref f) = true ∧ Binds K fd ps [] ∧ ∀ q ∈ kb, BindK K fd ps q.1 q.2.1 q.2.2
section
variable {P : Program} {w : World} {K : PySem.W.Frag} {mg : Str → Option Value} {base : Heap} {k n : Nat} {ps : List Str} {sp : SpO} {kb : List (List Str × Nat × List Nat)} {tabs : Tf} {x : Str}
theorem CalO.cal (C : CalO P w K mg base tabs x k n ps kb sp) : Cal P w K mg base tabs x k n ps kb sp.sp := by
  obtain ⟨f, fd, F, r⟩ := C.ex
  exact ⟨f, fd, ⟨fun vs H Q E h => F.len vs H Q E (toSpO_le h), fun A outer s H args us vs Q E g r ev b v h => F.go A outer s H args us vs Q E g r ev b v (toSpO_le h)⟩, r⟩
end
section
variable {X : Cx} {p : Qt} {pos q : Pos} {e : Expr} {es : List Expr} {ds : DA} {k j n : Nat} {ps : List Str} {sp : SpO} {x : Str} {kb : List (List Str × Nat × List Nat)}
def dBO (g : List D → (List D → Prop) → Prop) (t : DA) : DA := fun τ R => t τ fun xs => g xs R
def dRetF (d : DA) : DS := fun E τ => d τ E.ro
def dRetO (i : Nat) : DS := fun E τ => match τ[i]? with
  | some (some (.own l)) => E.ro l
  | _ => False
end
end DL
namespace DL
open PySem PySem.Spec L2
end DL
namespace DL
open PySem PySem.Spec L2
open PyProof.Rows hiding St
structure CNB (j : Int) : Prop where
  ne : j ≠ 0
  few : j.natAbs.log2 < 8990
theorem CNB.big {a : Nat} {j : Int} (h : j ≠ 0) (k : Big a j) (c : a ≤ 8980) : CNB j := by
  refine ⟨h, ?_⟩
  have h0 : j.natAbs ≠ 0 := by omega
  have := (Nat.log2_lt h0).mpr k.lt
  omega
section
variable {X : Cx} {p : Qt}
abbrev gDivNB := gIIc (fun _ j => CNB j) fun i j => .int (i.fdiv j)
end
end DL
namespace DL
end DL
namespace DL
end DL
namespace DL
open PySem PySem.Spec L2
open PyProof.Rows hiding St
section
variable {X : Cx} {p : Qt} {pos : Pos}
def dParO (i j : Nat) (da : DE) (db : DA) : DS := fun E τ => da τ fun x => db τ fun l => E.nx ((τ.set i (some x)).set j (some (.own l)))
end
end DL
namespace DL
end DL
namespace DL
theorem seqTo' {t u : DS} {E : DEn} {τ : Sl} (I : Sl → Prop) (h1 : ∀ k : Sl → Prop, (∀ τ', I τ' → k τ') → t { nx := k, rt := E.rt, bk := E.bk, ct := E.ct, ro := E.ro } τ) (h2 : ∀ τ', I τ' → u E τ') : dSeq t u E τ := h1 _ h2
end DL
namespace DL
open PySem PySem.Spec L2
open PyProof.Rows hiding St
section
variable {X : Cx} {p : Qt}
def dZipM (d : DA) : DI := fun τ R => d τ fun xs => match xs with
  | [.tup l, .lst m] => R (zipD l m)
  | _ => False
end
end DL
namespace DL
open PySem PySem.Spec L2
open PyProof.Rows hiding St
section
variable {X : Cx} {p : Qt} {pos : Pos}
def dSlO (i : Nat) (lo hi : DO) : DA := fun τ R => match τ[i]? with
  | some (some (.own l)) => lo τ fun a => hi τ fun b => R (cutD l a b)
  | _ => False
theorem pdf_slO {i : Nat} {x : Str} {px p2 : Pos} {lo hi : Option Expr} {dl dh : DO} (hl : PDO X p lo dl) (hh : PDO X p hi dh) (hN : X.N[i]? = some x := by rfl) (hv : Vis X.env.scope x := by first | exact Or.inl rfl | exact Or.inr (Or.inl rfl) | exact Or.inr (Or.inr rfl))
    (hd : (x == ("__debug__" : Str)) = false := by decide) (hcd : (x == ("__classdict__" : Str)) = false := by decide) : PDF X p (.Subscript (.Name x px) (.Slice lo hi none p2) pos) (dSlO i dl dh) := by
  obtain ⟨tl, l1, l2⟩ := hl.run
  obtain ⟨th, k1, k2⟩ := hh.run
  refine ⟨_, pe_slice sl_list (pe_var hN hv hd hcd) l1 k1, fun g0 F σ H τ Q R rel h q => ?_⟩
  unfold dSlO at h
  split at h
  · rename_i l ht
    obtain ⟨c, vs, s1, s2, s3, s4, s5⟩ := rel.ow i l ht
    refine ⟨.ref c, s1, ?_⟩
    refine l2 g0 F σ H τ _ _ rel h fun a H2 e2 h2 => ?_
    refine k2 g0 F σ H2 τ _ _ (rel.st e2) h2 fun b H3 e3 h3 => ?_
    have e := e2.trans e3
    refine ⟨c, vs, rfl, .inl (.inl (e.kp _ _ (rel.al c s3).1 (fun _ z => nomatch z) s2)), fun t ht => ?_⟩
    obtain ⟨nP, nh⟩ := e.nothere ht
    exact q _ t _ _ (e.trans (.new e.pk ht)) nP nh upd_same (((s5.mono e.kp).cut a b).fresh e.pk ht) h3
  · exact h.elim
def dCatO (i : Nat) (d : DA) : DA := fun τ R => match τ[i]? with
  | some (some (.own m)) => d τ fun l => l.length + m.length ≤ 1000000 ∧ R (l ++ m)
  | _ => False
def dRevL (d : DE) : DE := fun τ R => d τ fun x => match x with
  | .lst l => R (.lst l.reverse)
  | _ => False
end
end DL
namespace DL
open PySem PySem.Spec L2
open PyProof.Rows hiding St
def zipD3 : List D → List D → List D → List D
  | x :: xs, y :: ys, z :: zs => .tup [x, y, z] :: zipD3 xs ys zs
  | _, _, _ => []
theorem zipD3_map {α β γ : Type} (f : α → D) (g : β → D) (k : γ → D) : ∀ (l : List α) (m : List β) (n : List γ), zipD3 (l.map f) (m.map g) (n.map k) = (l.zip (m.zip n)).map fun q => .tup [f q.1, g q.2.1, k q.2.2]
  | [], _, _ => by simp [zipD3]
  | _ :: _, [], _ => by simp [zipD3]
  | _ :: _, _ :: _, [] => by simp [zipD3]
  | x :: l, y :: m, z :: n => by
    simp only [List.map_cons, zipD3, List.zip_cons_cons]
    rw [zipD3_map f g k l m n]
section
variable {X : Cx} {p : Qt}
def dZip3 (d : DA) : DI := fun τ R => d τ fun xs => match xs with
  | [.tup l, .tup m, .tup n] => R (zipD3 l m n)
  | _ => False
structure ShlC (i j : Int) : Prop where
  a : 0 ≤ j
  b : j ≤ 1000000
  c : i.natAbs < 2 ^ 64
abbrev gShl := gIIc ShlC fun i j => .int (i * 2 ^ j.toNat)
end
section
variable {X : Cx} {p : Qt} {pos : Pos}
def dParOO (i j : Nat) (da db : DA) : DS := fun E τ => da τ fun l => db τ fun m => m = [] ∧ E.nx ((τ.set i (some (.own l))).set j (some (.own [])))
end
end DL
namespace DL
open PySem PySem.Spec L2 PySem.W PySem.Calls Builtin Builtin.ObjectAttr
open PyProof.Rows hiding St
structure OxG (K : PySem.W.Frag) (C : Addr) (B newId initId : String) (bmB : List Value) : Prop where
  fb : ExcBaseFacts B newId initId bmB
  sf : StoreFacts B bmB "object.__setattr__" "object"
  ini : excInitIn K C bmB newId = true
  ovr : excOver K C bmB = true
  dic : hasDictIn K C = true
  sa : findIn K (.ref C) "__setattr__" = some (some (.builtin "object.__setattr__"))
  sub : subIn K (.ref C) (.type "BaseException") = some true
  ty : typeIn K (.ref C) = some (.type "type")
  kp : keepIn K (.ref C) = true
section
variable {prog : Program} {w : World} {A : Around} {R : Result → Shared → Prop} {hp : Heap} {g : Array GenState} {d : Drawn} {t : Nat} {os : OsState} {K : PySem.W.Frag} {C x t1 : Addr} {B newId initId : String} {bmB : List Value} {name : Str} {tk : Tok} {v : Value}
theorem taker0 (h : findIn K (.ref C) name = some none) : takerIn K C name = some none := by
  unfold takerIn
  rw [h]
  rfl
theorem store1 (T : OxG K C B newId initId bmB) (X : K.In hp) (hx : hp.get? x = some (excObj C t1 none .none)) (ha : findIn K (.ref C) name = some none)
    (hq : ∀ h' tk' dx, (∀ b o, b ≠ x → hp.get? b = some o → h'.get? b = some o) → hp.objs.size ≤ dx → dx ≠ x → h'.get? x = some (excObj C t1 (some dx) .none) → h'.Ns1 dx (fun y => if y = name then some v else none) → R (.ok (.ret .none)) ⟨h', g, d, tk', os⟩) :
    codeAny (model prog w) A (.call (.builtin "object.__setattr__") ⟨[.ref x, .str name tk, v], []⟩) R ⟨hp, g, d, t, os⟩ := by
  refine osa_openX (s := ⟨hp, g, d, t, os⟩) (od := none) T.sf X ⟨hx, rfl, rfl, trivial⟩ T.ovr (taker0 ha) fun b => ?_
  obtain ⟨cd, hc, hd⟩ := any_some T.dic
  have lt : x < hp.objs.size := Heap.lt_size hx
  have ne : hp.objs.size ≠ x := Nat.ne_of_gt lt
  refine wpAny_bind (wpAny_pure (wpAny_bind (instanceDict_exc hx (looks_clsIn X hc) hd ?_)))
  show wpAny _ _ (storeInDict hp.objs.size (.str name tk) name v) _ _ _
  refine HandSPX.store_in_new ?_ fun h' tk' hn hs => ?_
  · refine ⟨_, #[], _, (Heap.get?_update_ne _ _ _ _ ne).trans (Heap.get?_push_at rfl rfl), rfl, fun e he => absurd he (by simp), fun _ => rfl⟩
  have up : (hp.push { cls := .type "dict", data := .dict #[] }).get? x = some (excObj C t1 none .none) := Heap.get?_push_of_some _ hx
  refine hq h' tk' hp.objs.size (fun b o nb ho => ?_) (Nat.le_refl _) ne ((hs.2 x ne.symm).trans (Heap.get?_update_self _ up rfl)) hn
  have b1 := Nat.ne_of_lt (Heap.lt_size ho)
  exact (hs.2 b b1).trans ((Heap.get?_update_ne _ _ _ _ nb).trans (Heap.get?_push_of_some _ ho))
theorem store2 {dx : Addr} {m0 : Str → Option Value} {nl : List Str} (T : OxG K C B newId initId bmB) (X : K.In hp) (hx : hp.get? x = some (excObj C t1 (some dx) .none)) (hns : hp.Ns1 dx m0) (hw : Within m0 nl) (hz : nl.length ≤ 1000) (ha : findIn K (.ref C) name = some none)
    (hq : ∀ h' tk', (∀ b o, b ≠ dx → hp.get? b = some o → h'.get? b = some o) → h'.Ns1 dx (fun y => if y = name then some v else m0 y) → R (.ok (.ret .none)) ⟨h', g, d, tk', os⟩) :
    codeAny (model prog w) A (.call (.builtin "object.__setattr__") ⟨[.ref x, .str name tk, v], []⟩) R ⟨hp, g, d, t, os⟩ := by
  obtain ⟨oD, _, _, hoD, _, _⟩ := hns.count hw
  refine osa_openX (s := ⟨hp, g, d, t, os⟩) (od := some oD) T.sf X ⟨hx, rfl, rfl, hoD⟩ T.ovr (taker0 ha) fun b => ?_
  obtain ⟨cd, hc, hd⟩ := any_some T.dic
  refine wpAny_bind (wpAny_pure (wpAny_bind (wpAny_bind (wpAny_loadPart hx (wpAny_bind ((looks_clsIn X hc).here ?_))))))
  rw [hd]
  refine wpAny_pure (a := some dx) ?_
  exact OEX.store_in_old hns hw hz fun h' tk' hn hs => hq h' tk' (fun b o nb ho => (hs.2 b nb).trans ho) hn
end
section
variable {X : Cx} {pins : List (Addr × Obj)} {σ : L2.St} {H : Hp} {s : Shared} {a C dx : Addr} {f : Str} {y : V} {u : Value} {fs : List (Str × V)} {Q : Unit → Shared → Prop} {E : Value → Shared → Prop} {A : Around} {B newId initId : String} {bmB : List Value}
theorem putF1 (T : OxG X.K C B newId initId bmB) (I : Inv X pins σ H s) (e : H a = some (exo a C none)) (hno : findIn X.K (.ref C) f = some none) (ry : RelV y u)
    (h : ∀ dx s', H dx = none → dx ≠ a → Inv X pins σ (upd (upd H a (exo a C (some dx))) dx (exd dx [(f, y)])) s' → Q () s') : wpAny (model X.prog X.w) A (setAttr (.ref a) f u) Q E s := by
  obtain ⟨t1, ho⟩ := exo_at I.hok e
  obtain ⟨hp, g, d, t, os⟩ := s
  refine set_plain I.kIn (ox := excObj C t1 none .none) (od := none) ⟨ho, rfl, rfl, trivial⟩ T.sa ?_
  refine store1 T I.kIn ho hno fun h' tk' dx k dn dne hx hn => ?_
  have ea : (hp.update a fun o => { o with dict := some dx }).get? a = some (excObj C t1 (some dx) .none) := Heap.get?_update_self _ ho rfl
  have J : Inv X pins σ (upd H a (exo a C (some dx))) ⟨hp.update a (fun o => { o with dict := some dx }), g, d, t, os⟩ :=
    I.write (t' := t) (x := a) (e := a) (o := exo a C (some dx)) (by rw [e]; exact True.intro) (.inl rfl) (fun b o nb q => (Heap.get?_update_ne _ _ _ _ nb).trans q) ⟨_, ea⟩ (exo_ok ea)
  have sz : (hp.update a fun o => { o with dict := some dx }).objs.size ≤ dx := by
    first
      | (rw [Heap.size_update]; exact dn)
      | (simp [Heap.update]; exact dn)
      | exact dn
  refine h dx _ (I.hok.fresh dn) dne (J.laid (t' := tk') (a := dx) (o := exd dx [(f, y)]) (fun b o q => ?_) sz (exd_ok hn (relO_put (fs := []) ry fun g => True.intro)))
  by_cases hb : b = a
  · subst hb
    rw [ea] at q
    cases q
    exact hx
  · exact k b o hb ((Heap.get?_update_ne _ _ _ _ hb).symm.trans q)
theorem putF2 (T : OxG X.K C B newId initId bmB) (I : Inv X pins σ H s) (e : H a = some (exo a C (some dx))) (ed : H dx = some (exd dx fs)) (hl : fs.length ≤ 900) (hno : findIn X.K (.ref C) f = some none) (ry : RelV y u)
    (h : ∀ s', Inv X pins σ (upd H dx (exd dx ((f, y) :: fs))) s' → Q () s') : wpAny (model X.prog X.w) A (setAttr (.ref a) f u) Q E s := by
  obtain ⟨t1, ho⟩ := exo_at I.hok e
  obtain ⟨mA, hns, rel⟩ := exd_at I.hok ed
  have hw := within_of rel
  obtain ⟨hp, g, d, t, os⟩ := s
  obtain ⟨oD, _, _, hoD, _, _⟩ := hns.count hw
  refine set_plain I.kIn (ox := excObj C t1 (some dx) .none) (od := some oD) ⟨ho, rfl, rfl, hoD⟩ T.sa ?_
  refine store2 T I.kIn ho hns hw (by rw [List.length_map]; omega) hno fun h' tk' k hn => ?_
  obtain ⟨o2, _, _, e2, _⟩ := id hn
  exact h _ (I.write (t' := tk') (x := dx) (e := dx) (o := exd dx ((f, y) :: fs)) (by rw [ed]; exact True.intro) (.inl rfl) k ⟨o2, e2⟩ (exd_ok hn (relO_put ry rel)))
def tPut (K : PySem.W.Frag) (B newId initId : String) (bmB : List Value) (f : Str) (to te : TE) : TS := fun D σ H => te σ H fun y H1 => to σ H1 fun x H2 => ∃ a C : Addr, x = .ref a ∧ OxG K C B newId initId bmB ∧ findIn K (.ref C) f = some none ∧
  ((H2 a = some (exo a C none) ∧ ∀ dx, H2 dx = none → dx ≠ a → D.nx σ (upd (upd H2 a (exo a C (some dx))) dx (exd dx [(f, y)]))) ∨
    ∃ (dx : Addr) (fs : List (Str × V)), H2 a = some (exo a C (some dx)) ∧ H2 dx = some (exd dx fs) ∧ fs.length ≤ 900 ∧ D.nx σ (upd H2 dx (exd dx ((f, y) :: fs))))
theorem ps_put {o e : Expr} {to te : TE} {p' pos : Pos} (ho : PE X o to) (he : PE X e te) (hs : swapsWith e (some (.Attribute o f p')) pos.line X.env = pure false := by rfl) : PS X (.Assign [.Attribute o f p'] e pos) (tPut X.K B newId initId bmB f to te) := by
  refine ⟨fun pins s σ H D I h => ?_⟩
  refine plainObj_wpAny_Assign_Attribute (thn (he.run pins s σ H _ I h) fun v s1 x1 => ?_) hs
  obtain ⟨y, H1, I1, r1, q1⟩ := x1
  refine thn (ho.run pins s1 σ H1 _ I1 q1) fun u s2 x2 => ?_
  obtain ⟨x, H2, I2, r2, a, C, ex, T, hno, q⟩ := x2
  subst ex
  obtain rfl : u = Value.ref a := r2
  rcases q with ⟨ea, q⟩ | ⟨dx, fs, ea, ed, hl, q⟩
  · exact putF1 T I2 ea hno r1 fun dx s' n ne J => ⟨σ, _, J, q dx n ne⟩
  · exact putF2 T I2 ea ed hl hno r1 fun s' J => ⟨σ, _, J, q⟩
def tMk (C : Addr) (sp : Sp) (ta : TA) : L2.St → Hp → XK → Prop := fun σ H Q => ta σ H fun vs H1 => vs.length ≤ 1000 ∧ ∀ a, H1 a = none → sp (.ref a :: vs) (upd H1 a (exo a C none))
  (fun v H2 => v = .non ∧ ((∃ (d : Addr) (fs : List (Str × V)), H2 a = some (exo a C (some d)) ∧ H2 d = some (exd d fs) ∧ H1 d = none ∧ Q (.ref C) (some d) (upd (del H2 a) d (.xd fs)))
    ∨ (H2 = upd H1 a (exo a C none) ∧ Q (.ref C) none H1))) (fun _ _ _ => False)
end
section
variable {X : Cx} {pins : List (Addr × Obj)} {σ : L2.St} {H1 H2 : Hp} {Q : XK} {B newId initId : String} {bmB : List Value} {C fI a : Addr}
theorem mk_bare {hp hp2 h2 : Heap} {g1 g2 : Array GenState} {d1 d2 : Drawn} {n1 n2 : Nat} {os1 os2 : OsState} (T : Raises X (.ref C)) (I1 : Inv X pins σ H1 ⟨hp, g1, d1, n1, os1⟩) (ha : hp.objs.size ≤ a) (k : ∀ b o, hp.get? b = some o → hp2.get? b = some o)
    (un : Un (frs X.stack) [] (upd H1 a (exo a C none)) (upd H1 a (exo a C none)) hp2 h2) (hok : HOk X.prog X.w (upd H1 a (exo a C none)) h2) (ho : os2 = os1) (hb : AllBare g2) (q : Q (.ref C) none H1) : MkP X pins σ Q (.ref a) ⟨h2, g2, d2, n2, os2⟩ := by
  obtain ⟨t0, hoe⟩ := exo_at hok upd_same
  have hn : H1 a = none := I1.hok.fresh ha
  obtain ⟨G, ge1, ge2⟩ := restrict h2 fun b => decide (b ≠ a)
  have gk : ∀ b, b ≠ a → G.get? b = h2.get? b := fun b nb => ge1 b (decide_eq_true nb)
  have ge : G.get? a = none := ge2 a (by simp)
  have nb : ∀ {b : Addr} {o : Obj}, hp.get? b = some o → b ≠ a := fun {b o} z => Nat.ne_of_lt (Nat.lt_of_lt_of_le (Heap.lt_size z) ha)
  have na : ∀ {b : Addr} {o : HO}, H1 b = some o → b ≠ a := fun {b o} z e => by rw [e, hn] at z; cases z
  have un0 : ∀ {b : Addr} {o : Obj}, hp.get? b = some o → H1 b = none → upd H1 a (exo a C none) b = none := fun {b o} z n => by rw [upd_ne (nb z)]; exact n
  have U : Un (frs X.stack) [] H1 H1 hp G :=
    { keep := fun b o z n f x => (gk b (nb z)).trans (un.keep b o (k b o z) (un0 z n) f x)
      slot := fun b o z n f x => by rw [gk b (nb z)]; exact un.slot b o (k b o z) (un0 z n) f x
      free := fun b o z n x => n
      there := fun b o z x => by rw [gk b (nb z)]; exact un.there b o (k b o z) x
      tups := fun b xs z => z
      frzs := fun b o v z => z
      tbls := fun b ps z => ⟨#[], by rw [z]; simp⟩ }
  have hk3 : HOk X.prog X.w H1 G := fun b o z => by
    have zb := na z
    have zo : ∀ {c : Addr}, upd H1 a (exo a C none) c = some (.own b) → c ≠ a := fun {c} hc e => by
      rw [e, upd_same] at hc
      exact exo_own (Option.some.inj hc)
    refine (hok b o (by rw [upd_ne zb]; exact z)).stay (fun c v hc y => ?_) (fun c hc => ?_) fun c xs hc => ?_
    · have ca : c ≠ a := by
        rcases hc with rfl | hc
        · exact zb
        · exact zo hc
      rw [gk c ca]
      exact y
    · rw [upd_ne (zo hc)] at hc
      exact hc
    · have ca : c ≠ a := fun e => by
        rw [e, upd_same] at hc
        exact exo_tup (Option.some.inj hc)
      rw [upd_ne ca] at hc
      exact hc
  have J : Inv X pins σ H1 ⟨G, g2, d2, n2, os2⟩ := I1.call' (ch := []) ho U hk3 hb fun b z => absurd z (by simp)
  refine ⟨a, _, _, ⟨G, g2, d2, n2, os2⟩, H1, .ref C, none, rfl, J, fun b o z => ?_, ge, hoe, ⟨rfl, rfl⟩, rfl, rfl, hn, rfl, hb, T, q⟩
  by_cases e : b = a
  · rw [e, ge] at z
    cases z
  · exact (gk b e).symm.trans z
theorem make_core {CX : CXT} {k : Nat} {fd : FuncData} {ps : List Str} {sp : Sp} {us : List Value} {vs : List V} {s1 : Shared} (T : OxG X.K C B newId initId bmB) (iC : findIn X.K (.ref C) "__init__" = some (some (.ref fI))) (tI : typeIn X.K (.ref fI) = some (.type "function"))
    (F1 : FnOk X.prog X.w X.K X.mg X.base CX k fI fd ps sp) (hr : Room (k + 1) X.A) (hb : L2.Binds X.K fd ps []) (hx : Passes CX X (fun _ _ _ => False)) (I1 : Inv X pins σ H1 s1) (r1 : Vals vs us) (hl : vs.length ≤ 1000)
    (q1 : ∀ a, H1 a = none → sp (.ref a :: vs) (upd H1 a (exo a C none)) (fun v H2 => v = .non ∧ ((∃ (d : Addr) (fs : List (Str × V)), H2 a = some (exo a C (some d)) ∧ H2 d = some (exd d fs) ∧ H1 d = none ∧ Q (.ref C) (some d) (upd (del H2 a) d (.xd fs))) ∨ (H2 = upd H1 a (exo a C none) ∧ Q (.ref C) none H1))) (fun _ _ _ => False)) :
    wpAny (model X.prog X.w) X.A (call (.ref C) us) (MkP X pins σ Q) X.xe s1 := by
  obtain ⟨nm, N, qn, bs, bm, hdct, sn, sub, ab, col, dd, k0, k1, k2, k3, k5, hC, hT⟩ := excInit_of I1.kIn T.ini
  obtain ⟨hp, g, dr, tk, os⟩ := s1
  have sz : hp.objs.size ≤ hp.objs.size + 1 := Nat.le_succ _
  have hq := q1 (hp.objs.size + 1) (I1.hok.fresh sz)
  have kk : ∀ b o, hp.get? b = some o → ((hp.push (kdv_tup us)).push (HandSPX.excO C hp.objs.size)).get? b = some o := fun b o e => Heap.get?_push_of_some _ (Heap.get?_push_of_some _ e)
  have hget : ((hp.push (kdv_tup us)).push (HandSPX.excO C hp.objs.size)).get? (hp.objs.size + 1) = some (HandSPX.excO C hp.objs.size) := by heap_get
  have I2 : Inv X pins σ (upd H1 (hp.objs.size + 1) (exo (hp.objs.size + 1) C none)) ⟨(hp.push (kdv_tup us)).push (HandSPX.excO C hp.objs.size), g, dr, tk, os⟩ := I1.laid (t' := tk) kk sz (exo_ok hget)
  have lu := Paired.length r1
  have r2 : Vals (V.ref (hp.objs.size + 1) :: vs) (Value.ref (hp.objs.size + 1) :: us) := .cons rfl r1
  have lp : (Value.ref (hp.objs.size + 1) :: us).length = ps.length := (Paired.length r2).symm.trans (F1.len _ _ _ _ hq)
  have hus : us.length ≤ sizeLine := by
    rw [← lu, sizeLine_eq]
    omega
  refine wpAny_call (HandSPX.call_own T.fb hT hC (looks_findIn I1.kIn iC) (fun self => bind_fn I1.kIn self tI) hus ?_)
  have hbd := hb _ (Value.ref (hp.objs.size + 1) :: us) I2.kIn (by simpa using lp)
  rw [List.append_nil] at hbd
  refine codeAny_mono (F1.run _ X.stack _ _ ⟨Value.ref (hp.objs.size + 1) :: us, []⟩ (Value.ref (hp.objs.size + 1) :: us) _ _ (fun _ _ _ => False) (hr.make C us []) (I2.env0.make C us []) hbd r2 hq) fun r s' z => ?_
  match r, z with
  | .error er, z => exact hx pins σ _ _ er s' I2 z
  | .ok .next, z => exact False.elim z
  | .ok .brk, z => exact False.elim z
  | .ok .cont, z => exact False.elim z
  | .ok (.ret u), z =>
    obtain ⟨v, H2, os2, bare2, un2, hok2, rv, ev, fin⟩ := z
    subst ev
    obtain ⟨h2, g2, d2, t2, os'⟩ := s'
    rcases fin with ⟨d, fs, ea, ed, hd1, q2⟩ | ⟨rfl, q2⟩
    · exact ⟨rv, mk_end (raises_own T.sub T.ty) I1 sz kk un2 hok2 os2 bare2 ea ed hd1 q2⟩
    · exact ⟨rv, mk_bare (raises_own T.sub T.ty) I1 sz kk un2 hok2 os2 bare2 q2⟩
section
variable {CX : CXT} {x : Str} {k : Nat} {fd : FuncData} {ps : List Str} {sp : Sp} {e : Expr} {es : List Expr} {ta : TA} {p pos : Pos}
theorem pmk_gen (T : OxG X.K C B newId initId bmB) (iC : findIn X.K (.ref C) "__init__" = some (some (.ref fI))) (tI : typeIn X.K (.ref fI) = some (.type "function")) (F1 : FnOk X.prog X.w X.K X.mg X.base CX k fI fd ps sp) (hr : Room (k + 1) X.A) (hb : L2.Binds X.K fd ps [])
    (hx : Passes CX X (fun _ _ _ => False)) (hg : Gl X x) (hm : X.mg x = some (.ref C)) (ha : PA X (e :: es) ta) (hdb : (x == ("__debug__" : Str)) = false := by decide)
    (he : starEach (e :: es) X.env = (false, eval e X.env) :: starEach es X.env := by rfl) (hpl : (backTo pos (starEach es X.env)).any (·.1) = false := by rfl) : PMk X (.Call (.Name x p) (e :: es) [] pos) (tMk C sp ta) := by
  intro pins s σ H Q I h
  refine wpAny_Call_Name_kw (ld_glob I hg hm ?_ hdb)
  refine callWith_K (h₀ := X.base) I.ok.mod.kin T.kp (thn (ha.run pos pins s σ H _ I h) fun us s1 y => ?_) he hpl
  obtain ⟨vs, H1, I1, r1, hl, q1⟩ := y
  exact ⟨I1.kIn, make_core T iC tI F1 hr hb hx I1 r1 hl q1⟩
theorem pmk_gen0 (T : OxG X.K C B newId initId bmB) (iC : findIn X.K (.ref C) "__init__" = some (some (.ref fI))) (tI : typeIn X.K (.ref fI) = some (.type "function")) (F1 : FnOk X.prog X.w X.K X.mg X.base CX k fI fd ps sp) (hr : Room (k + 1) X.A) (hb : L2.Binds X.K fd ps [])
    (hx : Passes CX X (fun _ _ _ => False)) (hg : Gl X x) (hm : X.mg x = some (.ref C)) (hdb : (x == ("__debug__" : Str)) = false := by decide) : PMk X (.Call (.Name x p) [] [] pos) (tMk C sp tNil) := by
  intro pins s σ H Q I h
  refine wpAny_Call_Name_kw (ld_glob I hg hm ?_ hdb)
  obtain ⟨hl, q1⟩ := (show ([] : List V).length ≤ 1000 ∧ _ from h)
  exact callWith_K0 I.kIn T.kp (make_core T iC tI F1 hr hb hx I .nil hl q1)
end
end
end DL
namespace DL
open PySem PySem.Spec L2
open PyProof.Rows hiding St
structure XD where
  c : Str
  fs : List (Str × D)
structure IsXD (K : PySem.W.Frag) (p : Qt) (F : List Addr) (H : Hp) (cls : Value) (d : Option Addr) (x : XD) : Prop where
  cl : ∃ C : Addr, p.tf.fns x.c = some (.ref C) ∧ cls = .ref C
  fl : ∀ q ∈ x.fs, ∃ (dx : Addr) (fs : List (Str × V)) (v : V), d = some dx ∧ H dx = some (.xd fs) ∧ fs.lookup q.1 = some v ∧ Is K p F H v q.2
abbrev SpX := List D → (D → Prop) → (XD → Prop) → Prop
def toSpX (K : PySem.W.Frag) (tabs : Tf) (n : Nat) (sp : SpX) : Sp := fun vs H Q E => vs.length = n ∧ ∃ (pot : Addr) (F : List Addr) (ds : List D) (R : D → Prop) (Rx : XD → Prop), PkF ⟨pot, tabs⟩ F H ∧ IsL K ⟨pot, tabs⟩ F H vs ds ∧ sp ds R Rx ∧
  (∀ x v H', Ex ⟨pot, tabs⟩ H H' → Is K ⟨pot, tabs⟩ F H' v x → R x → Q v H') ∧ ∀ x cls d H', Ex ⟨pot, tabs⟩ H H' → IsXD K ⟨pot, tabs⟩ F H' cls d x → Rx x → E cls d H'
theorem IsXD.less {K : PySem.W.Frag} {p : Qt} {F G : List Addr} {H : Hp} {cls : Value} {d : Option Addr} {x : XD} (h : IsXD K p F H cls d x) (e : ∀ b ∈ G, b ∈ F) : IsXD K p G H cls d x :=
  ⟨h.cl, fun q hq => by
    obtain ⟨dx, fs, v, h1, h2, h3, h4⟩ := h.fl q hq
    exact ⟨dx, fs, v, h1, h2, h3, h4.less e⟩⟩
section
variable {X : Cx} {CX : CXT} {k n : Nat} {f : Addr} {fd : FuncData} {ps ks : List Str} {sp : Sp} {E : L2.St → XK} {x : Str} {q pos : Pos} {e : Expr} {es : List Expr} {kws : List Keyword} {t tk : TA}
theorem goGS {pins : List (Addr × Obj)} {σ : L2.St} {H : Hp} {s : Shared} {Q : VK} {args : Args} {us : List Value} {vs : List V} {E : XK} (F : FnG X.prog X.w X.K X.mg X.base CX k f fd ps sp) (hg : X.A.guards = some []) (hr : Room k X.A) (hx : PassesAt CX X σ E)
    (I : Inv X pins σ H s) (hb : BindsTo s fd args (ps.zip us)) (r : Vals vs us) (h : sp vs H Q E) : wpAny (model X.prog X.w) X.A (call (.ref f) args.pos args.kw) (EP X pins σ Q) X.xe s := by
  refine wpAny_call (codeAny_mono (F.go X.A X.stack s H args us vs Q E hg hr I.env0 hb r h) ?_)
  intro res s' out
  match res, out with
  | .error v, o => exact hx pins H s v s' I o
  | .ok (.ret u), o => exact I.after o
  | .ok .next, o => exact False.elim o
  | .ok .brk, o => exact False.elim o
  | .ok .cont, o => exact False.elim o
theorem pe_callGS (F : FnG X.prog X.w X.K X.mg X.base CX k f fd ps sp) (hgu : X.A.guards = some []) (hr : Room k X.A) (hx : ∀ σ, PassesAt CX X σ (E σ)) (hg : Gl X x) (hm : X.mg x = some (.ref f)) (hk : PySem.W.keepIn X.K (.ref f) = true) (hb : Binds X.K fd ps [])
    (ha : PA X (e :: es) t) (hdb : (x == ("__debug__" : Str)) = false := by decide) (he : starEach (e :: es) X.env = (false, eval e X.env) :: starEach es X.env := by rfl) (hpl : (backTo pos (starEach es X.env)).any (·.1) = false := by rfl) :
    PE X (.Call (.Name x q) (e :: es) [] pos) (fun σ H Q => t σ H fun vs H1 => sp vs H1 Q (E σ)) := by
  refine ⟨fun pins s σ H Q I h => wpAny_Call_Name_kw (ld_glob I hg hm ?_ hdb)⟩
  refine PySem.W.callWith_K (h₀ := X.base) I.ok.mod.kin hk (thn (ha.run pos pins s σ H _ I h) ?_) he hpl
  rintro us s1 ⟨vs, H1, I1, r, z⟩
  have hl : (us ++ []).length = ps.length := by rw [List.append_nil, ← r.length]; exact F.len _ _ _ _ z
  have b := hb s1 us I1.kIn hl
  rw [List.append_nil] at b
  exact ⟨I1.kIn, goGS (args := ⟨us, []⟩) F hgu hr (hx σ) I1 b r z⟩
theorem pe_callGK0S (F : FnG X.prog X.w X.K X.mg X.base CX k f fd ps sp) (hgu : X.A.guards = some []) (hr : Room k X.A) (hx : ∀ σ, PassesAt CX X σ (E σ)) (hg : Gl X x) (hm : X.mg x = some (.ref f)) (hk : PySem.W.keepIn X.K (.ref f) = true) {perm : List Nat} (hb : BindK X.K fd ps ks 0 perm)
    (hkw : PK X kws tk) (hall : (backToKw pos (keywordEach kws X.env)).all (·.1.isSome) = true := by rfl) (hks : (backToKw pos (keywordEach kws X.env)).filterMap (·.1) = ks := by rfl)
    (hdb : (x == ("__debug__" : Str)) = false := by decide)
    (hpl : ((backTo pos (starEach [] X.env)).any (·.1) || (backToKw pos (keywordEach kws X.env)).any (·.1.isNone)) = false := by rfl) :
    PE X (.Call (.Name x q) [] kws pos) (fun σ H Q => tk σ H fun ws H2 => ws.length = ks.length ∧ sp (ordV perm ws) H2 Q (E σ)) := by
  refine ⟨fun pins s σ H Q I h => wpAny_Call_Name_kw (ld_glob I hg hm ?_ hdb)⟩
  refine PySem.W.callWith_KW0 (h₀ := X.base) I.ok.mod.kin hk hall (thn (hkw.run pos pins s σ H _ I h) ?_) hpl
  rintro ws s2 ⟨zs, H2, I2, r2, l2, z⟩
  rw [hks]
  obtain ⟨os, b1, b2, b3, b4⟩ := hb s2 [] ws I2.kIn rfl (by rw [← r2.length]; exact l2)
  exact ⟨I2.kIn, goGS (args := ⟨[], ks.zip ws⟩) F hgu hr (hx σ) I2 b1 (ordV_rel r2 (by rw [b3, b2]) b4) z⟩
end
abbrev DSX := DEn → (Sl → XD → Prop) → Sl → Prop
def AgX (K : PySem.W.Frag) (p : Qt) (g : Gd) (xe : Sl → XD → Prop) (E0 : L2.St → XK) : Prop := ∀ F σ H τ cls d x, Rel K p g F σ H τ → IsXD K p F H cls d x → xe τ x → E0 σ cls d H
structure PDSX (X : Cx) (p : Qt) (E0 : L2.St → XK) (st : Stmt) (d : DSX) : Prop where
  run : ∃ t, PS X st t ∧ ∀ (g : Gd) (F : List Addr) (σ : St) (H : Hp) (τ : Sl) (E : Ends) (E' : DEn) (xe : Sl → XD → Prop), Rel X.K p g F σ H τ → d E' xe τ → Agree X.K p g E' E → AgX X.K p g xe E0 → t E σ H
structure PDSXs (X : Cx) (p : Qt) (E0 : L2.St → XK) (st : List Stmt) (d : DSX) : Prop where
  run : ∃ t, PSs X st t ∧ ∀ (g : Gd) (F : List Addr) (σ : St) (H : Hp) (τ : Sl) (E : Ends) (E' : DEn) (xe : Sl → XD → Prop), Rel X.K p g F σ H τ → d E' xe τ → Agree X.K p g E' E → AgX X.K p g xe E0 → t E σ H
def xOf (d : DS) : DSX := fun E _ τ => d E τ
def xSeq (t u : DSX) : DSX := fun E xe τ => t { E with nx := u E xe } xe τ
def xIf (c : DT) (t u : DSX) : DSX := fun E xe τ => c τ fun b => if b = true then t E xe τ else u E xe τ
abbrev DEX := Sl → (D → Prop) → (XD → Prop) → Prop
def xRet (d : DEX) : DSX := fun E xe τ => d τ E.rt (xe τ)
def xRaise (d : Sl → (XD → Prop) → Prop) : DSX := fun _ xe τ => d τ (xe τ)
structure PDX (X : Cx) (p : Qt) (E0 : L2.St → XK) (e : Expr) (d : DEX) : Prop where
  run : ∃ t, PE X e t ∧ ∀ (g : Gd) (F : List Addr) (σ : St) (H : Hp) (τ : Sl) (Q : VK) (R : D → Prop) (xe : XD → Prop), Rel X.K p g F σ H τ → d τ R xe → (∀ x v H', Ex p H H' → Is X.K p F H' v x → R x → Q v H') → (∀ x cls dd H', Ex p H H' → IsXD X.K p F H' cls dd x → xe x → E0 σ cls dd H') → t σ H Q
structure PDM (X : Cx) (p : Qt) (e : Expr) (d : Sl → (XD → Prop) → Prop) : Prop where
  run : ∃ t, PMk X e t ∧ ∀ (g : Gd) (F : List Addr) (σ : St) (H : Hp) (τ : Sl) (Q : XK) (R : XD → Prop), Rel X.K p g F σ H τ → d τ R → (∀ x cls dd H', Ex p H H' → IsXD X.K p F H' cls dd x → R x → Q cls dd H') → t σ H Q
section
variable {X : Cx} {p : Qt} {E0 : L2.St → XK} {st : Stmt} {rest : List Stmt} {t u : DSX} {d : DS} {pos : Pos} {e : Expr}
theorem pdsx_of (h : PDS X p st d) : PDSX X p E0 st (xOf d) := by
  obtain ⟨a, a1, a2⟩ := h.run
  exact ⟨a, a1, fun g F σ H τ E E' xe rel hd ag _ => a2 g F σ H τ E E' rel hd ag⟩
theorem pdsxs_of {sts : List Stmt} (h : PDSs X p sts d) : PDSXs X p E0 sts (xOf d) := by
  obtain ⟨a, a1, a2⟩ := h.run
  exact ⟨a, a1, fun g F σ H τ E E' xe rel hd ag _ => a2 g F σ H τ E E' rel hd ag⟩
theorem pdsxs_one (h : PDSX X p E0 st t) : PDSXs X p E0 [st] t := by
  obtain ⟨a, a1, a2⟩ := h.run
  exact ⟨_, pss_one a1, a2⟩
theorem pdsxs_nil : PDSXs X p E0 [] (xOf dNext) := pdsxs_of pdss_nil
theorem pdsxs_cons (h1 : PDSX X p E0 st t) (h2 : PDSXs X p E0 rest u) : PDSXs X p E0 (st :: rest) (xSeq t u) := by
  obtain ⟨a, a1, a2⟩ := h1.run
  obtain ⟨b, b1, b2⟩ := h2.run
  refine ⟨_, pss_cons a1 b1, fun g F σ H τ E E' xe rel h ag ax => ?_⟩
  exact a2 g F σ H τ _ _ xe rel h (ag.seq fun F' σ' H' τ' rel' h' => b2 g F' σ' H' τ' E E' xe rel' h' ag ax) ax
theorem pdsx_if {c : Expr} {a b : List Stmt} {tc : DT} (hc : PDT X p c tc) (ha : PDSXs X p E0 a t) (hb : PDSXs X p E0 b u) : PDSX X p E0 (.If c a b pos) (xIf tc t u) := by
  obtain ⟨c0, c1, c2⟩ := hc.run
  obtain ⟨a0, a1, a2⟩ := ha.run
  obtain ⟨b0, b1, b2⟩ := hb.run
  refine ⟨_, ps_if c1 a1 b1, fun g F σ H τ E E' xe rel h ag ax => ?_⟩
  refine c2 g F σ H τ _ _ rel h fun b H1 e1 h1 => ?_
  cases b with
  | true => exact a2 g F σ H1 τ E E' xe (rel.st e1) h1 ag ax
  | false => exact b2 g F σ H1 τ E E' xe (rel.st e1) h1 ag ax
theorem pdsx_ret {dx : DEX} (he : PDX X p E0 e dx) : PDSX X p E0 (.Return (some e) pos) (xRet dx) := by
  obtain ⟨a, a1, a2⟩ := he.run
  exact ⟨_, ps_ret a1, fun g F σ H τ E E' xe rel h ag ax => a2 g F σ H τ _ _ (xe τ) rel h (fun x v H' e1 i1 r1 => ag.rt F σ H' τ v x (rel.st e1) i1 r1) fun x cls dd H' e1 i1 r1 => ax F σ H' τ cls dd x (rel.st e1) i1 r1⟩
theorem pdsx_raise {dm : Sl → (XD → Prop) → Prop} (hc : X.calm = true) (tk : Takes X fun cls d σ H => E0 σ cls d H) (hm : PDM X p e dm) : PDSX X p E0 (.Raise (some e) none pos) (xRaise dm) := by
  obtain ⟨a, a1, a2⟩ := hm.run
  exact ⟨_, ps_raise hc tk a1, fun g F σ H τ E E' xe rel h ag ax => a2 g F σ H τ _ _ rel h fun x cls dd H' e1 i1 r1 => ax F σ H' τ cls dd x (rel.st e1) i1 r1⟩
end
def xAsg (i : Nat) (d : DEX) : DSX := fun E xe τ => d τ (fun x => E.nx (τ.set i (some x))) (xe τ)
section
variable {X : Cx} {p : Qt} {E0 : L2.St → XK} {e : Expr} {pos : Pos}
theorem pd_ofX {d : DEX} (h : PDX X p (fun _ _ _ _ => False) e d) : PD X p e (fun τ R => d τ R fun _ => False) := by
  obtain ⟨t, h1, h2⟩ := h.run
  exact ⟨t, h1, fun g F σ H τ Q R rel hd q => h2 g F σ H τ Q R _ rel hd q fun _ _ _ _ _ _ z => z⟩
theorem pds_ofX {st : Stmt} {d : DSX} (h : PDSX X p (fun _ _ _ _ => False) st d) : PDS X p st (fun E τ => d E (fun _ _ => False) τ) := by
  obtain ⟨t, h1, h2⟩ := h.run
  exact ⟨t, h1, fun g F σ H τ E E' rel hd ag => h2 g F σ H τ E E' _ rel hd ag fun _ _ _ _ _ _ _ _ _ z => z⟩
theorem pdx_lst1 {d : DEX} (h : PDX X p E0 e d) (hs : starEach [e] X.env = (false, eval e X.env) :: starEach [] X.env := by rfl) : PDX X p E0 (.List [e] pos) (fun τ R xe => d τ (fun x => R (.lst [x])) xe) := by
  obtain ⟨t, h1, h2⟩ := h.run
  refine ⟨_, pe_lst (pa_cons h1 pa_nil hs), fun g F σ H τ Q R xe rel hd q qx => ?_⟩
  refine h2 g F σ H τ _ _ xe rel hd (fun x v H1 e1 i1 r1 => ⟨Nat.le_of_lt (small1000 (by simp)), fun a ha => ?_⟩) fun x cls dd H' e1 i1 r1 => qx x cls dd H' e1 i1 r1
  have e2 : Ex p H1 (upd H1 a (.lst [v])) := .new e1.pk ha
  exact q _ _ _ (e1.trans e2) (.lst (Rd.of upd_same) ((rel.st e1).notF ha) (.cons (i1.mono e2.kp) .nil)) r1
theorem pdsx_set {i : Nat} {x : Str} {pos' : Pos} {d : DEX} (hN : X.N.Nodup) (hi : X.N[i]? = some x) (hx : Loc X.env.scope x) (he : PDX X p E0 e d) (hs : swapsWith e (some (.Name x pos')) pos.line X.env = pure false := by rfl) (hf : X.fn x = true ∨ X.env.scope.names.lookup x = some .local := by first | exact .inl rfl | exact .inr rfl | assumption) :
    PDSX X p E0 (.Assign [.Name x pos'] e pos) (xAsg i d) := by
  obtain ⟨a, a1, a2⟩ := he.run
  refine ⟨_, ps_set hN hi hx a1 hs hf, fun g F σ H τ E E' xe rel h ag ax => ?_⟩
  exact a2 g F σ H τ _ _ (xe τ) rel h (fun x v H' e1 i1 r1 => ag.nx F _ H' _ ((rel.st e1).set i1) r1) fun x cls dd H' e1 i1 r1 => ax F σ H' τ cls dd x (rel.st e1) i1 r1
end
section
variable {P : Program} {w : World} {K : PySem.W.Frag} {mg : Str → Option Value} {base : Heap} {tabs : Tf} {k : Nat} {f : Addr} {fd : FuncData} {ps : List Str} {sp : SpX} {kb : List (List Str × Nat × List Nat)}
theorem funX {x qual : Str} {st : Stmt} {N : List Str} (F : Fun K x qual st f fd) (S : FnScope N ps (defScope st))
    (body : ∀ (cdv : Value) (A : Around) (outer : List Env) (s : Shared) (H : Hp) (E : XK) (p : Qt), p.tf = tabs → fd.code = cdv → A.guards = some [] → (∀ a o, K.lookup a = some o → a ≠ p.pot) → Room k (A.deeper (envOfC qual (defScope st) s.heap.objs.size f cdv)) →
      ∃ d, PDSXs (cxOf (L2.CX P w) P w K mg base N qual (defScope st) f cdv A outer s H E) p (fun _ => E) (defBody st) d ∧ ∀ (ds : List D) (R : D → Prop) (Rx : XD → Prop), ds.length = ps.length → sp ds R Rx → d { nx := fun _ => R .non, rt := R } (fun _ => Rx) (startD N ds)) :
    FnG P w K mg base (L2.CX P w) (k + 1) f fd ps (toSpX K tabs ps.length sp) := by
  refine funG F S (fun vs H Q E h => h.1) fun cdv A outer s H vs Q E hc hg hk hr h => ?_
  obtain ⟨hl, pot, Fb, ds, R, Rx, pk, is, h, q, qx⟩ := h
  obtain ⟨d, hb, hd⟩ := body cdv A outer s H E ⟨pot, tabs⟩ rfl hc hg (fun a o lo => pk.ne (hk a o lo)) hr
  obtain ⟨t, h1, h2⟩ := hb.run
  refine ⟨t, h1, ?_⟩
  have ex : ∀ {F' : List Addr} {σ' : L2.St} {H' : Hp} {τ' : Sl}, Rel K ⟨pot, tabs⟩ ⟨Fb, [], H⟩ F' σ' H' τ' → Ex ⟨pot, tabs⟩ H H' := by
    intro F' σ' H' τ' r
    exact ⟨fun b o n t e => r.kp b o n (fun z => nomatch z) t e, r.pk⟩
  exact h2 ⟨Fb, [], H⟩ Fb (L2.start N vs) H (startD N ds) _ _ (fun _ => Rx) (start_rel pk is) (hd ds R Rx (by rw [← is.len]; exact hl) h)
    ⟨fun F' σ H' τ rel r => q _ _ H' (ex rel) .non r, fun F' σ H' τ v x rel i r => q x v H' (ex rel) (i.less rel.sub) r, fun _ _ _ _ _ z => z.elim, fun _ _ _ _ _ z => z.elim, fun _ _ _ _ _ _ _ _ _ _ _ _ z => z.elim⟩
    fun F' σ H' τ cls d x rel i r => qx x cls d H' (ex rel) (i.less rel.sub) r
structure CalX (P : Program) (w : World) (K : PySem.W.Frag) (mg : Str → Option Value) (base : Heap) (tabs : Tf) (x : Str) (k n : Nat) (ps : List Str) (kb : List (List Str × Nat × List Nat)) (sp : SpX) : Prop where
  ex : ∃ (f : Addr) (fd : FuncData), FnG P w K mg base (L2.CX P w) k f fd ps (toSpX K tabs n sp) ∧ mg x = some (.ref f) ∧ PySem.W.keepIn K (.ref f) = true ∧ Binds K fd ps [] ∧ ∀ q ∈ kb, BindK K fd ps q.1 q.2.1 q.2.2
theorem calx_of {x qual : Str} {st : Stmt} {N : List Str} (D0 : Dfn K mg x qual st ps kb) (S : FnScope N ps (defScope st))
    (body : ∀ (f : Addr) (cdv : Value) (A : Around) (outer : List Env) (s : Shared) (H : Hp) (E : XK) (p : Qt), p.tf = tabs → A.guards = some [] → (∀ a o, K.lookup a = some o → a ≠ p.pot) → Room k (A.deeper (envOfC qual (defScope st) s.heap.objs.size f cdv)) →
      ∃ d, PDSXs (cxOf (L2.CX P w) P w K mg base N qual (defScope st) f cdv A outer s H E) p (fun _ => E) (defBody st) d ∧ ∀ (ds : List D) (R : D → Prop) (Rx : XD → Prop), ds.length = ps.length → sp ds R Rx → d { nx := fun _ => R .non, rt := R } (fun _ => Rx) (startD N ds)) :
    CalX P w K mg base tabs x (k + 1) ps.length ps kb sp := by
  obtain ⟨f, fd, F, hm, hb, hk⟩ := D0.ex
  exact ⟨f, fd, funX F S fun cdv A outer s H E p ht _ => body f cdv A outer s H E p ht, hm, F.kp, hb, hk⟩
end
def xB (sp : SpX) (ds : DA) : DEX := fun τ R xe => ds τ fun xs => sp xs R xe
def xBK (sp : SpX) (perm : List Nat) (da dk : DA) : DEX := fun τ R xe => da τ fun xs => dk τ fun ys => sp (ordD perm (xs ++ ys)) R xe
section
variable {X : Cx} {p : Qt} {E0 : L2.St → XK} {pos q : Pos} {e : Expr} {es : List Expr} {kws : List Keyword} {ds dk : DA} {k j n : Nat} {ps : List Str} {sp : SpX} {x : Str} {kb : List (List Str × Nat × List Nat)}
theorem pdxC (C : CalX X.prog X.w X.K X.mg X.base p.tf x j n ps kb sp) (tk : Takes X fun cls d σ H => E0 σ cls d H) (hgu : X.A.guards = some []) (hr : Room k X.A) (ha : PDA X p (e :: es) ds) (hj : j ≤ k := by decide) (hg : Gl X x := by rfl) (hn : (e :: es).length = n := by rfl) (hdb : (x == ("__debug__" : Str)) = false := by decide)
    (he : starEach (e :: es) X.env = (false, eval e X.env) :: starEach es X.env := by rfl) (hpl : (backTo pos (starEach es X.env)).any (·.1) = false := by rfl) : PDX X p E0 (.Call (.Name x q) (e :: es) [] pos) (xB sp ds) := by
  obtain ⟨f, fd, F, hm, hk, hb, _⟩ := C.ex
  obtain ⟨t, h1, h2⟩ := ha.run
  refine ⟨_, pe_callGS (E := E0) F hgu (hr.mono hj) (passAt tk) hg hm hk hb h1 hdb he hpl, fun g0 F σ H τ Q R xe rel h qv ax => ?_⟩
  refine h2 g0 F σ H τ _ _ rel h fun xs vs H1 e1 i1 l1 h1 => ?_
  exact ⟨by rw [l1]; exact hn, p.pot, F, xs, R, xe, (rel.st e1).pkf, i1, h1, fun z v' H' e i r => qv z v' H' (e1.trans e) i r, fun z cls d H' e i r => ax z cls d H' (e1.trans e) i r⟩
theorem pdxCK0 {ks : List Str} {perm : List Nat} (C : CalX X.prog X.w X.K X.mg X.base p.tf x j n ps kb sp) (tk : Takes X fun cls d σ H => E0 σ cls d H) (hgu : X.A.guards = some []) (hr : Room k X.A) (hq : (ks, 0, perm) ∈ kb) (hkw : PDK X p kws dk) (hj : j ≤ k := by decide)
    (hn : perm.length = n := by rfl) (hp : ∀ j ∈ perm, j < kws.length := by decide) (hlk : kws.length = ks.length := by rfl) (hg : Gl X x := by rfl) (hall : (backToKw pos (keywordEach kws X.env)).all (·.1.isSome) = true := by rfl) (hks : (backToKw pos (keywordEach kws X.env)).filterMap (·.1) = ks := by rfl)
    (hdb : (x == ("__debug__" : Str)) = false := by decide)
    (hpl : ((backTo pos (starEach [] X.env)).any (·.1) || (backToKw pos (keywordEach kws X.env)).any (·.1.isNone)) = false := by rfl) : PDX X p E0 (.Call (.Name x q) [] kws pos) (xBK sp perm dNil dk) := by
  obtain ⟨f, fd, F, hm, hk, _, hb⟩ := C.ex
  obtain ⟨t, h1, h2⟩ := hkw.run
  refine ⟨_, pe_callGK0S (E := E0) F hgu (hr.mono hj) (passAt tk) hg hm hk (hb _ hq) h1 hall hks hdb hpl, fun g0 F σ H τ Q R xe rel h qv ax => ?_⟩
  refine h2 g0 F σ H τ _ _ rel h fun xs vs H1 e1 i1 l1 h1 => ?_
  have i2 : IsL X.K p F H1 (ordV perm vs) (ordD perm xs) := ord_is i1 fun j hj => by rw [l1]; exact hp j hj
  exact ⟨l1.trans hlk, by simp [ordV, hn], p.pot, F, ordD perm xs, R, xe, (rel.st e1).pkf, i2, by simpa using h1, fun z v' H' e i r => qv z v' H' (e1.trans e) i r, fun z cls d H' e i r => ax z cls d H' (e1.trans e) i r⟩
end
end DL
namespace DL
open PySem PySem.Spec L2 LamX
open PyProof.Rows hiding St
def GivesX (X : Cx) (k : Nat) (Ng : List Str) (x : Str) (sg : Scope) (g : Addr) (cdg : Value) (bg : List Stmt) (a : Str) (q : Str) (TT : (XK → Hp → VK → Prop) → XK → Hp → VK → Prop) : Prop :=
  ∀ (f c' : Addr) (s : Shared) (H : Hp) (Q : VK) (E0 : XK) (tl : XK → Hp → VK → Prop), Room (k + 1) (X.A.deeper (envOfC x sg s.heap.objs.size g cdg)) →
    (∀ (W : WX) (pn : List (Addr × Obj)) (xe : Value → Shared → Prop) (E : XK) (p1 p2 : Pos), Takes ((cxOf (L2.CX X.prog X.w) X.prog X.w X.K X.mg X.base Ng x sg g cdg X.A X.stack s H E0).tr pn xe) W → (∀ cls d σ' H', E cls d H' → W cls d σ' H') →
      PE ((cxOf (L2.CX X.prog X.w) X.prog X.w X.K X.mg X.base Ng x sg g cdg X.A X.stack s H E0).tr pn xe) (.Call (.Name a p1) [] [] p2) (fun σZ HZ Q => σZ[0]? = some (some (.ref f)) ∧ HZ c' = some (CodeO c' q) ∧ tl E HZ Q)) →
    H c' = some (CodeO c' q) → TT tl E0 H Q →
    ∃ t, PSs (cxOf (L2.CX X.prog X.w) X.prog X.w X.K X.mg X.base Ng x sg g cdg X.A X.stack s H E0) bg t ∧ t { nx := fun _ H' => Q .non H', rt := Q } (L2.start Ng [.ref f]) H
def tLamE (T : List (Addr × Str)) (TT : (XK → Hp → VK → Prop) → XK → Hp → VK → Prop) (E0 : L2.St → XK) (t : XK → TE) : TE := fun σ H Q => Tabs T H ∧ ∀ H1, ExtN H H1 → Tabs T H1 → TT (fun E H' Q' => t E σ H' Q') (E0 σ) H1 Q
section
variable {X : Cx} {pins : List (Addr × Obj)} {σ : L2.St} {H : Hp} {s : Shared}
theorem pe_actG {CXg : CXT} {Eg : XK} {Ng : List Str} {qg : Str} {sg : Scope} {g f c' : Addr} {cdg pm ctv : Value} {params : Arguments} {body : Expr} {scope : Scope} {k i : Nat} {a : Str} {pn : List (Addr × Obj)} {xe : Value → Shared → Prop} {W : WX} {E : XK} {tb : TE} {p1 p2 : Pos}
    (I : Inv X pins σ H s) (L : LamS X.env.scope scope) (hf : s.heap.get? f = some (PySem.W.kla_obj "<lambda>" (X.env.qual ++ "<lambda>") params body scope (cloFrom X.env.cells scope.names []) pm c' ctv)) (hfn : H f = none) (hfr : f ∉ frs X.stack)
    (hbind : bindArgs (PySem.W.kla_fn "<lambda>" (X.env.qual ++ "<lambda>") params body scope (cloFrom X.env.cells scope.names []) pm (.ref c') ctv) ⟨[], []⟩ = pure [])
    (tk : Takes ((cxOf CXg X.prog X.w X.K X.mg X.base Ng qg sg g cdg X.A X.stack s H Eg).tr pn xe) W) (hW : ∀ cls d σ' H', E cls d H' → W cls d σ' H') (hr : Room (k + 1) (X.A.deeper (envOfC qg sg s.heap.objs.size g cdg)))
    (hbody : ∀ (s1 : Shared) (H1 : Hp), Room k ((X.A.deeper (envOfC qg sg s.heap.objs.size g cdg)).deeper (lamEnv X scope s1.heap.objs.size f c')) → PE (lamCx X (X.A.deeper (envOfC qg sg s.heap.objs.size g cdg)) (envOfC qg sg s.heap.objs.size g cdg :: X.stack) s1 H1 E scope f c') body tb)
    (hN : Ng[i]? = some a) (hv : Vis sg a) (hd : (a == ("__debug__" : Str)) = false := by decide) (hcd : (a == ("__classdict__" : Str)) = false := by decide) :
    PE ((cxOf CXg X.prog X.w X.K X.mg X.base Ng qg sg g cdg X.A X.stack s H Eg).tr pn xe) (.Call (.Name a p1) [] [] p2)
      (fun τ G Q => τ[i]? = some (some (.ref f)) ∧ G c' = some (CodeO c' (X.env.qual ++ "<lambda>")) ∧ tb σ G Q) := by
  constructor
  intro pinsZ sZ τ G Q IZ ⟨slot, code, told⟩
  have var := (pe_var (pos := p1) (i := i) hN hv hd hcd).run pinsZ sZ τ G (fun v H1 => v = .ref f ∧ H1 = G) IZ ⟨.ref f, slot, rfl, rfl⟩
  refine wpAny_Call_Name_kw (thn var fun u s1 => ?_)
  rintro ⟨_, _, I1, r1, rfl, eG⟩
  rw [eG] at I1
  obtain rfl : u = Value.ref f := r1
  have U : Un (frs X.stack) [] H G s.heap s1.heap := I1.base
  have here := U.keep f _ hf hfn hfr fun z => absurd z List.not_mem_nil
  obtain ⟨⟨oc, vs, t, a1, a2, a3⟩, _⟩ := I1.hok c' _ code
  refine PySem.W.callWith_F0 ⟨_, _, _, _, here⟩ (wpAny_call (codeAny_mono (R := CR (L2.CX X.prog X.w) (envOfC qg sg s.heap.objs.size g cdg :: X.stack) X.prog X.w G s1 Q E) ?_ ?_))
  · refine PySem.W.kla_callFunE hr.depth here rfl L.co L.gen rfl ⟨c', oc, vs, t, rfl, a1, a2, a3⟩ ?_
    refine wpAny_of_eq (a := []) hbind (wpAny_newFunctionEnv (fun y hy => (L.own y hy).2) (fun y hy => absurd hy List.not_mem_nil) (fun h1 new sub => ⟨I1.nolimit.fresh _ sub, PySem.W.kla_codeExpr ?_⟩) L.kind)
    have J := lam_start2 (E := E) (f := f) (c' := c') (tk := s1.toks + ([] : List (Str × Value)).length) I L I1.env0 hr.hd U new fun b o e => sub.extBut b o (Nat.ne_of_lt (Heap.lt_size e)) (Heap.get?_push_of_some _ e)
    refine wpAny_mono ((hbody s1 G (hr.deeper _)).run [] _ _ G Q J told) ?_ fun _ _ z => z
    rintro v s2 ⟨y, G2, J2, rv, q⟩
    exact ⟨y, G2, J2.os, J2.bare, J2.base, J2.hok, rv, q⟩
  · rintro (er | fl) s2 hq
    · exact passes_call tk hW pinsZ τ G s1 er s2 I1 hq
    · cases fl with
      | ret u => exact I1.after hq
      | next => exact hq.elim
      | brk => exact hq.elim
      | cont => exact hq.elim
end
section
variable {X : Cx}
theorem pe_lamcallX {T : List (Addr × Str)} {TT : (XK → Hp → VK → Prop) → XK → Hp → VK → Prop} {E0 : L2.St → XK} {x a : Str} {g c P : Addr} {k : Nat} {pg : Arguments} {bg : List Stmt} {sg : Scope} {dV kV doc pm cdv ct oc : Value} {an od : Option Addr} {osl : Array (Option Value)} {Ng : List Str}
    {params : Arguments} {body : Expr} {scope : Scope} {t : XK → TE} {p lpos pos : Pos} (hg : Gl X x) (hm : X.mg x = some (.ref g)) (hk : PySem.W.keepIn X.K (.ref g) = true)
    (lk : X.K.lookup g = some ⟨oc, od, .func (PySem.W.fnOf x x pg bg sg dV kV doc pm an cdv ct), osl⟩) (hcg : PySem.W.codeIn X.K cdv x = true) (hb : L2.Binds X.K (PySem.W.fnOf x x pg bg sg dV kV doc pm an cdv ct) [a] []) (Sg : FnScope Ng [a] sg) (hNg : Ng[0]? = some a) (hva : Vis sg a)
    (tkX : Takes X fun cls d σ H => E0 σ cls d H)
    (hG : GivesX X k Ng x sg g cdv bg a (X.env.qual ++ "<lambda>") TT)
    (TB : TabB X.base X.mg c P) (hcode : X.env.code = .ref c) (hmT : (P, X.env.qual ++ "<lambda>") ∈ T) (hu : ∀ p ∈ T, p.1 = P → p.2 = X.env.qual ++ "<lambda>") (hr : Room (k + 2) X.A) (L : LamS X.env.scope scope) (hdef : defaultsOf params X.env = ([], []))
    (hbind : ∀ (q : Str) (cl : List (Str × Addr)) (pm cv ctv : Value), bindArgs (PySem.W.kla_fn "<lambda>" q params body scope cl pm cv ctv) ⟨[], []⟩ = pure [])
    (hbody : ∀ (A : Around) (outer : List Env) (s : Shared) (H : Hp) (E : XK) (f c' : Addr), A.guards = X.A.guards → Room k (A.deeper (lamEnv X scope s.heap.objs.size f c')) → PE (lamCx X A outer s H E scope f c') body (t E))
    (hdb : (x == ("__debug__" : Str)) = false := by decide) (hd : (a == ("__debug__" : Str)) = false := by decide) (hcd : (a == ("__classdict__" : Str)) = false := by decide) :
    PE X (.Call (.Name x p) [.Lambda params body scope lpos] [] pos) (tLamE T TT E0 t) := by
  refine ⟨fun pins s σ H Q I h => ?_⟩
  obtain ⟨hT, h⟩ := h
  refine wpAny_Call_Name_kw (ld_glob I hg hm ?_ hdb)
  refine PySem.W.callWith_K (h₀ := X.base) I.ok.mod.kin hk ?_ (by rfl) (by rfl)
  show wpAny _ _ (spliced ((false, eval (.Lambda params body scope lpos) X.env) :: backTo pos (starEach [] X.env))) _ _ s
  refine Calls.spliced_cons (lam_make2 I TB hcode hmT hu hT hdef (L.has I.ok) fun f c' pm' ctv H1 s' I1 eN T1 hf hfn hfr hco => ?_)
  refine Calls.spliced_nil ⟨I1.kIn, ?_⟩
  have rc : codeAny (model X.prog X.w) X.A (.call (.ref g) ⟨[.ref f], []⟩) (CR (L2.CX X.prog X.w) X.stack X.prog X.w H1 s' Q (E0 σ)) s' := by
    refine run_ofS (N := Ng) (ps := [a]) (us := [.ref f]) (vs := [.ref f]) lk hcg Sg hr I1.env0 (hb s' [.ref f] I1.kIn rfl) (.cons rfl .nil) rfl fun hr' => ?_
    obtain ⟨t', ht', hq'⟩ := hG f c' s' H1 Q (E0 σ) (fun E H' Q' => t E σ H' Q') hr' (fun W pn xe E p1 p2 tk hW => pe_actG (i := 0) I1 L hf hfn hfr (hbind _ _ _ _ _) tk hW hr' (fun s H hr2 => hbody _ _ s H E f c' rfl hr2) hNg hva hd hcd) hco (h H1 eN T1)
    exact ⟨t', ht', hq'⟩
  refine wpAny_call (codeAny_mono rc fun r s2 hq => ?_)
  cases r with
  | error e => exact passAt tkX σ _ _ _ e s2 I1 hq
  | ok fl =>
    cases fl with
    | ret u => exact I1.after hq
    | next => exact False.elim hq
    | brk => exact False.elim hq
    | cont => exact False.elim hq
end
open L2H in
structure FnQ (P : Program) (w : World) (K : PySem.W.Frag) (mg : Str → Option Value) (base : Heap) (CX : CXT) (k : Nat) (f : Addr) (fd : FuncData) (ps : List Str) (sp : Sp) : Prop where
  len : ∀ vs H Q E, sp vs H Q E → vs.length = ps.length
  go : ∀ (A : Around) (outer : List Env) (s : Shared) (H : Hp) (args : Args) (us : List Value) (vs : List V) (Q : VK) (E : XK) (p : Addr × Obj), RoomH k A → PinOk outer H s p → Env0 P w K mg base A outer s H → BindsTo s fd args (ps.zip us) → Vals vs us → sp vs H Q E →
    codeAny (model P w) A (.call (.ref f) args) (CR CX outer P w H s Q E) s
section
variable {P : Program} {w : World} {K : PySem.W.Frag} {mg : Str → Option Value} {base : Heap} {CX : CXT} {k : Nat} {f : Addr} {fd : FuncData} {ps : List Str} {sp : Sp}
open L2H
theorem funQ {x qual : Str} {st : Stmt} {N : List Str} (F : Fun K x qual st f fd) (S : FnScope N ps (defScope st)) (hlen : ∀ vs H Q E, sp vs H Q E → vs.length = ps.length)
    (body : ∀ (cdv : Value) (A : Around) (outer : List Env) (s : Shared) (H : Hp) (vs : List V) (Q : VK) (E : XK) (p : Addr × Obj), RoomH k (A.deeper (envOfC qual (defScope st) s.heap.objs.size f cdv)) → sp vs H Q E →
      ∃ t, PSs (cxH CX P w K mg base N qual (defScope st) f cdv A outer s H E p) (defBody st) t ∧ t { nx := fun _ H' => Q .non H', rt := Q } (L2.start N vs) H) : FnQ P w K mg base CX (k + 1) f fd ps sp := by
  obtain ⟨oc, od, kV, doc, pm, an, cdv, ct, osl, rfl, lk, hcd⟩ := F.ex
  refine ⟨hlen, fun A outer s H args us vs Q E p room pin ev bnd rel prom => ?_⟩
  have inK : K.In s.heap := ev.mod.kin.keeps fun b o q => And.left (ev.bs b o q)
  have lims : s.heap.NoLimit := ev.mod.nolimit.keeps fun b o q => And.left (ev.bs b o q)
  have kinds : ∀ y ∈ ps.zip us, (defScope st).names.lookup y.1 = some .local ∨ ((defScope st).names.lookup y.1 = some .cell ∧ ((cellsFrom (s.heap.objs.size + 1) (defScope st).names []).lookup y.1).isSome = true) := by
    rintro ⟨n, v⟩ hy
    exact (S.par n (And.left (List.of_mem_zip hy))).elim .inl fun q => .inr ⟨q, PySem.W.cellsFrom_some _ _ _ (Or.inl q)⟩
  refine codeAny_call_function room.depth (inK f _ lk) rfl S.co S.gen rfl (PySem.W.codeRec_of inK hcd) (bnd _ _ _ _ (wpAny_newFunctionEnv_cells S.kind kinds ?_))
  intro env0 hE s1 ent
  subst hE
  refine ⟨lims.keeps ent.toInCall.keep, codeAny_func ?_⟩
  obtain ⟨t, ht, q⟩ := body cdv A outer s H vs Q E p (room.deeper _) prom
  have J := inv_startH (CX := CX) (N := N) (E := E) (cd := cdv) S pin ev (hlen _ _ _ _ prom) rel ent
  refine wpAny_mono (ht.run [] s1 (L2.start N vs) H _ J q) ?_ fun _ _ z => z
  rintro (_ | u | _ | _) s' ho
  · obtain ⟨σ', H', J', q'⟩ := ho
    exact ⟨V.non, H', J'.os, J'.bare, J'.base, J'.hok, rfl, q'⟩
  · first
      | (obtain ⟨_, _, _, z⟩ := ho; exact (show False from z).elim)
      | (obtain ⟨v, σ', H', J', rv, q'⟩ := ho; exact ⟨v, H', J'.os, J'.bare, J'.base, J'.hok, rv, q'⟩)
  · first
      | (obtain ⟨_, _, _, z⟩ := ho; exact (show False from z).elim)
      | (obtain ⟨v, σ', H', J', rv, q'⟩ := ho; exact ⟨v, H', J'.os, J'.bare, J'.base, J'.hok, rv, q'⟩)
  · first
      | (obtain ⟨_, _, _, z⟩ := ho; exact (show False from z).elim)
      | (obtain ⟨v, σ', H', J', rv, q'⟩ := ho; exact ⟨v, H', J'.os, J'.bare, J'.base, J'.hok, rv, q'⟩)
def spInt (n : Int) : Sp := fun vs H Q _ => vs = [] ∧ Q (.int n) H
end
section
variable {X : Cx} {CX : CXT} {k : Nat} {f : Addr} {fd : FuncData} {sp : Sp} {E : XK} {x : Str} {q pos : Pos}
open L2H
theorem pe_callQ0 {p : Addr × Obj} (F : FnQ X.prog X.w X.K X.mg X.base CX k f fd [] sp) (hr : RoomH k X.A) (hc : p ∈ X.pn) (hg : Gl X x) (hm : X.mg x = some (.ref f)) (hk : PySem.W.keepIn X.K (.ref f) = true) (hb : L2.Binds X.K fd [] []) (hx : Passes CX X E)
    (hdb : (x == ("__debug__" : Str)) = false := by decide) : PE X (.Call (.Name x q) [] [] pos) (fun _ H Q => sp [] H Q E) := by
  constructor
  intro pins s σ H Q I h
  refine wpAny_Call_Name_kw (ld_glob I hg hm ?_ hdb)
  refine PySem.W.callWith_K0 I.kIn hk ?_
  have P1 := I.pin p (List.mem_append_left _ hc)
  have pin : PinOk X.stack H s p := ⟨P1.1, P1.2.1, fun hm => (List.mem_cons.mp (I.stkSub p.1 hm)).elim P1.2.2.1 P1.2.2.2.1, P1.2.2.2.2⟩
  have b := hb s [] I.kIn rfl
  refine wpAny_call (codeAny_mono (F.go X.A X.stack s H ⟨[], []⟩ [] [] Q E p hr pin I.env0 b .nil h) ?_)
  rintro (er | fl) s' hq
  · exact hx pins σ H s er s' I hq
  · cases fl with
    | ret u => exact I.after hq
    | next => exact hq.elim
    | brk => exact hq.elim
    | cont => exact hq.elim
end
theorem takesL {X : Cx} {W : WX} (tk : Takes X W) : Takes X fun cls d σ H => σ.length = X.N.length → W cls d σ H := fun u s' ⟨a, B, sI, pins, σ, H, cls, d, e, I, nb, up, sky, na, os, ag, w⟩ => tk u s' ⟨a, B, sI, pins, σ, H, cls, d, e, I, nb, up, sky, na, os, ag, w I.len⟩
def THeard (K : PySem.W.Frag) (tabs : Tf) (CS : Addr) (f1 f2 w0 bad : Str) (n0 : Int) : (XK → Hp → VK → Prop) → XK → Hp → VK → Prop := fun tl E0 H Q => ∃ p : Qt, p.tf = tabs ∧ ∀ Q' : VK, (∀ v H', Q v H' → Q' v H') →
  tl (fun cls d H' => (PySem.W.exmOne K cls (.ref CS) = some false ∧ E0 cls d H') ∨ (cls = .ref CS ∧ ∃ (F : List Addr) (dd : Addr) (fs : List (Str × V)) (w : Str) (n : Int), PkF p F H' ∧ d = some dd ∧ H' dd = some (.xd fs) ∧ fs.lookup f1 = some (.str w) ∧ fs.lookup f2 = some (.int n) ∧
    (shp 60 (.tup [.str w, .int n]) = true ∧ shp 60 (.tup [.str w0, .int n0]) = true) ∧
    ∀ H'', Ex p H' H'' → Q (if PyData.eqv (toP (.tup [.str w, .int n])) (toP (.tup [.str w0, .int n0])) = true then .non else .str bad) H'')) H Q'
section
variable {X : Cx}
open L2H
theorem heard_gives {tabs : Tf} {k kT : Nat} {x a h e C f1 f2 top w0 bad q : Str} {sg : Scope} {g CS fT : Addr} {cdg : Value} {fdT : FuncData} {n0 : Int} {j1 j2 j3 j4 j5 j6 : Nat} {p1 p2 p3 p4 p5 p6 p7 p8 p9 p10 p11 p12 p13 p14 p15 p16 p17 p18 p19 p20 p21 p22 p23 p24 p25 p26 p27 : Pos}
    (hxf : XfC X.K CS) (hn1 : PySem.W.findIn X.K (.ref CS) f1 = some none) (hn2 : PySem.W.findIn X.K (.ref CS) f2 = some none) (hmC : X.mg C = some (.ref CS)) (hex : PySem.W.exmOne X.K (.ref CS) (.ref CS) = some true)
    (FT : FnQ X.prog X.w X.K X.mg X.base CX0 kT fT fdT [] (spInt n0)) (hkk : kT ≤ k + 1) (hmT : X.mg top = some (.ref fT)) (hkT : PySem.W.keepIn X.K (.ref fT) = true) (hbT : L2.Binds X.K fdT [] [])
    (nd : [a, h, e].Nodup) (ga : sg.names.lookup a = some .local) (gh : sg.names.lookup h = some .local) (ge : sg.names.lookup e = some .local) (gC : sg.names.lookup C = some .globalImplicit) (gT : sg.names.lookup top = some .globalImplicit)
    (dC : (C == ("__debug__" : Str)) = false) (dT : (top == ("__debug__" : Str)) = false) (dh : (h == ("__debug__" : Str)) = false) (ch : (h == ("__classdict__" : Str)) = false) (de : (e == ("__debug__" : Str)) = false) (ce : (e == ("__classdict__" : Str)) = false) :
    GivesX X k [a, h, e] x sg g cdg [.Assign [.Name h p1] (.Constant .none j1 p2) p3,
      .Try [.Assign [.Name h p4] (.Call (.Name a p5) [] [] p6) p7]
        [.ExceptHandler (some (.Name C p8)) (some e) [.Assign [.Name h p9] (.IfExp (.Compare (.Tuple [.Attribute (.Name e p10) f1 p11, .Attribute (.Name e p12) f2 p13] j2 p14) [.Eq] [.Tuple [.Constant (.str w0) j3 p15, .Call (.Name top p16) [] [] p17] j4 p18] p19) (.Constant .none j5 p20) (.Constant (.str bad) j6 p21) p22) p23] p24] [] [] p25,
      .Return (some (.Name h p26)) p27] a q (THeard X.K tabs CS f1 f2 w0 bad n0) := by
  intro f c' s H Q E0 tl hr act hc hT
  obtain ⟨p, hp, hT⟩ := hT
  have lN : ∀ {σ : L2.St}, σ.length = 3 → ∀ (v : V), (σ.set 1 (some v))[1]? = some (some v) := fun {σ} hl v => List.getElem?_set_self (by omega)
  -- the suite
  have suite : ∀ (b : Addr) (oe : Obj) (cls : Value) (d : Option Addr) (pn : List (Addr × Obj)), Zc cls d oe → (∃ vs, oe.data = .fields vs) →
      PSs ((cxOf (L2.CX X.prog X.w) X.prog X.w X.K X.mg X.base [a, h, e] x sg g cdg X.A X.stack s H E0).suite b ((b, oe) :: pn))
        [.Assign [.Name h p9] (.IfExp (.Compare (.Tuple [.Attribute (.Name e p10) f1 p11, .Attribute (.Name e p12) f2 p13] j2 p14) [.Eq] [.Tuple [.Constant (.str w0) j3 p15, .Call (.Name top p16) [] [] p17] j4 p18] p19) (.Constant .none j5 p20) (.Constant (.str bad) j6 p21) p22) p23]
        (tAsg (tIf (tTest (tOp (rEqD X.K) (tTup (tCons (tXf b cls d CS f1 (tVar 2)) (tCons (tXf b cls d CS f2 (tVar 2)) tNil))) (tTup (tCons (tC (.str w0)) (tCons (fun _ H Q => spInt n0 [] H Q fun _ _ _ => False) tNil))))) (tC .non) (tC (.str bad))) (gName 1)) := by
    intro b oe cls d pn hz hf
    have ve : PE ((cxOf (L2.CX X.prog X.w) X.prog X.w X.K X.mg X.base [a, h, e] x sg g cdg X.A X.stack s H E0).suite b ((b, oe) :: pn)) (.Name e p10) (tVar 2) := pe_var rfl (.inl ge) de ce
    have ve' : PE ((cxOf (L2.CX X.prog X.w) X.prog X.w X.K X.mg X.base [a, h, e] x sg g cdg X.A X.stack s H E0).suite b ((b, oe) :: pn)) (.Name e p12) (tVar 2) := pe_var rfl (.inl ge) de ce
    have w1 := pe_xf (X := cxOf (L2.CX X.prog X.w) X.prog X.w X.K X.mg X.base [a, h, e] x sg g cdg X.A X.stack s H E0) (pos := p11) hxf hn1 hz hf ve
    have w2 := pe_xf (X := cxOf (L2.CX X.prog X.w) X.prog X.w X.K X.mg X.base [a, h, e] x sg g cdg X.A X.stack s H E0) (pos := p13) hxf hn2 hz hf ve'
    have wT := pe_callQ0 (X := (cxOf (L2.CX X.prog X.w) X.prog X.w X.K X.mg X.base [a, h, e] x sg g cdg X.A X.stack s H E0).suite b ((b, oe) :: pn)) (E := fun _ _ _ => False) (q := p16) (pos := p17) (p := (b, oe)) FT ⟨((roomH_of hr).mono hkk).dp, ((roomH_of hr).mono hkk).un⟩ List.mem_cons_self gT hmT hkT hbT (fun _ _ _ _ _ _ _ z => z.elim) dT
    refine pss_one (ps_set (i := 1) (X := (cxOf (L2.CX X.prog X.w) X.prog X.w X.K X.mg X.base [a, h, e] x sg g cdg X.A X.stack s H E0).suite b ((b, oe) :: pn)) nd rfl (.inl gh) (pe_ifExp (pt_cmpR (op_eqD hr.units) (pe_tup (pa_cons w1 (pa_cons w2 pa_nil))) (pe_tup (pa_cons pe_str (pa_cons wT pa_nil))) (nomark _)) pe_non pe_str) rfl (.inr gh))
  have try_ : PS (cxOf (L2.CX X.prog X.w) X.prog X.w X.K X.mg X.base [a, h, e] x sg g cdg X.A X.stack s H E0) (.Try [.Assign [.Name h p4] (.Call (.Name a p5) [] [] p6) p7]
        [.ExceptHandler (some (.Name C p8)) (some e) [.Assign [.Name h p9] (.IfExp (.Compare (.Tuple [.Attribute (.Name e p10) f1 p11, .Attribute (.Name e p12) f2 p13] j2 p14) [.Eq] [.Tuple [.Constant (.str w0) j3 p15, .Call (.Name top p16) [] [] p17] j4 p18] p19) (.Constant .none j5 p20) (.Constant (.str bad) j6 p21) p22) p23] p24] [] [] p25) _ :=
    ps_try_as (i := 2) (c := .ref CS) (Wout := fun cls d _ H => E0 cls d H)
      (tb := fun W D σ H => ∃ Ech : XK, (∀ cls d σ' H', Ech cls d H' → σ'.length = 3 → W cls d σ' H') ∧ σ[0]? = some (some (.ref f)) ∧ H c' = some (CodeO c' q) ∧ tl Ech H fun v H' => D.nx (σ.set 1 (some v)) H')
      rfl rfl nd rfl ge ⟨gC, dC, .inl hmC⟩ (takes_of rfl rfl rfl rfl) (fun W pn xe tk _ => ?_) suite
  rotate_left
  · refine ⟨fun pins s' σ H' D I h' => ?_⟩
    obtain ⟨Ech, hW, h1, h2, h3⟩ := h'
    have call := act (fun cls d σ H => σ.length = 3 → W cls d σ H) pn xe Ech p5 p6 (takesL tk) hW
    have one := pss_one (ps_set (i := 1) (X := (cxOf (L2.CX X.prog X.w) X.prog X.w X.K X.mg X.base [a, h, e] x sg g cdg X.A X.stack s H E0).tr pn xe) (pos := p7) (pos' := p4) nd rfl (.inl gh) call rfl (.inr gh))
    exact one.run pins s' σ H' D I ⟨h1, h2, h3⟩
  refine ⟨_, pss_cons (ps_set (i := 1) nd rfl (.inl gh) pe_non rfl (.inr gh)) (pss_cons try_ (pss_one (ps_ret (pe_var (i := 1) rfl (.inl gh) dh ch)))), ?_⟩
  refine ⟨_, fun cls d σ' H' z l3 => ?_, rfl, hc, hT _ fun v H' q => ⟨v, rfl, q⟩⟩
  rcases z with ⟨e0, z⟩ | ⟨rfl, F, dd, fs, w, n, pk, rfl, ed, l1, l2, sh, z⟩
  · exact ⟨false, e0, fun q => absurd q Bool.false_ne_true, fun _ => z⟩
  refine ⟨true, hex, fun _ b nb => ?_, fun q => absurd q.symm Bool.false_ne_true⟩
  have s2 : (σ'.set 2 (some (V.ref b)))[2]? = some (some (.ref b)) := List.getElem?_set_self (by omega)
  have s1 : ∀ v : V, (((σ'.set 2 (some (V.ref b))).set 1 (some v)).set 2 none)[1]? = some (some v) := fun v => by
    rw [List.getElem?_set_ne (by decide), List.getElem?_set_self (by rw [List.length_set]; omega)]
  have lz : ∀ x y : V, [x, y].length ≤ sizeLine := fun x y => by
    rw [sizeLine_eq]
    exact (show 2 ≤ _ by decide)
  refine ⟨.ref b, s2, rfl, rfl, dd, fs, .str w, rfl, ed, l1, .ref b, s2, rfl, rfl, dd, fs, .int n, rfl, ed, l2, lz _ _, fun t1 m1 => ?_⟩
  refine ⟨rfl, lz _ _, fun t2 m2 => ?_⟩
  have e1 : Ex p H' (upd H' t1 (.tup [.str w, .int n])) := .new pk.pk m1
  have e2 : Ex p (upd H' t1 (.tup [.str w, .int n])) (upd (upd H' t1 (.tup [.str w, .int n])) t2 (.tup [.str w0, .int n0])) := .new e1.pk m2
  have ix : Is X.K p F (upd H' t1 (.tup [.str w, .int n])) (.ref t1) (.tup [.str w, .int n]) := .tup (SqT.of upd_same) (pk.pk.ne m1) (.cons (.str _) (.cons (.int _) .nil))
  have iy : Is X.K p F (upd (upd H' t1 (.tup [.str w, .int n])) t2 (.tup [.str w0, .int n0])) (.ref t2) (.tup [.str w0, .int n0]) := .tup (SqT.of upd_same) (e1.pk.ne m2) (.cons (.str _) (.cons (.int _) .nil))
  refine ⟨_, _, (ix.mono e2.kp).dp (shp_shaped sh.1).1, iy.dp (shp_shaped sh.2).1, (shp_shaped sh.1).2, (shp_shaped sh.2).2, _, rfl, ?_⟩
  have z2 := z _ (e1.trans e2)
  by_cases c : PyData.eqv (toP (.tup [.str w, .int n])) (toP (.tup [.str w0, .int n0])) = true
  · rw [if_pos c] at z2
    show if PyData.eqv (toP (.tup [.str w, .int n])) (toP (.tup [.str w0, .int n0])) = true then _ else _
    rw [if_pos c]
    exact ⟨_, s1 _, z2⟩
  · rw [if_neg c] at z2
    show if PyData.eqv (toP (.tup [.str w, .int n])) (toP (.tup [.str w0, .int n0])) = true then _ else _
    rw [if_neg c]
    exact ⟨_, s1 _, z2⟩
end
def tDX (K : PySem.W.Frag) (p : Qt) (d : DEX) : XK → TE := fun E σ H Q => ∃ (g : Gd) (F : List Addr) (τ : Sl) (R : D → Prop) (xe : XD → Prop), Rel K p g F σ H τ ∧ d τ R xe ∧ (∀ x v H', Ex p H H' → Is K p F H' v x → R x → Q v H') ∧ ∀ x cls dd H', Ex p H H' → IsXD K p F H' cls dd x → xe x → E cls dd H'
theorem pe_tDX {Y : Cx} {p : Qt} {E : XK} {e : Expr} {d : DEX} (h : PDX Y p (fun _ => E) e d) : PE Y e (tDX Y.K p d E) := by
  obtain ⟨t, h1, h2⟩ := h.run
  exact ⟨fun pins s σ H Q I ⟨g, F, τ, R, xe, rel, hd, q, qx⟩ => h1.run pins s σ H Q I (h2 g F σ H τ Q R xe rel hd q qx)⟩
def xHeard (C : Str) (L : List Str) (f1 f2 w0 bad : Str) (n0 : Int) (d : DEX) : DEX := fun τ R xe => d τ R fun x => x.c ∈ L ∧ if x.c = C then ∃ (w : Str) (n : Int), x.fs.lookup f1 = some (.str w) ∧ x.fs.lookup f2 = some (.int n) ∧
  (shp 60 (.tup [.str w, .int n]) = true ∧ shp 60 (.tup [.str w0, .int n0]) = true) ∧ R (if PyData.eqv (toP (.tup [.str w, .int n])) (toP (.tup [.str w0, .int n0])) = true then .non else .str bad) else xe x
theorem Ex.tabs {p : Qt} {H H1 : Hp} (h : Pk p H) (ht : p.tf.tabs = []) (e : ExtN H H1) (T : Tabs p.tf.lts H1) : Ex p H H1 := by
  refine ⟨fun b o _ nt q => e b o q nt, ?_, fun t hm => ?_, T, h.lp⟩
  · obtain ⟨x, y, g1, g2, g3, g4⟩ := h.at_
    exact ⟨x, y, g1, g2, g3, e _ _ g4 fun _ z => nomatch z⟩
  · rw [show p.tabs = [] from ht] at hm
    cases hm
section
variable {X : Cx} {p : Qt}
theorem pdx_heard {E0 : L2.St → XK} {db : DEX} {C x a f1 f2 w0 bad : Str} {L : List Str} {n0 : Int} {g c P CS : Addr} {k : Nat} {pg : Arguments} {bg : List Stmt} {sg : Scope} {dV kV doc pm cdv ct oc : Value} {an od : Option Addr} {osl : Array (Option Value)} {Ng : List Str}
    {params : Arguments} {body : Expr} {scope : Scope} {pp lpos pos : Pos} (ht : p.tf.tabs = []) (hfn : p.tf.fns = X.mg) (hC : X.mg C = some (.ref CS)) (hL : ∀ y ∈ L, y ≠ C → ∃ a : Addr, X.mg y = some (.ref a) ∧ PySem.W.exmOne X.K (.ref a) (.ref CS) = some false)
    (hg : Gl X x) (hm : X.mg x = some (.ref g)) (hk : PySem.W.keepIn X.K (.ref g) = true)
    (lk : X.K.lookup g = some ⟨oc, od, .func (PySem.W.fnOf x x pg bg sg dV kV doc pm an cdv ct), osl⟩) (hcg : PySem.W.codeIn X.K cdv x = true) (hb : L2.Binds X.K (PySem.W.fnOf x x pg bg sg dV kV doc pm an cdv ct) [a] []) (Sg : FnScope Ng [a] sg) (hNg : Ng[0]? = some a) (hva : Vis sg a)
    (tkX : Takes X fun cls d σ H => E0 σ cls d H)
    (hG : GivesX X k Ng x sg g cdv bg a (X.env.qual ++ "<lambda>") (THeard X.K p.tf CS f1 f2 w0 bad n0))
    (TB : TabB X.base X.mg c P) (hcode : X.env.code = .ref c) (hmT : (P, X.env.qual ++ "<lambda>") ∈ p.tf.lts) (hu : ∀ t ∈ p.tf.lts, t.1 = P → t.2 = X.env.qual ++ "<lambda>") (hr : Room (k + 2) X.A) (Ls : LamS X.env.scope scope) (hdef : defaultsOf params X.env = ([], []))
    (hbind : ∀ (q : Str) (cl : List (Str × Addr)) (pm cv ctv : Value), bindArgs (PySem.W.kla_fn "<lambda>" q params body scope cl pm cv ctv) ⟨[], []⟩ = pure [])
    (hbody : ∀ (A : Around) (outer : List Env) (s : Shared) (H : Hp) (E : XK) (f c' : Addr), A.guards = X.A.guards → Room k (A.deeper (lamEnv X scope s.heap.objs.size f c')) → PDX (lamCx X A outer s H E scope f c') p (fun _ => E) body db)
    (hdb : (x == ("__debug__" : Str)) = false := by decide) (hd : (a == ("__debug__" : Str)) = false := by decide) (hcd : (a == ("__classdict__" : Str)) = false := by decide) :
    PDX X p E0 (.Call (.Name x pp) [.Lambda params body scope lpos] [] pos) (xHeard C L f1 f2 w0 bad n0 db) := by
  refine ⟨_, pe_lamcallX (T := p.tf.lts) (t := tDX X.K p db) hg hm hk lk hcg hb Sg hNg hva tkX hG TB hcode hmT hu hr Ls hdef hbind (fun A outer s H E f c' hA hR => pe_tDX (hbody A outer s H E f c' hA hR)) hdb hd hcd, fun g0 F σ H τ Q R xe rel h q qx => ?_⟩
  refine ⟨rel.pk.lt, fun H1 eN T1 => ⟨p, rfl, fun Q' qq => ?_⟩⟩
  have e1 : Ex p H H1 := Ex.tabs rel.pk ht eN T1
  refine ⟨g0, F, τ, R, _, rel.st e1, h, fun y v H' e i r => qq v H' (q y v H' (e1.trans e) i r), fun y cls dd H' e i hy => ?_⟩
  obtain ⟨hy1, hy2⟩ := hy
  obtain ⟨C', c1, rfl⟩ := i.cl
  by_cases hc : y.c = C
  · rw [if_pos hc] at hy2
    obtain ⟨w, n, l1, l2, sh, hR⟩ := hy2
    rw [hfn, hc, hC] at c1
    cases c1
    obtain ⟨dx, fs, v1, a1, a2, a3, a4⟩ := i.fl _ (PySem.mem_of_lookup l1)
    obtain ⟨dx', fs', v2, b1, b2, b3, b4⟩ := i.fl _ (PySem.mem_of_lookup l2)
    rw [a1] at b1
    cases b1
    rw [a2] at b2
    cases b2
    cases a4
    cases b4
    refine .inr ⟨rfl, F, dx, fs, w, n, ((rel.st e1).st e).pkf, a1, a2, a3, b3, sh, fun H'' e3 => q _ _ H'' ((e1.trans e).trans e3) ?_ hR⟩
    split
    · exact .non
    · exact .str _
  · rw [if_neg hc] at hy2
    obtain ⟨a', m1, m2⟩ := hL _ hy1 hc
    rw [hfn, m1] at c1
    cases c1
    exact .inl ⟨m2, qx y _ dd H' (e1.trans e) i hy2⟩
end
def tDSX (K : PySem.W.Frag) (p : Qt) (E0 : L2.St → XK) (d : DSX) : TS := fun D σ H => ∃ (g : Gd) (F : List Addr) (τ : Sl) (E' : DEn) (xe : Sl → XD → Prop), Rel K p g F σ H τ ∧ d E' xe τ ∧ Agree K p g E' D ∧ AgX K p g xe E0
def tDSs (K : PySem.W.Frag) (p : Qt) (d : DS) : TS := fun D σ H => ∃ (g : Gd) (F : List Addr) (τ : Sl) (E' : DEn), Rel K p g F σ H τ ∧ d E' τ ∧ Agree K p g E' D
def xTry (C : Str) (L : List Str) (db : DSX) (dh : DS) : DSX := fun E xe τ => db E (fun τ' x => x.c ∈ L ∧ if x.c = C then dh E τ' else xe τ' x) τ
theorem pdsx_try {X : Cx} {p : Qt} {E0 : L2.St → XK} {C : Str} {L : List Str} {CS : Addr} {body suite : List Stmt} {b₀ : Stmt} {np pos pos' : Pos} {db : DSX} {dh : DS} (hs : X.stack = X.env :: X.outer) (hf : X.env.frame = some X.env.locals) (hfn : p.tf.fns = X.mg) (hg : Gl X C) (hC : X.mg C = some (.ref CS)) (hdb : (C == ("__debug__" : Str)) = false)
    (hex : PySem.W.exmOne X.K (.ref CS) (.ref CS) = some true) (hL : ∀ y ∈ L, y ≠ C → ∃ a : Addr, X.mg y = some (.ref a) ∧ PySem.W.exmOne X.K (.ref a) (.ref CS) = some false) (tk : Takes X fun cls d σ H => E0 σ cls d H)
    (hb : ∀ (E1 : L2.St → XK) (pn : List (Addr × Obj)) (xe : Value → Shared → Prop), Takes (X.tr pn xe) (fun cls d σ H => E1 σ cls d H) → PDSXs (X.tr pn xe) p E1 body db)
    (hsu : ∀ (a : Addr) (pn : List (Addr × Obj)), PDSs (X.suite a pn) p (b₀ :: suite) dh) :
    PDSX X p E0 (.Try body [.ExceptHandler (some (.Name C np)) none (b₀ :: suite) pos'] [] [] pos) (xTry C L db dh) := by
  refine ⟨_, ps_try_only (c := .ref CS) (Wout := fun cls d σ H => E0 σ cls d H) (tb := fun W => tDSX X.K p (fun σ cls dd H => W cls dd σ H) db) (ts := fun _ _ _ => tDSs X.K p dh) hs hf ⟨hg, hdb, .inl hC⟩ tk (fun W pn xe tk' _ => ?_) (fun a oe cls d pn _ _ => ?_), fun g F σ H τ E E' xe rel hd ag ax => ?_⟩
  · obtain ⟨t, h1, h2⟩ := (hb (fun σ cls dd H => W cls dd σ H) pn xe tk').run
    exact ⟨fun pins s σ H D I ⟨g, F, τ, E', xx, rel, hd, ag, ax⟩ => h1.run pins s σ H D I (h2 g F σ H τ D E' xx rel hd ag ax)⟩
  · obtain ⟨t, h1, h2⟩ := (hsu a ((a, oe) :: pn)).run
    exact ⟨fun pins s σ H D I ⟨g, F, τ, E', rel, hd, ag⟩ => h1.run pins s σ H D I (h2 g F σ H τ D E' rel hd ag)⟩
  · refine ⟨g, F, τ, E', _, rel, hd, ag, fun F' σ' H' τ' cls d x rel' is hx => ?_⟩
    obtain ⟨hx1, hx2⟩ := hx
    obtain ⟨C', c1, rfl⟩ := is.cl
    by_cases hc : x.c = C
    · rw [if_pos hc] at hx2
      rw [hfn, hc, hC] at c1
      cases c1
      exact ⟨true, hex, fun _ a na => ⟨g, F', τ', E', rel', hx2, ag⟩, fun z => absurd z.symm Bool.false_ne_true⟩
    · rw [if_neg hc] at hx2
      obtain ⟨a', m1, m2⟩ := hL _ hx1 hc
      rw [hfn, m1] at c1
      cases c1
      exact ⟨false, m2, fun z => absurd z Bool.false_ne_true, fun _ => ax F' σ' H' τ' _ d x rel' is hx2⟩
end DL
namespace DL
open PySem PySem.Spec L2
open PyProof.Rows hiding St
def spIni0 (C : Addr) : Sp := fun vs H Q _ => ∃ a : Addr, vs = [.ref a] ∧ Q .non H
def spIni1 (C : Addr) (f1 : Str) : Sp := fun vs H Q _ => ∃ (a : Addr) (v1 : V), vs = [.ref a, v1] ∧ H a = some (exo a C none) ∧ ∀ dx, H dx = none → dx ≠ a → Q .non (upd (upd H a (exo a C (some dx))) dx (exd dx [(f1, v1)]))
def spIni2 (C : Addr) (f1 f2 : Str) : Sp := fun vs H Q _ => ∃ (a : Addr) (v1 v2 : V), vs = [.ref a, v1, v2] ∧ H a = some (exo a C none) ∧ ∀ dx, H dx = none → dx ≠ a → Q .non (upd (upd (upd H a (exo a C (some dx))) dx (exd dx [(f1, v1)])) dx (exd dx [(f2, v2), (f1, v1)]))
section
variable {CX : CXT} {P : Program} {w : World} {K : PySem.W.Frag} {mg : Str → Option Value} {base : Heap} {k : Nat} {f C : Addr} {qual : Str} {params : Arguments} {scope : Scope} {dV kV doc pm cdv ct oc : Value} {an od : Option Addr} {osl : Array (Option Value)} {B newId initId : String} {bmB : List Value}
theorem ini0_ok {pos : Pos} (lk : K.lookup f = some ⟨oc, od, .func (PySem.W.fnOf "__init__" qual params [.Pass pos] scope dV kV doc pm an cdv ct), osl⟩) (hcd : PySem.W.codeIn K cdv qual = true) (S : FnScope ["self"] ["self"] scope) :
    FnOk P w K mg base CX (k + 1) f (PySem.W.fnOf "__init__" qual params [.Pass pos] scope dV kV doc pm an cdv ct) ["self"] (spIni0 C) := by
  refine fn_of lk hcd S (fun vs H Q E h => ?_) fun A outer s H vs Q E hr h => ?_
  · obtain ⟨a, rfl, _⟩ := h
    rfl
  · obtain ⟨a, rfl, q⟩ := h
    exact ⟨_, pss_one ps_pass, q⟩
theorem ini2_ok {f1 f2 n1 n2 : Str} {p1 p2 p3 p4 p5 p6 p7 p8 : Pos} (T : OxG K C B newId initId bmB) (hn1 : PySem.W.findIn K (.ref C) f1 = some none) (hn2 : PySem.W.findIn K (.ref C) f2 = some none)
    (lk : K.lookup f = some ⟨oc, od, .func (PySem.W.fnOf "__init__" qual params [.Assign [.Attribute (.Name "self" p1) f1 p2] (.Name n1 p3) p4, .Assign [.Attribute (.Name "self" p5) f2 p6] (.Name n2 p7) p8] scope dV kV doc pm an cdv ct), osl⟩)
    (hcd : PySem.W.codeIn K cdv qual = true) (S : FnScope ["self", n1, n2] ["self", n1, n2] scope)
    (v0 : Vis scope "self") (v1 : Vis scope n1) (v2 : Vis scope n2) (d1 : (n1 == ("__debug__" : Str)) = false) (c1 : (n1 == ("__classdict__" : Str)) = false) (d2 : (n2 == ("__debug__" : Str)) = false) (c2 : (n2 == ("__classdict__" : Str)) = false) :
    FnOk P w K mg base CX (k + 1) f (PySem.W.fnOf "__init__" qual params [.Assign [.Attribute (.Name "self" p1) f1 p2] (.Name n1 p3) p4, .Assign [.Attribute (.Name "self" p5) f2 p6] (.Name n2 p7) p8] scope dV kV doc pm an cdv ct) ["self", n1, n2] (spIni2 C f1 f2) := by
  refine fn_of lk hcd S (fun vs H Q E h => ?_) fun A outer s H vs Q E hr h => ?_
  · obtain ⟨a, x1, x2, rfl, _⟩ := h
    rfl
  · obtain ⟨a, x1, x2, rfl, e, q⟩ := h
    refine ⟨_, pss_cons (ps_put (B := B) (newId := newId) (initId := initId) (bmB := bmB) (pe_var (i := 0) rfl v0) (pe_var (i := 1) rfl v1 d1 c1)) (pss_one (ps_put (B := B) (newId := newId) (initId := initId) (bmB := bmB) (pe_var (i := 0) rfl v0) (pe_var (i := 2) rfl v2 d2 c2))), ?_⟩
    refine ⟨_, rfl, _, rfl, a, C, rfl, T, hn1, .inl ⟨e, fun dx hd ne => ?_⟩⟩
    exact ⟨_, rfl, _, rfl, a, C, rfl, T, hn2, .inr ⟨dx, [(f1, x1)], by rw [upd_ne (fun z => ne z.symm), upd_same], upd_same, by simp, q dx hd ne⟩⟩
end
theorem Ex.of_keep {p : Qt} {H H1 : Hp} (h : Pk p H) (e : ∀ b o, H b = some o → H1 b = some o) : Ex p H H1 := by
  refine ⟨fun b o _ _ q => e b o q, ?_, fun t ht => ?_, h.lt.ext e, h.lp⟩
  · obtain ⟨x, y, g1, g2, g3, g4⟩ := h.at_
    exact ⟨x, y, g1, g2, g3, e _ _ g4⟩
  · obtain ⟨ps, g1, g2⟩ := h.tb t ht
    exact ⟨ps, e _ _ g1, g2⟩
section
variable {X : Cx} {p : Qt} {C fI : Addr} {x : Str} {B newId initId : String} {bmB : List Value} {CX : CXT} {k : Nat} {fd : FuncData} {ps : List Str} {pp pos : Pos} {e : Expr} {es : List Expr} {ds : DA}
def mD0 (x : Str) : Sl → (XD → Prop) → Prop := fun _ R => R ⟨x, []⟩
def mD1 (x f1 : Str) (ds : DA) : Sl → (XD → Prop) → Prop := fun τ R => ds τ fun xs => match xs with
  | [x1] => R ⟨x, [(f1, x1)]⟩
  | _ => False
def mD2 (x f1 f2 : Str) (ds : DA) : Sl → (XD → Prop) → Prop := fun τ R => ds τ fun xs => match xs with
  | [x1, x2] => R ⟨x, [(f1, x1), (f2, x2)]⟩
  | _ => False
theorem pdm0 (hfn : p.tf.fns = X.mg) (T : OxG X.K C B newId initId bmB) (iC : PySem.W.findIn X.K (.ref C) "__init__" = some (some (.ref fI))) (tI : PySem.W.typeIn X.K (.ref fI) = some (.type "function")) (F1 : FnOk X.prog X.w X.K X.mg X.base CX0 k fI fd ps (spIni0 C)) (hr : Room (k + 1) X.A) (hb : L2.Binds X.K fd ps [])
    (hg : Gl X x) (hm : X.mg x = some (.ref C)) (hdb : (x == ("__debug__" : Str)) = false := by decide) : PDM X p (.Call (.Name x pp) [] [] pos) (mD0 x) := by
  refine ⟨_, pmk_gen0 T iC tI F1 hr hb (fun _ _ _ _ _ _ _ z => z.elim) hg hm hdb, fun g F σ H τ Q R rel h q => ?_⟩
  refine ⟨Nat.zero_le _, fun a ha => ⟨a, rfl, rfl, .inr ⟨rfl, ?_⟩⟩⟩
  exact q ⟨x, []⟩ _ _ H (.refl rel.pk) ⟨⟨C, by rw [hfn]; exact hm, rfl⟩, fun _ z => nomatch z⟩ h
theorem pdm2 {f1 f2 : Str} (hf : (f1 == f2) = false) (hfn : p.tf.fns = X.mg) (T : OxG X.K C B newId initId bmB) (iC : PySem.W.findIn X.K (.ref C) "__init__" = some (some (.ref fI))) (tI : PySem.W.typeIn X.K (.ref fI) = some (.type "function")) (F1 : FnOk X.prog X.w X.K X.mg X.base CX0 k fI fd ps (spIni2 C f1 f2)) (hr : Room (k + 1) X.A) (hb : L2.Binds X.K fd ps [])
    (hg : Gl X x) (hm : X.mg x = some (.ref C)) (ha : PDA X p (e :: es) ds) (hdb : (x == ("__debug__" : Str)) = false := by decide)
    (he : starEach (e :: es) X.env = (false, eval e X.env) :: starEach es X.env := by rfl) (hpl : (backTo pos (starEach es X.env)).any (·.1) = false := by rfl) : PDM X p (.Call (.Name x pp) (e :: es) [] pos) (mD2 x f1 f2 ds) := by
  obtain ⟨t, h1, h2⟩ := ha.run
  refine ⟨_, pmk_gen T iC tI F1 hr hb (fun _ _ _ _ _ _ _ z => z.elim) hg hm h1 hdb he hpl, fun g F σ H τ Q R rel h q => ?_⟩
  refine h2 g F σ H τ _ _ rel h fun xs vs H1 e1 i1 l1 hh => ?_
  match xs, vs, i1, hh with
  | [x1, x2], [v1, v2], .cons i1 (.cons i2 .nil), hh =>
  refine ⟨by simp, fun a ha => ⟨a, v1, v2, rfl, upd_same, fun dx hd ne => ⟨rfl, .inl ⟨dx, [(f2, v2), (f1, v1)], ?_, upd_same, ?_, ?_⟩⟩⟩⟩
  · rw [upd_ne (fun z => ne z.symm), upd_ne (fun z => ne z.symm), upd_same]
  · rw [upd_ne ne] at hd
    exact hd
  · have hd1 : H1 dx = none := by
      rw [upd_ne ne] at hd
      exact hd
    have e2 : Ex p H1 (upd (del (upd (upd (upd (upd H1 a (exo a C none)) a (exo a C (some dx))) dx (exd dx [(f1, v1)])) dx (exd dx [(f2, v2), (f1, v1)])) a) dx (.xd [(f2, v2), (f1, v1)])) := .of_keep e1.pk fun b o z => by
      have b1 : b ≠ dx := ne_of_none z hd1
      have b2 : b ≠ a := ne_of_none z ha
      rw [upd_ne b1, del_ne b2, upd_ne b1, upd_ne b1, upd_ne b2, upd_ne b2]
      exact z
    refine q ⟨x, [(f1, x1), (f2, x2)]⟩ _ _ _ (e1.trans e2) ⟨⟨C, by rw [hfn]; exact hm, rfl⟩, fun z hz => ?_⟩ hh
    rcases List.mem_cons.mp hz with rfl | hz
    · exact ⟨dx, _, v1, rfl, upd_same, by simp [List.lookup, hf], i1.mono e2.kp⟩
    · obtain rfl := List.mem_singleton.mp hz
      exact ⟨dx, _, v2, rfl, upd_same, by simp [List.lookup], i2.mono e2.kp⟩
end
end DL
namespace DL
open PySem PySem.Spec L2 LamX L2H
open PyProof.Rows hiding St
structure Catch (K : PySem.W.Frag) (mg : Str → Option Value) (C : Str) (L : List Str) : Prop where
  ex : ∃ CS : Addr, mg C = some (.ref CS) ∧ PySem.W.exmOne K (.ref CS) (.ref CS) = some true ∧ ∀ y ∈ L, y ≠ C → ∃ a : Addr, mg y = some (.ref a) ∧ PySem.W.exmOne K (.ref a) (.ref CS) = some false
structure Mk0 (P : Program) (w : World) (K : PySem.W.Frag) (mg : Str → Option Value) (base : Heap) (x : Str) (k : Nat) : Prop where
  ex : ∃ (C fI : Addr) (B newId initId : String) (bmB : List Value) (fd : FuncData) (ps : List Str), mg x = some (.ref C) ∧ OxG K C B newId initId bmB ∧ PySem.W.findIn K (.ref C) "__init__" = some (some (.ref fI)) ∧ PySem.W.typeIn K (.ref fI) = some (.type "function") ∧ FnOk P w K mg base CX0 k fI fd ps (spIni0 C) ∧ L2.Binds K fd ps []
structure Mk1 (P : Program) (w : World) (K : PySem.W.Frag) (mg : Str → Option Value) (base : Heap) (x f1 : Str) (k : Nat) : Prop where
  ex : ∃ (C fI : Addr) (B newId initId : String) (bmB : List Value) (fd : FuncData) (ps : List Str), mg x = some (.ref C) ∧ OxG K C B newId initId bmB ∧ PySem.W.findIn K (.ref C) "__init__" = some (some (.ref fI)) ∧ PySem.W.typeIn K (.ref fI) = some (.type "function") ∧ FnOk P w K mg base CX0 k fI fd ps (spIni1 C f1) ∧ L2.Binds K fd ps []
structure Mk2 (P : Program) (w : World) (K : PySem.W.Frag) (mg : Str → Option Value) (base : Heap) (x f1 f2 : Str) (k : Nat) : Prop where
  ex : ∃ (C fI : Addr) (B newId initId : String) (bmB : List Value) (fd : FuncData) (ps : List Str), mg x = some (.ref C) ∧ OxG K C B newId initId bmB ∧ PySem.W.findIn K (.ref C) "__init__" = some (some (.ref fI)) ∧ PySem.W.typeIn K (.ref fI) = some (.type "function") ∧ FnOk P w K mg base CX0 k fI fd ps (spIni2 C f1 f2) ∧ L2.Binds K fd ps []
section
variable {X : Cx} {p : Qt} {x f1 f2 : Str} {k j : Nat} {pp pos : Pos} {e : Expr} {es : List Expr} {ds : DA}
theorem pdmC0 (M : Mk0 X.prog X.w X.K X.mg X.base x j) (hfn : p.tf.fns = X.mg) (hr : Room k X.A) (hj : j + 1 ≤ k := by decide) (hg : Gl X x := by rfl) (hdb : (x == ("__debug__" : Str)) = false := by decide) : PDM X p (.Call (.Name x pp) [] [] pos) (mD0 x) := by
  obtain ⟨C, fI, B, newId, initId, bmB, fd, ps, hm, T, iC, tI, F1, hb⟩ := M.ex
  exact pdm0 hfn T iC tI F1 (hr.mono hj) hb hg hm hdb
theorem pdmC2 (M : Mk2 X.prog X.w X.K X.mg X.base x f1 f2 j) (hfn : p.tf.fns = X.mg) (hr : Room k X.A) (ha : PDA X p (e :: es) ds) (hf : (f1 == f2) = false := by decide) (hj : j + 1 ≤ k := by decide) (hg : Gl X x := by rfl) (hdb : (x == ("__debug__" : Str)) = false := by decide)
    (he : starEach (e :: es) X.env = (false, eval e X.env) :: starEach es X.env := by rfl) (hpl : (backTo pos (starEach es X.env)).any (·.1) = false := by rfl) : PDM X p (.Call (.Name x pp) (e :: es) [] pos) (mD2 x f1 f2 ds) := by
  obtain ⟨C, fI, B, newId, initId, bmB, fd, ps, hm, T, iC, tI, F1, hb⟩ := M.ex
  exact pdm2 hf hfn T iC tI F1 (hr.mono hj) hb hg hm ha hdb he hpl
end
structure Hears (P : Program) (w : World) (K : PySem.W.Frag) (mg : Str → Option Value) (base : Heap) (tabs : Tf) (x a C f1 f2 w0 bad : Str) (n0 : Int) (L : List Str) (kT : Nat) : Prop where
  ex : ∃ (g CS : Addr) (pg : Arguments) (bg : List Stmt) (sg : Scope) (dV kV doc pm cdv ct oc : Value) (an od : Option Addr) (osl : Array (Option Value)) (Ng : List Str),
    mg C = some (.ref CS) ∧ (∀ y ∈ L, y ≠ C → ∃ a : Addr, mg y = some (.ref a) ∧ PySem.W.exmOne K (.ref a) (.ref CS) = some false) ∧ mg x = some (.ref g) ∧ PySem.W.keepIn K (.ref g) = true ∧
    K.lookup g = some ⟨oc, od, .func (PySem.W.fnOf x x pg bg sg dV kV doc pm an cdv ct), osl⟩ ∧ PySem.W.codeIn K cdv x = true ∧ L2.Binds K (PySem.W.fnOf x x pg bg sg dV kV doc pm an cdv ct) [a] [] ∧ FnScope Ng [a] sg ∧ Ng[0]? = some a ∧ Vis sg a ∧
    ∀ (X : Cx) (k : Nat) (q : Str), X.prog = P → X.w = w → X.K = K → X.mg = mg → X.base = base → kT ≤ k + 1 → GivesX X k Ng x sg g cdv bg a q (THeard K tabs CS f1 f2 w0 bad n0)
def LamT (base : Heap) (mg : Str → Option Value) (tabs : Tf) (cdv : Value) (q : Str) : Prop := ∃ c P : Addr, cdv = .ref c ∧ (P, q) ∈ tabs.lts ∧ (∀ t ∈ tabs.lts, t.1 = P → t.2 = q) ∧ TabB base mg c P
def LamAt (K : PySem.W.Frag) (mg : Str → Option Value) (base : Heap) (tabs : Tf) (x q : Str) : Prop := ∃ c P : Addr, (P, q) ∈ tabs.lts ∧ (∀ t ∈ tabs.lts, t.1 = P → t.2 = q) ∧ TabB base mg c P ∧ ∀ (f : Addr) (fd : FuncData) (qual : Str) (st : Stmt), mg x = some (.ref f) → Fun K x qual st f fd → fd.code = .ref c
section
variable {P : Program} {w : World} {K : PySem.W.Frag} {mg : Str → Option Value} {base : Heap} {tabs : Tf} {k : Nat} {ps : List Str} {sp : SpD} {kb : List (List Str × Nat × List Nat)}
theorem cal_ofL {x qual q : Str} {st : Stmt} {N : List Str} (D0 : Dfn K mg x qual st ps kb) (S : FnScope N ps (defScope st)) (TA : LamAt K mg base tabs x q)
    (body : ∀ (f : Addr) (cdv : Value) (A : Around) (outer : List Env) (s : Shared) (H : Hp) (E : XK) (p : Qt), p.tf = tabs → LamT base mg p.tf cdv q → A.guards = some [] → (∀ a o, K.lookup a = some o → a ≠ p.pot) → Room k (A.deeper (envOfC qual (defScope st) s.heap.objs.size f cdv)) →
      ∃ d, PDSs (cxOf CX0 P w K mg base N qual (defScope st) f cdv A outer s H E).nox p (defBody st) d ∧ ∀ (ds : List D) (R : D → Prop), ds.length = ps.length → sp ds R → d { nx := fun _ => R .non, rt := R } (startD N ds)) :
    Cal P w K mg base tabs x (k + 1) ps.length ps kb sp := by
  obtain ⟨f, fd, F, hm, hb, hk⟩ := D0.ex
  obtain ⟨c, P', hP, hu, TB, hc⟩ := TA
  exact ⟨f, fd, funD F S fun cdv A outer s H E p ht e => body f cdv A outer s H E p ht ⟨c, P', e.symm.trans (hc f fd _ _ hm F), by rw [ht]; exact hP, by rw [ht]; exact hu, TB⟩, hm, F.kp, hb, hk⟩
end
section
variable {X : Cx} {p : Qt}
theorem pd_heard {E0 : L2.St → XK} {db : DEX} {x a C f1 f2 w0 bad : Str} {n0 : Int} {L : List Str} {kT k : Nat} {params : Arguments} {body : Expr} {scope : Scope} {pp lpos pos : Pos} (HE : Hears X.prog X.w X.K X.mg X.base p.tf x a C f1 f2 w0 bad n0 L kT) (TL : LamT X.base X.mg p.tf X.env.code (X.env.qual ++ "<lambda>"))
    (ht : p.tf.tabs = []) (hfn : p.tf.fns = X.mg) (tkX : Takes X fun cls d σ H => E0 σ cls d H) (hr : Room (k + 2) X.A)
    (hbody : ∀ (A : Around) (outer : List Env) (s : Shared) (H : Hp) (E : XK) (f c' : Addr), A.guards = X.A.guards → Room k (A.deeper (lamEnv X scope s.heap.objs.size f c')) → PDX (lamCx X A outer s H E scope f c') p (fun _ => E) body db)
    (hkT : kT ≤ k + 1 := by decide) (hg : Gl X x := by rfl) (Ls : lamSB X.env.scope scope = true := by rfl) (hdef : defaultsOf params X.env = ([], []) := by rfl)
    (hbind : ∀ (q : Str) (cl : List (Str × Addr)) (pm cv ctv : Value), bindArgs (PySem.W.kla_fn "<lambda>" q params body scope cl pm cv ctv) ⟨[], []⟩ = pure [] := by intro _ _ _ _ _; rfl)
    (hdb : (x == ("__debug__" : Str)) = false := by decide) (hd : (a == ("__debug__" : Str)) = false := by decide) (hcd : (a == ("__classdict__" : Str)) = false := by decide) :
    PDX X p E0 (.Call (.Name x pp) [.Lambda params body scope lpos] [] pos) (xHeard C L f1 f2 w0 bad n0 db) := by
  obtain ⟨g, CS, pg, bg, sg, dV, kV, doc, pm, cdv, ct, oc, an, od, osl, Ng, hC, hL, hm, hk, lk, hcg, hb, Sg, hNg, hva, hG⟩ := HE.ex
  obtain ⟨c, P, hcode, hmT, hu, TB⟩ := TL
  exact pdx_heard ht hfn hC hL hg hm hk lk hcg hb Sg hNg hva tkX (hG X k _ rfl rfl rfl rfl rfl hkT) TB hcode hmT hu hr (lamS_by Ls) hdef hbind hbody hdb hd hcd
theorem pd_try {E0 : L2.St → XK} {C : Str} {L : List Str} {body suite : List Stmt} {b₀ : Stmt} {np pos pos' : Pos} {db : DSX} {dh : DS} (CC : Catch X.K X.mg C L) (hfn : p.tf.fns = X.mg) (tk : Takes X fun cls d σ H => E0 σ cls d H)
    (hb : ∀ (E1 : L2.St → XK) (pn : List (Addr × Obj)) (xe : Value → Shared → Prop), Takes (X.tr pn xe) (fun cls d σ H => E1 σ cls d H) → PDSXs (X.tr pn xe) p E1 body db)
    (hsu : ∀ (a : Addr) (pn : List (Addr × Obj)), PDSs (X.suite a pn) p (b₀ :: suite) dh) (hs : X.stack = X.env :: X.outer := by rfl) (hf : X.env.frame = some X.env.locals := by rfl) (hg : Gl X C := by rfl) (hdb : (C == ("__debug__" : Str)) = false := by decide) :
    PDSX X p E0 (.Try body [.ExceptHandler (some (.Name C np)) none (b₀ :: suite) pos'] [] [] pos) (xTry C L db dh) := by
  obtain ⟨CS, hC, hex, hL⟩ := CC.ex
  exact pdsx_try hs hf hfn hg hC hdb hex hL tk hb hsu
end
end DL
namespace DL
open PySem PySem.Spec L2 LamX L2H
open PyProof.Rows hiding St
theorem CalX.cal {P : Program} {w : World} {K : PySem.W.Frag} {mg : Str → Option Value} {base : Heap} {tabs : Tf} {x : Str} {k n : Nat} {ps : List Str} {kb : List (List Str × Nat × List Nat)} {sp : SpX} {p : Qt} (C : CalX P w K mg base tabs x k n ps kb sp) (h : p.tf = tabs) : CalX P w K mg base p.tf x k n ps kb sp := by
  rw [h]
  exact C
theorem Hears.at {P : Program} {w : World} {K : PySem.W.Frag} {mg : Str → Option Value} {base : Heap} {tabs : Tf} {x a C f1 f2 w0 bad : Str} {n0 : Int} {L : List Str} {kT : Nat} {p : Qt} (HE : Hears P w K mg base tabs x a C f1 f2 w0 bad n0 L kT) (h : p.tf = tabs) : Hears P w K mg base p.tf x a C f1 f2 w0 bad n0 L kT := by
  rw [h]
  exact HE
section
variable {P : Program} {w : World} {K : PySem.W.Frag} {mg : Str → Option Value} {base : Heap}
theorem oxg_of {C : Addr} {B newId initId : String} (F : ExcBaseFacts B newId initId (bmOf B)) (S : StoreFacts B (bmOf B) "object.__setattr__" "object") (h : exgB K C (bmOf B) newId = true) : OxG K C B newId initId (bmOf B) := by
  obtain ⟨h1, h⟩ := Bool.and_eq_true_iff.mp h
  obtain ⟨h2, h⟩ := Bool.and_eq_true_iff.mp h
  obtain ⟨h3, h⟩ := Bool.and_eq_true_iff.mp h
  obtain ⟨h4, h⟩ := Bool.and_eq_true_iff.mp h
  obtain ⟨h5, h⟩ := Bool.and_eq_true_iff.mp h
  obtain ⟨h6, h7⟩ := Bool.and_eq_true_iff.mp h
  exact ⟨F, S, h1, h2, h3, He.eqO_ok h4, of_decide_eq_true h5, of_decide_eq_true h6, h7⟩
theorem mth_of {C : Addr} {m : Str} (h : mthB K C m = true) : PySem.W.findIn K (.ref C) m = some (some (.ref (He.ma K C m))) ∧ PySem.W.typeIn K (.ref (He.ma K C m)) = some (.type "function") := by
  obtain ⟨h1, h2⟩ := Bool.and_eq_true_iff.mp h
  exact ⟨He.eqO_ok h1, of_decide_eq_true h2⟩
theorem keep_fn {f : Addr} {oc : Value} {od : Option Addr} {fd : FuncData} {osl : Array (Option Value)} (l : K.lookup f = some ⟨oc, od, .func fd, osl⟩) : PySem.W.keepIn K (.ref f) = true := by
  unfold PySem.W.keepIn
  dsimp only
  rw [l]
theorem binds_of {f : Addr} {x qual : Str} {st : Stmt} {ps : List Str} {oc kV doc pm cdv ct : Value} {od an : Option Addr} {osl : Array (Option Value)} (l : K.lookup f = some ⟨oc, od, .func (PySem.W.fnOf x qual (defArgs st) (defBody st) (defScope st) .none kV doc pm an cdv ct), osl⟩) (c : PySem.W.codeIn K cdv qual = true)
    (hb : ∀ (kV doc pm : Value) (an : Option Addr) (cdv ct : Value) (us : List Value), us.length = ps.length → bindArgs (PySem.W.fnOf x qual (defArgs st) (defBody st) (defScope st) .none kV doc pm an cdv ct) ⟨us, []⟩ = pure (ps.zip us)) : L2.Binds K (PySem.W.fnOf x qual (defArgs st) (defBody st) (defScope st) .none kV doc pm an cdv ct) ps [] :=
  (fun_mk l c (keep_fn l)).binds hb
theorem mk0_of {x : Str} {C : Addr} {B newId initId : String} {qual : Str} {params : Arguments} {scope : Scope} {dV kV doc pm cdv ct oc : Value} {an od : Option Addr} {osl : Array (Option Value)} {pos : Pos} (m : mg x = some (.ref C)) (T : OxG K C B newId initId (bmOf B)) (hm : mthB K C "__init__" = true)
    (lk : K.lookup (He.ma K C "__init__") = some ⟨oc, od, .func (PySem.W.fnOf "__init__" qual params [.Pass pos] scope dV kV doc pm an cdv ct), osl⟩) (hcd : PySem.W.codeIn K cdv qual = true) (S : FnScope ["self"] ["self"] scope) (hb : L2.Binds K (PySem.W.fnOf "__init__" qual params [.Pass pos] scope dV kV doc pm an cdv ct) ["self"] []) : Mk0 P w K mg base x 1 :=
  ⟨C, _, B, newId, initId, _, _, _, m, T, (mth_of hm).1, (mth_of hm).2, ini0_ok lk hcd S, hb⟩
theorem mk2_of {x : Str} {C : Addr} {B newId initId : String} {qual : Str} {params : Arguments} {scope : Scope} {dV kV doc pm cdv ct oc : Value} {an od : Option Addr} {osl : Array (Option Value)} {f1 f2 n1 n2 : Str} {p1 p2 p3 p4 p5 p6 p7 p8 : Pos} (m : mg x = some (.ref C)) (T : OxG K C B newId initId (bmOf B)) (hm : mthB K C "__init__" = true)
    (hn1 : PySem.W.findIn K (.ref C) f1 = some none) (hn2 : PySem.W.findIn K (.ref C) f2 = some none)
    (lk : K.lookup (He.ma K C "__init__") = some ⟨oc, od, .func (PySem.W.fnOf "__init__" qual params [.Assign [.Attribute (.Name "self" p1) f1 p2] (.Name n1 p3) p4, .Assign [.Attribute (.Name "self" p5) f2 p6] (.Name n2 p7) p8] scope dV kV doc pm an cdv ct), osl⟩) (hcd : PySem.W.codeIn K cdv qual = true) (S : FnScope ["self", n1, n2] ["self", n1, n2] scope)
    (hb : L2.Binds K (PySem.W.fnOf "__init__" qual params [.Assign [.Attribute (.Name "self" p1) f1 p2] (.Name n1 p3) p4, .Assign [.Attribute (.Name "self" p5) f2 p6] (.Name n2 p7) p8] scope dV kV doc pm an cdv ct) ["self", n1, n2] [])
    (v0 : scope.names.lookup ("self" : Str) = some .local) (v1 : scope.names.lookup n1 = some .local) (v2 : scope.names.lookup n2 = some .local) (d1 : (n1 == ("__debug__" : Str)) = false := by decide) (c1 : (n1 == ("__classdict__" : Str)) = false := by decide) (d2 : (n2 == ("__debug__" : Str)) = false := by decide) (c2 : (n2 == ("__classdict__" : Str)) = false := by decide) : Mk2 P w K mg base x f1 f2 1 :=
  ⟨C, _, B, newId, initId, _, _, _, m, T, (mth_of hm).1, (mth_of hm).2, ini2_ok T hn1 hn2 lk hcd S (.inl v0) (.inl v1) (.inl v2) d1 c1 d2 c2, hb⟩
theorem exm_of {x y : Str} {b : Bool} (h : (He.Fa.exm x y b).ok K = true) : PySem.W.exmOne K (.ref (He.ga K x)) (.ref (He.ga K y)) = some b := of_decide_eq_true h
theorem tne_of {x y : Str} {ocx ocy : Value} {odx ody : Option Addr} {fx fy : FuncData} {slx sly : Array (Option Value)} {cx cy Px Py : Addr} {ex ey : Value} {dx dy : Option Addr} {vx vy : Array Value} {sx sy : Array (Option Value)} (h : (Fx.tne x y).ok K = true) (l1 : K.lookup (He.ga K x) = some ⟨ocx, odx, .func fx, slx⟩) (l2 : K.lookup (He.ga K y) = some ⟨ocy, ody, .func fy, sly⟩) (c1 : fx.code = .ref cx) (c2 : fy.code = .ref cy)
    (g1 : K.lookup cx = some ⟨ex, dx, .fields vx, sx⟩) (g2 : K.lookup cy = some ⟨ey, dy, .fields vy, sy⟩) (i1 : vx[11]? = some (.ref Px)) (i2 : vy[11]? = some (.ref Py)) : Px ≠ Py := by
  intro e
  have h : (!decide (tabF K (K.lookup (He.ga K x)) = tabF K (K.lookup (He.ga K y)))) = true := h
  have a1 : tabF K (K.lookup (He.ga K x)) = some Px := by
    rw [l1]
    show tabC K fx.code = _
    rw [c1]
    show tabO (K.lookup cx) = _
    rw [g1]
    show tabV (vx[11]? : Option Value) = _
    rw [i1]
    rfl
  have a2 : tabF K (K.lookup (He.ga K y)) = some Py := by
    rw [l2]
    show tabC K fy.code = _
    rw [c2]
    show tabO (K.lookup cy) = _
    rw [g2]
    show tabV (vy[11]? : Option Value) = _
    rw [i2]
    rfl
  rw [a1, a2, e] at h
  simp at h
theorem hears_of {tabs : Tf} {x a h e C f1 f2 top w0 bad : Str} {L : List Str} {g CS fT : Addr} {fdT : FuncData} {n0 : Int} {kT : Nat} {pg : Arguments} {sg : Scope} {dV kV doc pm cdv ct oc : Value} {an od : Option Addr} {osl : Array (Option Value)} {j1 j2 j3 j4 j5 j6 : Nat} {p1 p2 p3 p4 p5 p6 p7 p8 p9 p10 p11 p12 p13 p14 p15 p16 p17 p18 p19 p20 p21 p22 p23 p24 p25 p26 p27 : Pos}
    (hC : mg C = some (.ref CS)) (hxf : xfB K CS = true) (hn1 : PySem.W.findIn K (.ref CS) f1 = some none) (hn2 : PySem.W.findIn K (.ref CS) f2 = some none) (hex : PySem.W.exmOne K (.ref CS) (.ref CS) = some true) (hL : ∀ y ∈ L, y ≠ C → ∃ a : Addr, mg y = some (.ref a) ∧ PySem.W.exmOne K (.ref a) (.ref CS) = some false)
    (FT : FnQ P w K mg base CX0 kT fT fdT [] (spInt n0)) (hmT : mg top = some (.ref fT)) (hkT : PySem.W.keepIn K (.ref fT) = true) (hbT : L2.Binds K fdT [] [])
    (hm : mg x = some (.ref g))
    (lk : K.lookup g = some ⟨oc, od, .func (PySem.W.fnOf x x pg [.Assign [.Name h p1] (.Constant .none j1 p2) p3,
      .Try [.Assign [.Name h p4] (.Call (.Name a p5) [] [] p6) p7]
        [.ExceptHandler (some (.Name C p8)) (some e) [.Assign [.Name h p9] (.IfExp (.Compare (.Tuple [.Attribute (.Name e p10) f1 p11, .Attribute (.Name e p12) f2 p13] j2 p14) [.Eq] [.Tuple [.Constant (.str w0) j3 p15, .Call (.Name top p16) [] [] p17] j4 p18] p19) (.Constant .none j5 p20) (.Constant (.str bad) j6 p21) p22) p23] p24] [] [] p25,
      .Return (some (.Name h p26)) p27] sg dV kV doc pm an cdv ct), osl⟩) (hcd : PySem.W.codeIn K cdv x = true)
    (hb : L2.Binds K (PySem.W.fnOf x x pg [.Assign [.Name h p1] (.Constant .none j1 p2) p3,
      .Try [.Assign [.Name h p4] (.Call (.Name a p5) [] [] p6) p7]
        [.ExceptHandler (some (.Name C p8)) (some e) [.Assign [.Name h p9] (.IfExp (.Compare (.Tuple [.Attribute (.Name e p10) f1 p11, .Attribute (.Name e p12) f2 p13] j2 p14) [.Eq] [.Tuple [.Constant (.str w0) j3 p15, .Call (.Name top p16) [] [] p17] j4 p18] p19) (.Constant .none j5 p20) (.Constant (.str bad) j6 p21) p22) p23] p24] [] [] p25,
      .Return (some (.Name h p26)) p27] sg dV kV doc pm an cdv ct) [a] [])
    (Sg : FnScope [a, h, e] [a] sg) (ga : sg.names.lookup a = some .local) (gh : sg.names.lookup h = some .local) (ge : sg.names.lookup e = some .local) (gC : sg.names.lookup C = some .globalImplicit) (gT : sg.names.lookup top = some .globalImplicit)
    (nd : [a, h, e].Nodup := by decide) (dC : (C == ("__debug__" : Str)) = false := by decide) (dT : (top == ("__debug__" : Str)) = false := by decide) (dh : (h == ("__debug__" : Str)) = false := by decide) (ch : (h == ("__classdict__" : Str)) = false := by decide) (de : (e == ("__debug__" : Str)) = false := by decide) (ce : (e == ("__classdict__" : Str)) = false := by decide) :
    Hears P w K mg base tabs x a C f1 f2 w0 bad n0 L kT := by
  refine ⟨g, CS, pg, _, sg, dV, kV, doc, pm, cdv, ct, oc, an, od, osl, [a, h, e], hC, hL, hm, keep_fn lk, lk, hcd, hb, Sg, rfl, .inl ga, fun X k q e1 e2 e3 e4 e5 hk => ?_⟩
  subst e1 e2 e3 e4 e5
  exact heard_gives (xfB_ok hxf) hn1 hn2 hC hex FT hk hmT hkT hbT nd ga gh ge gC gT dC dT dh ch de ce
theorem lamAt_of {tabs : Tf} {x q : Str} {f c P : Addr} {oc : Value} {od : Option Addr} {fd : FuncData} {sl : Array (Option Value)} (a : mg x = some (.ref f)) (l : K.lookup f = some ⟨oc, od, .func fd, sl⟩) (hc : fd.code = .ref c) (hP : (P, q) ∈ tabs.lts) (hu : ∀ t ∈ tabs.lts, t.1 = P → t.2 = q) (TB : GxR.TabB base mg c P) : LamAt K mg base tabs x q := by
  refine ⟨c, P, hP, hu, ⟨TB.code, TB.bm, TB.gP⟩, fun f' fd' qual st e F => ?_⟩
  rw [a] at e
  cases e
  obtain ⟨oc', od', kV, doc, pm, an, cdv, ct, osl, rfl, lk, _⟩ := F.ex
  rw [l] at lk
  cases lk
  exact hc
end
end DL
namespace DL
open PySem PySem.Spec L2
open PyProof.Rows hiding St
theorem walkX {l : PySem.W.OpenLaw} {n k : Nat} {q : Program} {loose : List Str} {XP : (Str → Option Value) → Heap → Prop} {d : DefRec} {x : Str} {S : PySem.W.Frag → Prop}
    (hn : l.most = some n) (hn2 : n ≤ sizeLine) (hdf : d.params.defaults = []) (hr : Room k callerA)
    (F : ∀ (w : World) (mg : Str → Option Value) (fa : Addr) (h : Heap) (K : PySem.W.Frag), K.In h → S K → h.Ns mainGlobals mg → mg d.name = some (.ref fa) → (∀ nm : Str, ((recsOf q).any fun e => e.name == nm) = true → OwnTab K mg h nm) →
      ∃ (fd : FuncData) (cs : List (Addr × Addr)) (sp : Sp), (∀ c ∈ cs, h.get? c.2 = some { cls := .none, data := .fields #[] } ∧ K.lookup c.2 = none ∧ PySem.W.CodeHd h c.1 c.2) ∧ (∀ (s : Shared) (u : Value), BindsTo s fd ⟨[u], []⟩ [(x, u)]) ∧
        (∀ base : Heap, K.In base → base.Ns mainGlobals mg → (∀ c ∈ cs, GxR.TabB base mg c.1 c.2) → FnG l.prog w K mg base CX0 k fa fd [x] sp) ∧
        ∀ (H : Hp) (a : Addr) (ns : List Int), ns.length ≤ n → (∀ c ∈ cs, H c.2 = some (.tbl #[])) → SqL K H a (ns.map V.int) → sp [.ref a] H (fun v _ => v = .bl true) fun _ _ _ => False) :
    PySem.W.WalkO q loose XP (fun _ h => ∃ K : PySem.W.Frag, K.In h ∧ S K) l.row.toRowW d [] (fun f vs => PySem.call f vs) := by
  refine Att.attach_callB hn hdf fun w s₀ s₁ mg mb fa o pm cd doc a vs ns G Y ho hd hcd hmg obj isI hlen _ gens => ?_
  obtain ⟨K, inK, sK⟩ := Y
  have own : ∀ nm : Str, ((recsOf q).any fun e => e.name == nm) = true → OwnTab K mg s₁.heap nm := fun nm hrec f c P o1 fd1 e dd vs1 sl k0 k1 k2 k3 k4 k5 => by
    obtain ⟨dL, hm, hn1⟩ := List.any_eq_true.mp hrec
    have hn2 : dL.name = nm := beq_iff_eq.mp hn1
    obtain ⟨a', o', fd', c', P', h1, h2, h3, h4, h5, h6⟩ := G.T.tab dL hm
    have C := PySem.W.CodeHd.of h5 h6
    obtain ⟨⟨oc, vc, e1, _, e3, e4⟩, hP⟩ := h6
    rw [hn2, k0] at h1
    cases h1
    have g1 := inK _ _ k1
    rw [g1] at h2
    cases h2
    rw [k2] at h3
    cases h3
    rw [k3] at h4
    cases h4
    have g2 := inK _ _ k4
    rw [g2] at e1
    cases e1
    cases e3
    rw [k5] at e4
    cases e4
    exact ⟨hP, C⟩
  obtain ⟨fd, cs, sp, hT, hb, hF, hsp⟩ := F w mg fa _ K inK sK G.T.g hmg own
  exact callTop inK G.T.g G.T.b G.T.builtins G.T.nolimit gens hT G.T.bmain obj isI (Nat.le_trans hlen hn2) hr hF hb fun H hH hS => hsp H a ns hlen hH hS
end DL
namespace LW
open PySem PySem.Spec L2 DL
open PyProof.Rows hiding St
theorem sc_is_integer : FnScope ["value"] ["value"] (defScope s_is_integer) := ⟨rfl, rfl, rfl, by decide +kernel, rfl, by decide +kernel, by decide +kernel⟩
theorem sc_is_interval : FnScope ["value", "low", "high"] ["value"] (defScope s_is_interval) := ⟨rfl, rfl, rfl, by decide +kernel, rfl, by decide +kernel, by decide +kernel⟩
theorem sc_check_interval : FnScope ["interval"] ["interval"] (defScope s_check_interval) := ⟨rfl, rfl, rfl, by decide +kernel, rfl, by decide +kernel, by decide +kernel⟩
theorem sc__check_both : FnScope ["one", "other"] ["one", "other"] (defScope s__check_both) := ⟨rfl, rfl, rfl, by decide +kernel, rfl, by decide +kernel, by decide +kernel⟩
theorem sc_in_bounds : FnScope ["low", "high"] ["low", "high"] (defScope s_in_bounds) := ⟨rfl, rfl, rfl, by decide +kernel, rfl, by decide +kernel, by decide +kernel⟩
theorem sc_grain_times : FnScope ["one", "other", "low", "high", "least", "greatest", "ends"] ["one", "other"] (defScope s_grain_times) := ⟨rfl, rfl, rfl, by decide +kernel, rfl, by decide +kernel, by decide +kernel⟩
theorem sc_times : FnScope ["one", "other"] ["one", "other"] (defScope s_times) := ⟨rfl, rfl, rfl, by decide +kernel, rfl, by decide +kernel, by decide +kernel⟩
theorem sc_floor_of : FnScope ["ratio", "times"] ["ratio", "times"] (defScope s_floor_of) := ⟨rfl, rfl, rfl, by decide +kernel, rfl, by decide +kernel, by decide +kernel⟩
theorem sc_ceiling_of : FnScope ["ratio", "times"] ["ratio", "times"] (defScope s_ceiling_of) := ⟨rfl, rfl, rfl, by decide +kernel, rfl, by decide +kernel, by decide +kernel⟩
theorem sc_grain_hull : FnScope ["one", "other"] ["one", "other"] (defScope s_grain_hull) := ⟨rfl, rfl, rfl, by decide +kernel, rfl, by decide +kernel, by decide +kernel⟩
theorem sc_grain_meet : FnScope ["one", "other", "low", "high"] ["one", "other"] (defScope s_grain_meet) := ⟨rfl, rfl, rfl, by decide +kernel, rfl, by decide +kernel, by decide +kernel⟩
theorem sc_lies_within : FnScope ["one", "other"] ["one", "other"] (defScope s_lies_within) := ⟨rfl, rfl, rfl, by decide +kernel, rfl, by decide +kernel, by decide +kernel⟩
theorem sc_middle_of : FnScope ["interval"] ["interval"] (defScope s_middle_of) := ⟨rfl, rfl, rfl, by decide +kernel, rfl, by decide +kernel, by decide +kernel⟩
theorem sc_has_ratio : FnScope ["interval", "ratio", "number"] ["interval", "ratio"] (defScope s_has_ratio) := ⟨rfl, rfl, rfl, by decide +kernel, rfl, by decide +kernel, by decide +kernel⟩
theorem sc_is_from_to : FnScope ["value", "least", "most"] ["value", "least", "most"] (defScope s_is_from_to) := ⟨rfl, rfl, rfl, by decide +kernel, rfl, by decide +kernel, by decide +kernel⟩
theorem sc_is_ratio : FnScope ["value", "number", "under"] ["value"] (defScope s_is_ratio) := ⟨rfl, rfl, rfl, by decide +kernel, rfl, by decide +kernel, by decide +kernel⟩
theorem sc__law_draw : FnScope ["pot", "room", "digit"] ["pot", "room"] (defScope s__law_draw) := ⟨rfl, rfl, rfl, by decide +kernel, rfl, by decide +kernel, by decide +kernel⟩
theorem sc__law_pick : FnScope ["pot", "some"] ["pot", "some"] (defScope s__law_pick) := ⟨rfl, rfl, rfl, by decide +kernel, rfl, by decide +kernel, by decide +kernel⟩
theorem sc__law_one : FnScope [] [] (defScope s__law_one) := ⟨rfl, rfl, rfl, by decide +kernel, rfl, by decide +kernel, by decide +kernel⟩
theorem sc__law_gcd : FnScope ["one", "other"] ["one", "other"] (defScope s__law_gcd) := ⟨rfl, rfl, rfl, by decide +kernel, rfl, by decide +kernel, by decide +kernel⟩
theorem sc__law_ratio : FnScope ["number", "under", "shared", "sign"] ["number", "under"] (defScope s__law_ratio) := ⟨rfl, rfl, rfl, by decide +kernel, rfl, by decide +kernel, by decide +kernel⟩
theorem sc_check_ratio : FnScope ["ratio"] ["ratio"] (defScope s_check_ratio) := ⟨rfl, rfl, rfl, by decide +kernel, rfl, by decide +kernel, by decide +kernel⟩
theorem sc_holds_ratio : FnScope ["interval", "ratio"] ["interval", "ratio"] (defScope s_holds_ratio) := ⟨rfl, rfl, rfl, by decide +kernel, rfl, by decide +kernel, by decide +kernel⟩
theorem sc_hull : FnScope ["one", "other"] ["one", "other"] (defScope s_hull) := ⟨rfl, rfl, rfl, by decide +kernel, rfl, by decide +kernel, by decide +kernel⟩
theorem sc_meet : FnScope ["one", "other"] ["one", "other"] (defScope s_meet) := ⟨rfl, rfl, rfl, by decide +kernel, rfl, by decide +kernel, by decide +kernel⟩
theorem sc_within : FnScope ["one", "other"] ["one", "other"] (defScope s_within) := ⟨rfl, rfl, rfl, by decide +kernel, rfl, by decide +kernel, by decide +kernel⟩
theorem sc_halves : FnScope ["interval", "half"] ["interval"] (defScope s_halves) := ⟨rfl, rfl, rfl, by decide +kernel, rfl, by decide +kernel, by decide +kernel⟩
theorem sc__law_small_ratio : FnScope ["pot", "number"] ["pot"] (defScope s__law_small_ratio) := ⟨rfl, rfl, rfl, by decide +kernel, rfl, by decide +kernel, by decide +kernel⟩
theorem sc_grain_around : FnScope ["ratio"] ["ratio"] (defScope s_grain_around) := ⟨rfl, rfl, rfl, by decide +kernel, rfl, by decide +kernel, by decide +kernel⟩
theorem sc_grain_plus : FnScope ["one", "other"] ["one", "other"] (defScope s_grain_plus) := ⟨rfl, rfl, rfl, by decide +kernel, rfl, by decide +kernel, by decide +kernel⟩
theorem sc_grain_minus : FnScope ["one", "other"] ["one", "other"] (defScope s_grain_minus) := ⟨rfl, rfl, rfl, by decide +kernel, rfl, by decide +kernel, by decide +kernel⟩
theorem sc_grain_over : FnScope ["one", "other", "low", "high", "least", "greatest", "below", "above"] ["one", "other"] (defScope s_grain_over) := ⟨rfl, rfl, rfl, by decide +kernel, rfl, by decide +kernel, by decide +kernel⟩
theorem sc_integer_power : FnScope ["base", "many", "result", "_"] ["base", "many"] (defScope s_integer_power) := ⟨rfl, rfl, rfl, by decide +kernel, rfl, by decide +kernel, by decide +kernel⟩
theorem sc_grain_power : FnScope ["interval", "many", "under", "ends", "low", "end"] ["interval", "many"] (defScope s_grain_power) := ⟨rfl, rfl, rfl, by decide +kernel, rfl, by decide +kernel, by decide +kernel⟩
theorem sc_grain_scaled : FnScope ["interval", "ratio", "number", "under", "ends"] ["interval", "ratio"] (defScope s_grain_scaled) := ⟨rfl, rfl, rfl, by decide +kernel, rfl, by decide +kernel, by decide +kernel⟩
theorem sc_around : FnScope ["ratio"] ["ratio"] (defScope s_around) := ⟨rfl, rfl, rfl, by decide +kernel, rfl, by decide +kernel, by decide +kernel⟩
theorem sc_plus : FnScope ["one", "other"] ["one", "other"] (defScope s_plus) := ⟨rfl, rfl, rfl, by decide +kernel, rfl, by decide +kernel, by decide +kernel⟩
theorem sc_minus : FnScope ["one", "other"] ["one", "other"] (defScope s_minus) := ⟨rfl, rfl, rfl, by decide +kernel, rfl, by decide +kernel, by decide +kernel⟩
theorem sc_over : FnScope ["one", "other"] ["one", "other"] (defScope s_over) := ⟨rfl, rfl, rfl, by decide +kernel, rfl, by decide +kernel, by decide +kernel⟩
theorem sc_powered : FnScope ["interval", "many"] ["interval", "many"] (defScope s_powered) := ⟨rfl, rfl, rfl, by decide +kernel, rfl, by decide +kernel, by decide +kernel⟩
theorem sc_scaled : FnScope ["interval", "ratio"] ["interval", "ratio"] (defScope s_scaled) := ⟨rfl, rfl, rfl, by decide +kernel, rfl, by decide +kernel, by decide +kernel⟩
theorem sc_ratio_of : FnScope ["number", "under", "part"] ["number", "under"] (defScope s_ratio_of) := ⟨rfl, rfl, rfl, by decide +kernel, rfl, by decide +kernel, by decide +kernel⟩
theorem sc_ends_of : FnScope ["interval"] ["interval"] (defScope s_ends_of) := ⟨rfl, rfl, rfl, by decide +kernel, rfl, by decide +kernel, by decide +kernel⟩
theorem sc_width : FnScope ["interval"] ["interval"] (defScope s_width) := ⟨rfl, rfl, rfl, by decide +kernel, rfl, by decide +kernel, by decide +kernel⟩
theorem sc_middle : FnScope ["interval"] ["interval"] (defScope s_middle) := ⟨rfl, rfl, rfl, by decide +kernel, rfl, by decide +kernel, by decide +kernel⟩
theorem sc__law_top : FnScope [] [] (defScope s__law_top) := ⟨rfl, rfl, rfl, by decide +kernel, rfl, by decide +kernel, by decide +kernel⟩
theorem sc__law_down : FnScope ["number", "under"] ["number", "under"] (defScope s__law_down) := ⟨rfl, rfl, rfl, by decide +kernel, rfl, by decide +kernel, by decide +kernel⟩
theorem sc__law_up : FnScope ["number", "under"] ["number", "under"] (defScope s__law_up) := ⟨rfl, rfl, rfl, by decide +kernel, rfl, by decide +kernel, by decide +kernel⟩
theorem sc__law_size : FnScope ["pot", "way"] ["pot"] (defScope s__law_size) := ⟨rfl, rfl, rfl, by decide +kernel, rfl, by decide +kernel, by decide +kernel⟩
theorem sc__law_number : FnScope ["pot", "size"] ["pot"] (defScope s__law_number) := ⟨rfl, rfl, rfl, by decide +kernel, rfl, by decide +kernel, by decide +kernel⟩
theorem sc__law_interval : FnScope ["pot", "one", "other"] ["pot"] (defScope s__law_interval) := ⟨rfl, rfl, rfl, by decide +kernel, rfl, by decide +kernel, by decide +kernel⟩
theorem sc__law_within : FnScope ["pot", "interval", "low", "high", "under", "part"] ["pot", "interval"] (defScope s__law_within) := ⟨rfl, rfl, rfl, by decide +kernel, rfl, by decide +kernel, by decide +kernel⟩
theorem sc__law_rounded : FnScope ["numbers", "under", "low", "high"] ["numbers", "under"] (defScope s__law_rounded) := ⟨rfl, rfl, rfl, by decide +kernel, rfl, by decide +kernel, by decide +kernel⟩
theorem sc__law_product_of : FnScope ["one", "other", "found", "near", "far"] ["one", "other"] (defScope s__law_product_of) := ⟨rfl, rfl, rfl, by decide +kernel, rfl, by decide +kernel, by decide +kernel⟩
theorem sc__law_power : FnScope ["number", "many", "found", "turn"] ["number", "many"] (defScope s__law_power) := ⟨rfl, rfl, rfl, by decide +kernel, rfl, by decide +kernel, by decide +kernel⟩
theorem sc__law_powered : FnScope ["interval", "many", "numbers", "end"] ["interval", "many"] (defScope s__law_powered) := ⟨rfl, rfl, rfl, by decide +kernel, rfl, by decide +kernel, by decide +kernel⟩
theorem sc__law_over : FnScope ["one", "other", "under", "sign", "numbers", "near", "far"] ["one", "other"] (defScope s__law_over) := ⟨rfl, rfl, rfl, by decide +kernel, rfl, by decide +kernel, by decide +kernel⟩
theorem sc__law_pair_right : FnScope ["pot", "due", "heard", "low", "high", "is_in", "one", "other"] ["pot"] (defScope s__law_pair_right) := ⟨rfl, rfl, rfl, by decide +kernel, rfl, by decide +kernel, by decide +kernel⟩
theorem sc__law_single_right : FnScope ["pot", "numbers", "low", "high", "half", "some", "fine", "many", "one", "told", "end", "late"] ["pot"] (defScope s__law_single_right) := ⟨rfl, rfl, rfl, by decide +kernel, rfl, by decide +kernel, by decide +kernel⟩
theorem sc__law_right : FnScope ["pot", "turn"] ["pot"] (defScope s__law_right) := ⟨rfl, rfl, rfl, by decide +kernel, rfl, by decide +kernel, by decide +kernel⟩
theorem sc__law_pot : FnScope ["script", "k", "cell"] ["script", "k"] (defScope s__law_pot) := ⟨rfl, rfl, rfl, by decide +kernel, rfl, by decide +kernel, by decide +kernel⟩
theorem sc_law : FnScope ["script"] ["script"] (defScope s_law) := ⟨rfl, rfl, rfl, by decide +kernel, rfl, by decide +kernel, by decide +kernel⟩
theorem sc__law_heard : FnScope ["call", "heard", "e"] ["call"] (defScope s__law_heard) := ⟨rfl, rfl, rfl, by decide +kernel, rfl, by decide +kernel, by decide +kernel⟩
theorem sci_NoQuotient : FnScope ["self"] ["self"] (defScope (methS s_NoQuotient)) := ⟨rfl, rfl, rfl, by decide +kernel, rfl, by decide +kernel, by decide +kernel⟩
theorem sci_TooMany : FnScope ["self", "what", "limit"] ["self", "what", "limit"] (defScope (methS s_TooMany)) := ⟨rfl, rfl, rfl, by decide +kernel, rfl, by decide +kernel, by decide +kernel⟩
structure Txt (K : PySem.W.Frag) (mg : Str → Option Value) where
  b_abs : mg "abs" = none
  b_bool : mg "bool" = none
  b_divmod : mg "divmod" = none
  b_int : mg "int" = none
  b_isinstance : mg "isinstance" = none
  b_len : mg "len" = none
  b_max : mg "max" = none
  b_min : mg "min" = none
  b_range : mg "range" = none
  b_repr : mg "repr" = none
  b_tuple : mg "tuple" = none
  t_MOST_GRAINS : Tok
  m_MOST_GRAINS : mg "MOST_GRAINS" = some (.int 1180591620717411303424 t_MOST_GRAINS)
  t_ONE : Tok
  m_ONE : mg "ONE" = some (.int 1099511627776 t_ONE)
  a_WHOLE : Addr
  o_WHOLE : Obj
  m_WHOLE : mg "WHOLE" = some (.ref a_WHOLE)
  l_WHOLE : K.lookup a_WHOLE = some o_WHOLE
  k_WHOLE : KTup K a_WHOLE (.tup [.int 1099511627776, .int 1099511627776])
  t__MOST_POWER : Tok
  m__MOST_POWER : mg "_MOST_POWER" = some (.int 40 t__MOST_POWER)
  m_gcd : mg "gcd" = some (.builtin "math.gcd")
structure Iv (q : Int × Int) : Prop where
  lo : -1180591620717411303424 ≤ q.1
  le : q.1 ≤ q.2
  hi : q.2 ≤ 1180591620717411303424
structure Rt (q : Int × Int) : Prop where
  pos : 1 ≤ q.2
  cop : Nat.gcd q.1.natAbs q.2.natAbs = 1
  few : q.2 < 1606938044258990275541962092341162602522202993782792835301376
structure Bx (b : List (Int × Int)) : Prop where
  one : 1 ≤ b.length
  few : b.length ≤ 8
  iv : ∀ q ∈ b, Iv q
structure Pt (b : List (Int × Int)) : Prop where
  one : 1 ≤ b.length
  few : b.length ≤ 8
  rt : ∀ q ∈ b, Rt q
theorem gcd_pos {a b : Int} (hb : 0 < b) : 0 < Nat.gcd a.natAbs b.natAbs := Nat.gcd_pos_of_pos_right _ (by omega)
theorem low_terms {n u : Int} (hu : 0 < u) (hw : u < 1606938044258990275541962092341162602522202993782792835301376) :
    Rt (n / ((Nat.gcd n.natAbs u.natAbs : Nat) : Int), u / ((Nat.gcd n.natAbs u.natAbs : Nat) : Int)) ∧ n / ((Nat.gcd n.natAbs u.natAbs : Nat) : Int) * u = n * (u / ((Nat.gcd n.natAbs u.natAbs : Nat) : Int)) := by
  have hg := gcd_pos (a := n) hu
  generalize hgd : Nat.gcd n.natAbs u.natAbs = g at hg
  have d1 : (g : Int) ∣ n := Int.ofNat_dvd_left.mpr (hgd ▸ Nat.gcd_dvd_left _ _)
  have d2 : (g : Int) ∣ u := Int.ofNat_dvd_left.mpr (hgd ▸ Nat.gcd_dvd_right _ _)
  obtain ⟨a, rfl⟩ := d1
  obtain ⟨b, rfl⟩ := d2
  have g0 : (g : Int) ≠ 0 := by omega
  rw [Int.mul_ediv_cancel_left _ g0, Int.mul_ediv_cancel_left _ g0]
  have hb : 0 < b := by
    by_cases c : 0 < b
    · exact c
    · have := Int.mul_nonneg (show (0 : Int) ≤ g by omega) (show 0 ≤ -b by omega)
      rw [Int.mul_neg] at this
      omega
  refine ⟨⟨by show 1 ≤ b; omega, ?_, ?_⟩, by grind⟩
  · show Nat.gcd a.natAbs b.natAbs = 1
    rw [Int.natAbs_mul, Int.natAbs_mul, Int.natAbs_natCast, Nat.gcd_mul_left] at hgd
    exact Nat.eq_of_mul_eq_mul_left hg (by omega)
  · show b < _
    have := Int.mul_le_mul_of_nonneg_right (show (1 : Int) ≤ g by omega) (show 0 ≤ b by omega)
    omega
theorem ok2 (x y : Bool) : okR (.lst [.bl x, .bl y]) := ⟨rfl, ⟨trivial, trivial, trivial⟩, (show 1 + (1 + 0) + 1 ≤ 5000 by omega)⟩
theorem ifT {c A B : Prop} [Decidable c] (h : c) (k : A) : if c then A else B := by rw [if_pos h]; exact k
theorem ivD_ok {q : Int × Int} (h : Iv q) : shp 58 (ivD q) = true ∧ intsOk (ivD q) ∧ cnt (ivD q) ≤ 3 := by
  have h1 := h.lo
  have h2 := h.le
  have h3 := h.hi
  exact ⟨rfl, ⟨small_log (by omega) (by omega), small_log (by omega) (by omega), trivial⟩, Nat.le_refl _⟩
def pI (x y : Int × Int) : Int × Int := (x.1 + y.1, x.2 + y.2)
def mI (x y : Int × Int) : Int × Int := (x.1 - y.2, x.2 - y.1)
def tlo (x y : Int × Int) : Int := minL (x.1 * y.1) [x.1 * y.2, x.2 * y.1, x.2 * y.2]
def thi (x y : Int × Int) : Int := maxL (x.1 * y.1) [x.1 * y.2, x.2 * y.1, x.2 * y.2]
def tI (x y : Int × Int) : Int × Int := (tlo x y / 1099511627776, -(-thi x y / 1099511627776))
def sI (x q : Int × Int) : Int × Int := (minL (x.1 * q.1) [x.2 * q.1] / q.2, -(-maxL (x.1 * q.1) [x.2 * q.1] / q.2))
def oP (x y : Int × Int) : Int × Int := (x.1 * 1099511627776 / (if 0 ≤ x.1 then y.2 else y.1), -(-x.2 * 1099511627776 / (if 0 ≤ x.2 then y.1 else y.2)))
def oI (x y : Int × Int) : Int × Int := if y.2 < 0 then oP (-x.2, -x.1) (-y.2, -y.1) else oP x y
theorem bil {a b c d x y : Int} (h1 : a ≤ x) (h2 : x ≤ b) (h3 : c ≤ y) (h4 : y ≤ d) : minL (a * c) [a * d, b * c, b * d] ≤ x * y ∧ x * y ≤ maxL (a * c) [a * d, b * c, b * d] := by
  have l := minL_le [a * d, b * c, b * d] (a * c)
  have u := maxL_ge [a * d, b * c, b * d] (a * c)
  have l1 := l.2 (a * d) (by simp)
  have l2 := l.2 (b * c) (by simp)
  have l3 := l.2 (b * d) (by simp)
  have u1 := u.2 (a * d) (by simp)
  have u2 := u.2 (b * c) (by simp)
  have u3 := u.2 (b * d) (by simp)
  have l0 := l.1
  have u0 := u.1
  generalize minL (a * c) [a * d, b * c, b * d] = m at *
  generalize maxL (a * c) [a * d, b * c, b * d] = n at *
  -- at each end of x, between the products
  have key : ∀ z : Int, m ≤ z * c → m ≤ z * d → z * c ≤ n → z * d ≤ n → m ≤ z * y ∧ z * y ≤ n := fun z g1 g2 g3 g4 => by
    rcases Int.le_total 0 z with hz | hz
    · have k1 := Int.mul_le_mul_of_nonneg_left h3 hz
      have k2 := Int.mul_le_mul_of_nonneg_left h4 hz
      omega
    · have k1 := Int.mul_le_mul_of_nonpos_left hz h3
      have k2 := Int.mul_le_mul_of_nonpos_left hz h4
      omega
  have ka := key a l0 l1 u0 u1
  have kb := key b l2 l3 u2 u3
  rcases Int.le_total 0 y with hy | hy
  · have k1 := Int.mul_le_mul_of_nonneg_right h1 hy
    have k2 := Int.mul_le_mul_of_nonneg_right h2 hy
    omega
  · have k1 := Int.mul_le_mul_of_nonpos_right h1 hy
    have k2 := Int.mul_le_mul_of_nonpos_right h2 hy
    omega
theorem mul_abs {a b x y : Int} (h1 : -a ≤ x) (h2 : x ≤ a) (h3 : -b ≤ y) (h4 : y ≤ b) : -(a * b) ≤ x * y ∧ x * y ≤ a * b := by
  have h := bil h1 h2 h3 h4
  have e1 : -a * -b = a * b := Int.neg_mul_neg _ _
  have e2 : -a * b = -(a * b) := Int.neg_mul _ _
  have e3 : a * -b = -(a * b) := Int.mul_neg _ _
  rw [e1, e2, e3] at h
  have m := minL_mem [-(a * b), -(a * b), a * b] (a * b)
  have n := maxL_mem [-(a * b), -(a * b), a * b] (a * b)
  have a0 : 0 ≤ a * b := Int.mul_nonneg (by omega) (by omega)
  simp at m n
  omega
theorem fl_mono {a b n : Int} (hn : 0 < n) (h : a ≤ b) : a / n ≤ b / n := Int.ediv_le_ediv hn h
theorem fl_mul {a n : Int} (hn : 0 < n) : a / n * n ≤ a := Int.ediv_mul_le a (by omega)
theorem ce_mul {a n : Int} (hn : 0 < n) : a ≤ -(-a / n) * n := by
  have := Int.ediv_mul_le (-a) (show n ≠ 0 by omega)
  rw [Int.neg_mul]
  omega
theorem fl_ce {a n : Int} (hn : 0 < n) : a / n ≤ -(-a / n) := by
  have h1 := fl_mul (a := a) hn
  have h2 := ce_mul (a := a) hn
  exact Int.le_of_mul_le_mul_right (Int.le_trans h1 h2) hn
theorem fl_ge {a n k : Int} (hn : 0 < n) (h : k * n ≤ a) : k ≤ a / n := Int.le_ediv_of_mul_le hn h
theorem ce_le {a n k : Int} (hn : 0 < n) (h : a ≤ k * n) : -(-a / n) ≤ k := by
  have : -k ≤ -a / n := Int.le_ediv_of_mul_le hn (by rw [Int.neg_mul]; omega)
  omega
theorem tI_le {x y : Int × Int} (hx : x.1 ≤ x.2) (hy : y.1 ≤ y.2) : (tI x y).1 ≤ (tI x y).2 := by
  have b := bil (x := x.1) (y := y.1) (Int.le_refl _) hx (Int.le_refl _) hy
  have : tlo x y ≤ thi x y := by unfold tlo thi; omega
  have h1 := fl_mono (n := 1099511627776) (by decide) this
  have h2 := fl_ce (a := thi x y) (n := 1099511627776) (by decide)
  show tlo x y / _ ≤ -(-thi x y / _)
  omega
theorem t_bnd {x y : Int × Int} {a b : Int} (h1 : -a ≤ x.1) (h2 : x.1 ≤ x.2) (h3 : x.2 ≤ a) (h4 : -b ≤ y.1) (h5 : y.1 ≤ y.2) (h6 : y.2 ≤ b) : -(a * b) ≤ tlo x y ∧ thi x y ≤ a * b := by
  have b1 := mul_abs (x := x.1) (y := y.1) h1 (by omega) h4 (show y.1 ≤ b by omega)
  have b2 := mul_abs (x := x.1) (y := y.2) h1 (show x.1 ≤ a by omega) (show -b ≤ y.2 by omega) h6
  have b3 := mul_abs (x := x.2) (y := y.1) (show -a ≤ x.2 by omega) h3 h4 (show y.1 ≤ b by omega)
  have b4 := mul_abs (x := x.2) (y := y.2) (show -a ≤ x.2 by omega) h3 (show -b ≤ y.2 by omega) h6
  have m := minL_mem [x.1 * y.2, x.2 * y.1, x.2 * y.2] (x.1 * y.1)
  have n := maxL_mem [x.1 * y.2, x.2 * y.1, x.2 * y.2] (x.1 * y.1)
  simp only [List.mem_cons, List.not_mem_nil, or_false] at m n
  unfold tlo thi
  omega
structure Sm (w : Int) (q : Int × Int) : Prop where
  lo : -w ≤ q.1
  le : q.1 ≤ q.2
  hi : q.2 ≤ w
theorem Sm.iv {w : Int} {q : Int × Int} (h : Sm w q) (hw : w ≤ 1180591620717411303424) : Iv q := ⟨by have := h.lo; omega, h.le, by have := h.hi; omega⟩
theorem Sm.plus {v w : Int} {x y : Int × Int} (h : Sm v x) (k : Sm w y) : Sm (v + w) (pI x y) := by
  have h1 := h.lo; have h2 := h.le; have h3 := h.hi; have k1 := k.lo; have k2 := k.le; have k3 := k.hi
  exact ⟨by show _ ≤ x.1 + y.1; omega, by show x.1 + y.1 ≤ x.2 + y.2; omega, by show x.2 + y.2 ≤ _; omega⟩
theorem Sm.minus {v w : Int} {x y : Int × Int} (h : Sm v x) (k : Sm w y) : Sm (v + w) (mI x y) := by
  have h1 := h.lo; have h2 := h.le; have h3 := h.hi; have k1 := k.lo; have k2 := k.le; have k3 := k.hi
  exact ⟨by show _ ≤ x.1 - y.2; omega, by show x.1 - y.2 ≤ x.2 - y.1; omega, by show x.2 - y.1 ≤ _; omega⟩
theorem Sm.times {v w u : Int} {x y : Int × Int} (h : Sm v x) (k : Sm w y) (hu : v * w ≤ u * 1099511627776) : Sm u (tI x y) := by
  have b := t_bnd h.lo h.le h.hi k.lo k.le k.hi
  refine ⟨fl_ge (by decide) (by rw [Int.neg_mul]; omega), tI_le h.le k.le, ce_le (by decide) (by omega)⟩
theorem red {lo hi N D n d : Int} (hD : 0 < D) (hd : 1 ≤ d) (e : n * D = N * d) (h1 : lo * D ≤ N * 1099511627776) (h2 : N * 1099511627776 ≤ hi * D) : lo * d ≤ n * 1099511627776 ∧ n * 1099511627776 ≤ hi * d := by
  have a1 := Int.mul_le_mul_of_nonneg_right h1 (show 0 ≤ d by omega)
  have a2 := Int.mul_le_mul_of_nonneg_right h2 (show 0 ≤ d by omega)
  have e1 : N * 1099511627776 * d = n * 1099511627776 * D := by grind
  have e2 : lo * D * d = lo * d * D := by grind
  have e3 : hi * D * d = hi * d * D := by grind
  rw [e1, e2] at a1
  rw [e1, e3] at a2
  exact ⟨Int.le_of_mul_le_mul_right a1 hD, Int.le_of_mul_le_mul_right a2 hD⟩
theorem sI_mem {x q : Int × Int} {y : Int} (h1 : x.1 ≤ y) (h2 : y ≤ x.2) : minL (x.1 * q.1) [x.2 * q.1] ≤ y * q.1 ∧ y * q.1 ≤ maxL (x.1 * q.1) [x.2 * q.1] := by
  have m2 := minL_le [x.2 * q.1] (x.1 * q.1)
  have n2 := maxL_ge [x.2 * q.1] (x.1 * q.1)
  have m3 := m2.2 (x.2 * q.1) (by simp)
  have n3 := n2.2 (x.2 * q.1) (by simp)
  rcases Int.le_total 0 q.1 with hz | hz
  · have k1 := Int.mul_le_mul_of_nonneg_right h1 hz
    have k2 := Int.mul_le_mul_of_nonneg_right h2 hz
    omega
  · have k1 := Int.mul_le_mul_of_nonpos_right h1 hz
    have k2 := Int.mul_le_mul_of_nonpos_right h2 hz
    omega
theorem Sm.scaled {v u : Int} {x q : Int × Int} {a : Int} (h : Sm v x) (q1 : -a ≤ q.1) (q2 : q.1 ≤ a) (hq : 1 ≤ q.2) (hu : v * a ≤ u) : Sm u (sI x q) := by
  have h1 := h.lo; have h2 := h.le; have h3 := h.hi
  have b1 := mul_abs (x := x.1) (y := q.1) h1 (show x.1 ≤ v by omega) q1 q2
  have b2 := mul_abs (x := x.2) (y := q.1) (show -v ≤ x.2 by omega) h3 q1 q2
  have m := minL_mem [x.2 * q.1] (x.1 * q.1)
  have n := maxL_mem [x.2 * q.1] (x.1 * q.1)
  simp only [List.mem_cons, List.not_mem_nil, or_false] at m n
  have mn : minL (x.1 * q.1) [x.2 * q.1] ≤ maxL (x.1 * q.1) [x.2 * q.1] := by
    have := minL_le [x.2 * q.1] (x.1 * q.1)
    have := maxL_ge [x.2 * q.1] (x.1 * q.1)
    omega
  have u0 : 0 ≤ u := by
    have : 0 ≤ v * a := Int.mul_nonneg (by omega) (by omega)
    omega
  have uq : u ≤ u * q.2 := by
    have := Int.mul_le_mul_of_nonneg_left hq u0
    omega
  refine ⟨fl_ge (by omega) (by rw [Int.neg_mul]; omega), ?_, ce_le (by omega) (by omega)⟩
  have f1 := fl_mono (n := q.2) (by omega) mn
  have f2 := fl_ce (a := maxL (x.1 * q.1) [x.2 * q.1]) (n := q.2) (by omega)
  show minL (x.1 * q.1) [x.2 * q.1] / q.2 ≤ -(-maxL (x.1 * q.1) [x.2 * q.1] / q.2)
  omega
theorem oP_mem {x y : Int × Int} {d1 X d2 Y : Int} (hd1 : 1 ≤ d1) (hd2 : 1 ≤ d2) (hx1 : x.1 * d1 ≤ X) (hx2 : X ≤ x.2 * d1) (hy0 : 0 < y.1) (hy1 : y.1 * d2 ≤ Y) (hy2 : Y ≤ y.2 * d2) :
    (oP x y).1 * (d1 * Y) ≤ X * d2 * 1099511627776 ∧ X * d2 * 1099511627776 ≤ (oP x y).2 * (d1 * Y) := by
  have hyy : 0 < y.2 := by
    have : y.1 * d2 ≤ y.2 * d2 := by omega
    have := Int.le_of_mul_le_mul_right this (by omega)
    omega
  constructor
  · show x.1 * 1099511627776 / (if 0 ≤ x.1 then y.2 else y.1) * (d1 * Y) ≤ _
    by_cases c : 0 ≤ x.1
    · rw [if_pos c]
      have f := fl_mul (a := x.1 * 1099511627776) hyy
      have f0 : 0 ≤ x.1 * 1099511627776 / y.2 := Int.ediv_nonneg (by omega) (by omega)
      generalize x.1 * 1099511627776 / y.2 = L at *
      have a1 := Int.mul_le_mul_of_nonneg_left hy2 f0
      have a2 := Int.mul_le_mul_of_nonneg_right f (show 0 ≤ d2 by omega)
      have a3 : L * Y ≤ x.1 * 1099511627776 * d2 := by
        have : L * (y.2 * d2) = L * y.2 * d2 := by grind
        omega
      have a4 := Int.mul_le_mul_of_nonneg_left a3 (show 0 ≤ d1 by omega)
      have a5 := Int.mul_le_mul_of_nonneg_right hx1 (show 0 ≤ d2 * 1099511627776 by omega)
      have e1 : L * (d1 * Y) = d1 * (L * Y) := by grind
      have e2 : d1 * (x.1 * 1099511627776 * d2) = x.1 * d1 * (d2 * 1099511627776) := by grind
      have e3 : X * d2 * 1099511627776 = X * (d2 * 1099511627776) := by grind
      omega
    · rw [if_neg c]
      have f := fl_mul (a := x.1 * 1099511627776) hy0
      have f0 : x.1 * 1099511627776 / y.1 ≤ 0 := by
        have := fl_mono (n := y.1) hy0 (show x.1 * 1099511627776 ≤ 0 by omega)
        rwa [Int.zero_ediv] at this
      generalize x.1 * 1099511627776 / y.1 = L at *
      have a1 := Int.mul_le_mul_of_nonpos_left f0 hy1
      have a2 := Int.mul_le_mul_of_nonneg_right f (show 0 ≤ d2 by omega)
      have a3 : L * Y ≤ x.1 * 1099511627776 * d2 := by
        have : L * (y.1 * d2) = L * y.1 * d2 := by grind
        omega
      have a4 := Int.mul_le_mul_of_nonneg_left a3 (show 0 ≤ d1 by omega)
      have a5 := Int.mul_le_mul_of_nonneg_right hx1 (show 0 ≤ d2 * 1099511627776 by omega)
      have e1 : L * (d1 * Y) = d1 * (L * Y) := by grind
      have e2 : d1 * (x.1 * 1099511627776 * d2) = x.1 * d1 * (d2 * 1099511627776) := by grind
      have e3 : X * d2 * 1099511627776 = X * (d2 * 1099511627776) := by grind
      omega
  · show _ ≤ -(-x.2 * 1099511627776 / (if 0 ≤ x.2 then y.1 else y.2)) * (d1 * Y)
    by_cases c : 0 ≤ x.2
    · rw [if_pos c]
      have f := ce_mul (a := x.2 * 1099511627776) hy0
      have f0 : 0 ≤ -(-(x.2 * 1099511627776) / y.1) := by
        have := fl_mono (n := y.1) hy0 (show -(x.2 * 1099511627776) ≤ 0 by omega)
        rw [Int.zero_ediv] at this
        omega
      rw [Int.neg_mul x.2]
      generalize -(-(x.2 * 1099511627776) / y.1) = L at *
      have a1 := Int.mul_le_mul_of_nonneg_left hy1 f0
      have a2 := Int.mul_le_mul_of_nonneg_right f (show 0 ≤ d2 by omega)
      have a3 : x.2 * 1099511627776 * d2 ≤ L * Y := by
        have : L * (y.1 * d2) = L * y.1 * d2 := by grind
        omega
      have a4 := Int.mul_le_mul_of_nonneg_left a3 (show 0 ≤ d1 by omega)
      have a5 := Int.mul_le_mul_of_nonneg_right hx2 (show 0 ≤ d2 * 1099511627776 by omega)
      have e1 : L * (d1 * Y) = d1 * (L * Y) := by grind
      have e2 : d1 * (x.2 * 1099511627776 * d2) = x.2 * d1 * (d2 * 1099511627776) := by grind
      have e3 : X * d2 * 1099511627776 = X * (d2 * 1099511627776) := by grind
      omega
    · rw [if_neg c]
      have f := ce_mul (a := x.2 * 1099511627776) hyy
      have f0 : -(-(x.2 * 1099511627776) / y.2) ≤ 0 := by
        have : 0 ≤ -(x.2 * 1099511627776) / y.2 := Int.ediv_nonneg (by omega) (by omega)
        omega
      rw [Int.neg_mul x.2]
      generalize -(-(x.2 * 1099511627776) / y.2) = L at *
      have a1 := Int.mul_le_mul_of_nonpos_left f0 hy2
      have a2 := Int.mul_le_mul_of_nonneg_right f (show 0 ≤ d2 by omega)
      have a3 : x.2 * 1099511627776 * d2 ≤ L * Y := by
        have : L * (y.2 * d2) = L * y.2 * d2 := by grind
        omega
      have a4 := Int.mul_le_mul_of_nonneg_left a3 (show 0 ≤ d1 by omega)
      have a5 := Int.mul_le_mul_of_nonneg_right hx2 (show 0 ≤ d2 * 1099511627776 by omega)
      have e1 : L * (d1 * Y) = d1 * (L * Y) := by grind
      have e2 : d1 * (x.2 * 1099511627776 * d2) = x.2 * d1 * (d2 * 1099511627776) := by grind
      have e3 : X * d2 * 1099511627776 = X * (d2 * 1099511627776) := by grind
      omega
theorem sq_nn (a : Int) : 0 ≤ a * a := by
  rcases Int.le_total 0 a with z | z
  · exact Int.mul_nonneg z z
  · exact Int.mul_nonneg_of_nonpos_of_nonpos z z
theorem fl_has {a n D N : Int} (hn : 0 < n) (hD : 0 ≤ D) (h : a * D ≤ N * 1099511627776 * n) : a / n * D ≤ N * 1099511627776 := by
  have f := Int.mul_le_mul_of_nonneg_right (fl_mul (a := a) hn) hD
  have e : a / n * n * D = a / n * D * n := by grind
  exact Int.le_of_mul_le_mul_right (show a / n * D * n ≤ N * 1099511627776 * n by omega) hn
theorem ce_has {a n D N : Int} (hn : 0 < n) (hD : 0 ≤ D) (h : N * 1099511627776 * n ≤ a * D) : N * 1099511627776 ≤ -(-a / n) * D := by
  have f := Int.mul_le_mul_of_nonneg_right (ce_mul (a := a) hn) hD
  generalize -(-a / n) = k at *
  have e : k * n * D = k * D * n := by grind
  exact Int.le_of_mul_le_mul_right (show N * 1099511627776 * n ≤ k * D * n by omega) hn
theorem gcd_fmod (a b : Int) : Nat.gcd b.natAbs (a.fmod b).natAbs = Nat.gcd a.natAbs b.natAbs := by
  have e : (Int.gcd b (a.fmod b)) = Int.gcd a b := by
    have e2 := Int.gcd_add_mul_right_right b (a.fmod b) (a.fdiv b)
    have e3 : a.fmod b + a.fdiv b * b = a := by rw [Int.mul_comm]; exact Int.fmod_add_mul_fdiv a b
    rw [e3] at e2
    rw [← e2, Int.gcd_comm]
  exact e
theorem fmod_abs {a b : Int} (h : b ≠ 0) : (a.fmod b).natAbs < b.natAbs := by
  rcases Int.lt_or_gt_of_ne h with c | c
  · have e : a.fmod b = -((-a) % (-b)) := by
      have := Int.neg_fmod_neg a b
      rw [Int.fmod_eq_emod_of_nonneg (-a) (by omega)] at this
      omega
    have h1 := em0 (a := -a) (n := -b) (by omega)
    have h2 := em1 (a := -a) (n := -b) (by omega)
    omega
  · rw [Int.fmod_eq_emod_of_nonneg a (by omega)]
    have h1 := em0 (a := a) (n := b) (by omega)
    have h2 := em1 (a := a) (n := b) (by omega)
    omega
theorem low_terms2 {n u : Int} (hu : 0 < u) (hw : u < 1606938044258990275541962092341162602522202993782792835301376) :
    u / ((Nat.gcd n.natAbs u.natAbs : Nat) : Int) ≤ u ∧ (n / ((Nat.gcd n.natAbs u.natAbs : Nat) : Int)).natAbs ≤ n.natAbs := by
  have hg := gcd_pos (a := n) hu
  generalize hgd : Nat.gcd n.natAbs u.natAbs = g at hg
  have d1 : (g : Int) ∣ n := Int.ofNat_dvd_left.mpr (hgd ▸ Nat.gcd_dvd_left _ _)
  refine ⟨Int.ediv_le_self _ (by omega), ?_⟩
  obtain ⟨a, rfl⟩ := d1
  rw [Int.mul_ediv_cancel_left _ (by omega), Int.natAbs_mul, Int.natAbs_natCast]
  exact Nat.le_mul_of_pos_left _ hg
structure Rw (w : Int) (q : Int × Int) : Prop where
  rt : Rt q
  lo : -w ≤ q.1
  hi : q.1 ≤ w
  un : q.2 ≤ w
structure In (x q : Int × Int) : Prop where
  lo : x.1 * q.2 ≤ q.1 * 1099511627776
  hi : q.1 * 1099511627776 ≤ x.2 * q.2
theorem In.has {x q : Int × Int} (h : In x q) : (decide (x.1 * q.2 ≤ q.1 * 1099511627776) && decide (q.1 * 1099511627776 ≤ x.2 * q.2)) = true := by
  rw [decide_eq_true h.lo, decide_eq_true h.hi]
  rfl
theorem Sm.mul {w : Int} {x : Int × Int} (h : Sm w x) (hw : w < 18446744073709551616) (j : Int) : MulC x.1 j ∧ MulC x.2 j := by
  have h1 := h.lo; have h2 := h.le; have h3 := h.hi
  exact ⟨.left (by omega) (by omega), .left (by omega) (by omega)⟩
theorem In.plus {x y n f q : Int × Int} (hn : In x n) (hf : In y f) (h1 : 1 ≤ n.2) (h2 : 1 ≤ f.2) (hq : 1 ≤ q.2) (e : q.1 * (n.2 * f.2) = (n.1 * f.2 + f.1 * n.2) * q.2) : In (pI x y) q := by
  have a1 := Int.mul_le_mul_of_nonneg_right hn.lo (show 0 ≤ f.2 by omega)
  have a2 := Int.mul_le_mul_of_nonneg_right hn.hi (show 0 ≤ f.2 by omega)
  have a3 := Int.mul_le_mul_of_nonneg_right hf.lo (show 0 ≤ n.2 by omega)
  have a4 := Int.mul_le_mul_of_nonneg_right hf.hi (show 0 ≤ n.2 by omega)
  have e1 : (x.1 + y.1) * (n.2 * f.2) = x.1 * n.2 * f.2 + y.1 * f.2 * n.2 := by grind
  have e2 : (x.2 + y.2) * (n.2 * f.2) = x.2 * n.2 * f.2 + y.2 * f.2 * n.2 := by grind
  have e3 : (n.1 * f.2 + f.1 * n.2) * 1099511627776 = n.1 * 1099511627776 * f.2 + f.1 * 1099511627776 * n.2 := by grind
  have := red (lo := x.1 + y.1) (hi := x.2 + y.2) (Int.mul_pos (by omega) (by omega)) hq e (by omega) (by omega)
  exact ⟨this.1, this.2⟩
theorem In.minus {x y n f q : Int × Int} (hn : In x n) (hf : In y f) (h1 : 1 ≤ n.2) (h2 : 1 ≤ f.2) (hq : 1 ≤ q.2) (e : q.1 * (n.2 * f.2) = (n.1 * f.2 + -f.1 * n.2) * q.2) : In (mI x y) q := by
  have a1 := Int.mul_le_mul_of_nonneg_right hn.lo (show 0 ≤ f.2 by omega)
  have a2 := Int.mul_le_mul_of_nonneg_right hn.hi (show 0 ≤ f.2 by omega)
  have a3 := Int.mul_le_mul_of_nonneg_right hf.lo (show 0 ≤ n.2 by omega)
  have a4 := Int.mul_le_mul_of_nonneg_right hf.hi (show 0 ≤ n.2 by omega)
  have e1 : (x.1 - y.2) * (n.2 * f.2) = x.1 * n.2 * f.2 - y.2 * f.2 * n.2 := by grind
  have e2 : (x.2 - y.1) * (n.2 * f.2) = x.2 * n.2 * f.2 - y.1 * f.2 * n.2 := by grind
  have e3 : (n.1 * f.2 + -f.1 * n.2) * 1099511627776 = n.1 * 1099511627776 * f.2 - f.1 * 1099511627776 * n.2 := by grind
  have := red (lo := x.1 - y.2) (hi := x.2 - y.1) (Int.mul_pos (by omega) (by omega)) hq e (by omega) (by omega)
  exact ⟨this.1, this.2⟩
theorem In.times {x y n f q : Int × Int} (hn : In x n) (hf : In y f) (h1 : 1 ≤ n.2) (h2 : 1 ≤ f.2) (hq : 1 ≤ q.2) (e : q.1 * (n.2 * f.2) = (n.1 * f.1) * q.2) : In (tI x y) q := by
  have b := bil hn.lo hn.hi hf.lo hf.hi
  have m := minL_mem [x.1 * n.2 * (y.2 * f.2), x.2 * n.2 * (y.1 * f.2), x.2 * n.2 * (y.2 * f.2)] (x.1 * n.2 * (y.1 * f.2))
  have M := maxL_mem [x.1 * n.2 * (y.2 * f.2), x.2 * n.2 * (y.1 * f.2), x.2 * n.2 * (y.2 * f.2)] (x.1 * n.2 * (y.1 * f.2))
  have l := minL_le [x.1 * y.2, x.2 * y.1, x.2 * y.2] (x.1 * y.1)
  have u := maxL_ge [x.1 * y.2, x.2 * y.1, x.2 * y.2] (x.1 * y.1)
  simp only [List.mem_cons, List.not_mem_nil, or_false, forall_eq_or_imp, forall_eq] at m M l u
  have hD : 0 < n.2 * f.2 := Int.mul_pos (by omega) (by omega)
  have ee : ∀ z w : Int, z * n.2 * (w * f.2) = z * w * (n.2 * f.2) := fun z w => by grind
  simp only [ee] at m M b
  have tl : tlo x y * (n.2 * f.2) ≤ n.1 * 1099511627776 * (f.1 * 1099511627776) := by
    have k0 := Int.mul_le_mul_of_nonneg_right l.1 (show 0 ≤ n.2 * f.2 by omega)
    have k1 := Int.mul_le_mul_of_nonneg_right l.2.1 (show 0 ≤ n.2 * f.2 by omega)
    have k2 := Int.mul_le_mul_of_nonneg_right l.2.2.1 (show 0 ≤ n.2 * f.2 by omega)
    have k3 := Int.mul_le_mul_of_nonneg_right l.2.2.2 (show 0 ≤ n.2 * f.2 by omega)
    unfold tlo
    omega
  have th : n.1 * 1099511627776 * (f.1 * 1099511627776) ≤ thi x y * (n.2 * f.2) := by
    have k0 := Int.mul_le_mul_of_nonneg_right u.1 (show 0 ≤ n.2 * f.2 by omega)
    have k1 := Int.mul_le_mul_of_nonneg_right u.2.1 (show 0 ≤ n.2 * f.2 by omega)
    have k2 := Int.mul_le_mul_of_nonneg_right u.2.2.1 (show 0 ≤ n.2 * f.2 by omega)
    have k3 := Int.mul_le_mul_of_nonneg_right u.2.2.2 (show 0 ≤ n.2 * f.2 by omega)
    unfold thi
    omega
  have e2 : n.1 * 1099511627776 * (f.1 * 1099511627776) = n.1 * f.1 * 1099511627776 * 1099511627776 := by grind
  rw [e2] at tl th
  have := red (lo := (tI x y).1) (hi := (tI x y).2) hD hq e (fl_has (by decide) (by omega) tl) (ce_has (by decide) (by omega) th)
  exact ⟨this.1, this.2⟩
theorem In.scaled {x t n q : Int × Int} (hn : In x n) (h1 : 1 ≤ n.2) (h2 : 1 ≤ t.2) (hq : 1 ≤ q.2) (e : q.1 * (n.2 * t.2) = (n.1 * t.1) * q.2) : In (sI x t) q := by
  have b := sI_mem (x := (x.1 * n.2, x.2 * n.2)) (q := t) (y := n.1 * 1099511627776) hn.lo hn.hi
  simp only [] at b
  have m := minL_mem [x.2 * n.2 * t.1] (x.1 * n.2 * t.1)
  have M := maxL_mem [x.2 * n.2 * t.1] (x.1 * n.2 * t.1)
  have l := minL_le [x.2 * t.1] (x.1 * t.1)
  have u := maxL_ge [x.2 * t.1] (x.1 * t.1)
  simp only [List.mem_cons, List.not_mem_nil, or_false, forall_eq_or_imp, forall_eq] at m M l u
  have ee : ∀ z : Int, z * n.2 * t.1 = z * t.1 * n.2 := fun z => by grind
  simp only [ee] at m M b
  have k0 := Int.mul_le_mul_of_nonneg_right l.1 (show 0 ≤ n.2 by omega)
  have k1 := Int.mul_le_mul_of_nonneg_right l.2 (show 0 ≤ n.2 by omega)
  have k2 := Int.mul_le_mul_of_nonneg_right u.1 (show 0 ≤ n.2 by omega)
  have k3 := Int.mul_le_mul_of_nonneg_right u.2 (show 0 ≤ n.2 by omega)
  have tl : minL (x.1 * t.1) [x.2 * t.1] * n.2 ≤ n.1 * 1099511627776 * t.1 := by omega
  have th : n.1 * 1099511627776 * t.1 ≤ maxL (x.1 * t.1) [x.2 * t.1] * n.2 := by omega
  have f1 := Int.mul_le_mul_of_nonneg_right (fl_mul (a := minL (x.1 * t.1) [x.2 * t.1]) (n := t.2) (by omega)) (show 0 ≤ n.2 by omega)
  have f2 := Int.mul_le_mul_of_nonneg_right (ce_mul (a := maxL (x.1 * t.1) [x.2 * t.1]) (n := t.2) (by omega)) (show 0 ≤ n.2 by omega)
  have c0 : n.1 * t.1 * 1099511627776 = n.1 * 1099511627776 * t.1 := by grind
  have c1 : ∀ z : Int, z * (n.2 * t.2) = z * t.2 * n.2 := fun z => by grind
  have := red (lo := (sI x t).1) (hi := (sI x t).2) (Int.mul_pos (show 0 < n.2 by omega) (show 0 < t.2 by omega)) hq e (by rw [c0, c1]; exact Int.le_trans f1 tl) (by rw [c0, c1]; exact Int.le_trans th f2)
  exact ⟨this.1, this.2⟩
theorem In.over {x y n f q : Int × Int} (hn : In x n) (hf : In y f) (h0 : 0 < y.1 ∨ y.2 < 0) (hy : y.1 ≤ y.2) (h1 : 1 ≤ n.2) (h2 : 1 ≤ f.2) (hq : 1 ≤ q.2) (e : q.1 * (n.2 * f.1) = (n.1 * f.2) * q.2) : In (oI x y) q := by
  have pos : ∀ (x y n f : Int × Int), In x n → In y f → 0 < y.1 → 1 ≤ n.2 → 1 ≤ f.2 → q.1 * (n.2 * f.1) = (n.1 * f.2) * q.2 → In (oP x y) q := by
    intro x y n f hn hf h0 h1 h2 e
    have m := oP_mem h1 h2 hn.lo hn.hi h0 hf.lo hf.hi
    have f0 : 0 < f.1 := by
      have : y.1 * 1 ≤ y.1 * f.2 := Int.mul_le_mul_of_nonneg_left h2 (by omega)
      have := hf.lo
      omega
    have c1 : n.1 * 1099511627776 * f.2 * 1099511627776 = n.1 * f.2 * 1099511627776 * 1099511627776 := by grind
    have c2 : ∀ z : Int, z * (n.2 * (f.1 * 1099511627776)) = z * (n.2 * f.1) * 1099511627776 := fun z => by grind
    rw [c1, c2, c2] at m
    have := red (lo := (oP x y).1) (hi := (oP x y).2) (Int.mul_pos (show 0 < n.2 by omega) f0) hq e (Int.le_of_mul_le_mul_right m.1 (by decide)) (Int.le_of_mul_le_mul_right m.2 (by decide))
    exact ⟨this.1, this.2⟩
  unfold oI
  by_cases c : y.2 < 0
  · rw [if_pos c]
    refine pos (-x.2, -x.1) (-y.2, -y.1) (-n.1, n.2) (-f.1, f.2) ⟨?_, ?_⟩ ⟨?_, ?_⟩ (by show 0 < -y.2; omega) h1 h2 (by show q.1 * (n.2 * -f.1) = -n.1 * f.2 * q.2; rw [Int.mul_neg, Int.mul_neg, e, Int.neg_mul, Int.neg_mul])
    · have := hn.hi
      show -x.2 * n.2 ≤ -n.1 * _
      rw [Int.neg_mul, Int.neg_mul]
      omega
    · have := hn.lo
      show -n.1 * _ ≤ -x.1 * n.2
      rw [Int.neg_mul, Int.neg_mul]
      omega
    · have := hf.hi
      show -y.2 * f.2 ≤ -f.1 * _
      rw [Int.neg_mul, Int.neg_mul]
      omega
    · have := hf.lo
      show -f.1 * _ ≤ -y.1 * f.2
      rw [Int.neg_mul, Int.neg_mul]
      omega
  · rw [if_neg c]
    exact pos x y n f hn hf (by omega) h1 h2 e
def tooX : XD := ⟨"TooMany", [("what", .str "grains"), ("limit", .int 1180591620717411303424)]⟩
def noqX : XD := ⟨"NoQuotient", []⟩
def outX (q : Int × Int) (R : D → Prop) (Rx : XD → Prop) : Prop := if -1180591620717411303424 ≤ q.1 ∧ q.2 ≤ 1180591620717411303424 then R (ivD q) else Rx tooX
def roundD (q : Int × Int) : D := if -1180591620717411303424 ≤ q.1 ∧ q.2 ≤ 1180591620717411303424 then ivD q else .non
def wG (x : Int × Int) (m : Nat) : Int × Int := if m = 0 then (1099511627776, 1099511627776) else
  ((if m % 2 = 0 ∧ x.1 ≤ 0 ∧ 0 ≤ x.2 then 0 else minL (x.1 ^ m) [x.2 ^ m]) / 1099511627776 ^ (m - 1), -(-maxL (x.1 ^ m) [x.2 ^ m] / 1099511627776 ^ (m - 1)))
theorem Big_powr {a : Nat} {b : Int} (h : Big a b) (i : Nat) : Big (a * i + 1) (b ^ i) := by
  refine ⟨?_⟩
  rw [Int.natAbs_pow]
  have h1 : b.natAbs ^ i ≤ (2 ^ a) ^ i := Nat.pow_le_pow_left (Nat.le_of_lt h.lt) i
  rw [← Nat.pow_mul] at h1
  have h2 : 2 ^ (a * i + 1) = 2 * 2 ^ (a * i) := by rw [Nat.pow_succ, Nat.mul_comm]
  have h3 := Nat.two_pow_pos (a * i)
  omega
theorem ints_id (l : List Int) : intsOf (l.map D.int) = some l := by
  induction l with
  | nil => rfl
  | cons x l ih =>
    rw [List.map_cons]
    show (intsOf (l.map D.int)).map (x :: ·) = _
    rw [ih]
    rfl
theorem big71 {a : Int} (h1 : -1180591620717411303424 ≤ a) (h2 : a ≤ 1180591620717411303424) : Big 71 a := by
  refine ⟨?_⟩
  have e : (2 : Nat) ^ 71 = 2361183241434822606848 := by decide +kernel
  rw [e]
  omega
theorem bd_one {n : Nat} (h : n ≤ 40) : BD (1099511627776 ^ n) := by
  refine .big (Int.pow_pos (by decide)) (Big_powr (a := 41) ⟨by decide +kernel⟩ n) (by omega)
theorem ev_nn {n : Nat} (h : n % 2 = 0) (a : Int) : 0 ≤ a ^ n := by
  have e : n = n / 2 + n / 2 := by omega
  rw [e, Int.pow_add]
  exact sq_nn _
theorem wG_of {a b : Int} {n : Nat} (h : n ≠ 0) : wG (a, b) n = ((if n % 2 = 0 ∧ a ≤ 0 ∧ 0 ≤ b then 0 else min (a ^ n) (b ^ n)) / 1099511627776 ^ (n - 1), -(-max (a ^ n) (b ^ n) / 1099511627776 ^ (n - 1))) := by
  unfold wG
  rw [if_neg h]
  rfl
theorem ov_pos {a b c d : Int} (ab : a ≤ b) (c0 : 0 < c) (cd : c ≤ d) :
    (minL (a * 1099511627776 * c) [a * 1099511627776 * d, b * 1099511627776 * c, b * 1099511627776 * d] / (c * d), -(-maxL (a * 1099511627776 * c) [a * 1099511627776 * d, b * 1099511627776 * c, b * 1099511627776 * d] / (c * d))) = oP (a, b) (c, d) := by
  have q1 : ∀ x : Int, x * c / (c * d) = x / d := fun x => by rw [Int.mul_comm c d]; exact Int.mul_ediv_mul_of_pos_left x d c0
  have q2 : ∀ x : Int, x * d / (c * d) = x / c := fun x => Int.mul_ediv_mul_of_pos_left x c (by omega)
  have AB : a * 1099511627776 ≤ b * 1099511627776 := by omega
  have e1 : -a * 1099511627776 = -(a * 1099511627776) := by omega
  have e2 : -b * 1099511627776 = -(b * 1099511627776) := by omega
  unfold oP
  simp only [e2]
  have sA : 0 ≤ a ↔ 0 ≤ a * 1099511627776 := by omega
  have sB : 0 ≤ b ↔ 0 ≤ b * 1099511627776 := by omega
  simp only [sA, sB]
  generalize a * 1099511627776 = A at *
  generalize b * 1099511627776 = B at *
  have m1 := Int.mul_le_mul_of_nonneg_right AB (show 0 ≤ c by omega)
  have m2 := Int.mul_le_mul_of_nonneg_right AB (show 0 ≤ d by omega)
  have pA : 0 ≤ A → A * c ≤ A * d := fun h => Int.mul_le_mul_of_nonneg_left cd h
  have nA : ¬ 0 ≤ A → A * d ≤ A * c := fun h => Int.mul_le_mul_of_nonpos_left (by omega) cd
  have pB : 0 ≤ B → B * c ≤ B * d := fun h => Int.mul_le_mul_of_nonneg_left cd h
  have nB : ¬ 0 ≤ B → B * d ≤ B * c := fun h => Int.mul_le_mul_of_nonpos_left (by omega) cd
  refine Prod.ext ?_ ?_
  · show minL _ _ / _ = _
    by_cases h : 0 ≤ A
    · rw [if_pos h, ← q1]
      congr 1
      have := pA h
      have := pB (by omega)
      simp only [minL]
      omega
    · rw [if_neg h, ← q2]
      congr 1
      have := nA h
      by_cases h2 : 0 ≤ B
      · have := pB h2
        simp only [minL]
        omega
      · have := nB h2
        simp only [minL]
        omega
  · show -(-maxL _ _ / _) = _
    congr 1
    by_cases h : 0 ≤ B
    · rw [if_pos h, ← q2, Int.neg_mul]
      congr 2
      have := pB h
      by_cases h2 : 0 ≤ A
      · have := pA h2
        simp only [maxL]
        omega
      · have := nA h2
        simp only [maxL]
        omega
    · rw [if_neg h, ← q1, Int.neg_mul]
      congr 2
      have := nB h
      have := nA (by omega)
      simp only [maxL]
      omega
theorem he_out {q : Int × Int} {R : D → Prop} {xe : XD → Prop} (h : R (roundD q)) : outX q R fun x => x.c ∈ (["NoQuotient", "TooMany"] : List Str) ∧ if x.c = ("TooMany" : Str) then ∃ (w : Str) (n : Int), x.fs.lookup ("what" : Str) = some (.str w) ∧ x.fs.lookup ("limit" : Str) = some (.int n) ∧
  (shp 60 (.tup [.str w, .int n]) = true ∧ shp 60 (.tup [.str "grains", .int 1180591620717411303424]) = true) ∧ R (if PyData.eqv (toP (.tup [.str w, .int n])) (toP (.tup [.str "grains", .int 1180591620717411303424])) = true then .non else .str "wrong") else xe x := by
  unfold outX
  unfold roundD at h
  split
  · rename_i c
    rw [if_pos c] at h
    exact h
  · rename_i c
    rw [if_neg c] at h
    refine ⟨by simp [tooX], ?_⟩
    refine ifT rfl ?_
    have gr : shp 60 (.tup [.str "grains", .int 1180591620717411303424]) = true := by decide +kernel
    refine ⟨"grains", 1180591620717411303424, rfl, rfl, ⟨gr, gr⟩, ?_⟩
    rw [if_pos (eqv_self gr)]
    exact h
theorem hear_of {d : DEX} {τ : Sl} {R : D → Prop} {xe : XD → Prop} {q : Int × Int} (hd : ∀ (R' : D → Prop) (Rx : XD → Prop), outX q R' Rx → d τ R' Rx) (h : R (roundD q)) : xHeard "TooMany" ["NoQuotient", "TooMany"] "what" "limit" "grains" "wrong" 1180591620717411303424 d τ R xe := hd _ _ (he_out h)
theorem rd_shp (q : Int × Int) : shp 60 (roundD q) = true := by
  unfold roundD
  split <;> rfl
theorem gNe_self {x : D} {R : D → Prop} (h : shp 60 x = true) (k : R (.bl false)) : gNe x x R := by
  unfold gNe
  cases x with
  | int i => simpa using k
  | str i => simpa using k
  | bl i => simpa using k
  | _ => exact ⟨⟨h, h⟩, by rw [eqv_self h]; exact k⟩
theorem dv {i : Nat} {τ : Sl} {x : D} {Q : D → Prop} (ho : isOwn x = false) (e : τ[i]? = some (some x)) (k : Q x) : dVar i τ Q := by
  unfold dVar
  rw [e]
  cases x with
  | own l => cases ho
  | _ => exact k
theorem hearIf {d : DEX} {e : DE} {u : DS} {E : DEn} {τ : Sl} {q : Int × Int} (hd : ∀ (R' : D → Prop) (Rx : XD → Prop), outX q R' Rx → d τ R' Rx) (he : ∀ R' : D → Prop, R' (roundD q) → e τ R') (h : u E τ) :
    dSeq (dIfS (dTst (dOp gNe (fun τ R => xHeard "TooMany" ["NoQuotient", "TooMany"] "what" "limit" "grains" "wrong" 1180591620717411303424 d τ R fun _ => False) e)) (dRet (dC (.bl false))) dNext) u E τ :=
  hear_of hd (he _ (gNe_self (rd_shp q) h))
theorem pI_rd {a b c d : Int} (h1 : a ≤ b) (h2 : c ≤ d) : (minL (a + c) [b + d] / 1, -(-maxL (a + c) [b + d] / 1)) = pI (a, b) (c, d) := by
  simp only [minL, maxL, pI]
  refine Prod.ext ?_ ?_
  · show min _ _ / 1 = _
    omega
  · show -(-max _ _ / 1) = _
    omega
theorem mI_rd {a b c d : Int} (h1 : a ≤ b) (h2 : c ≤ d) : (minL (a - d) [b - c] / 1, -(-maxL (a - d) [b - c] / 1)) = mI (a, b) (c, d) := by
  simp only [minL, maxL, mI]
  refine Prod.ext ?_ ?_
  · show min _ _ / 1 = _
    omega
  · show -(-max _ _ / 1) = _
    omega
theorem rt_eq {p q : Int × Int} (hp : Rt p) (hq : Rt q) (e : p.1 * q.2 = q.1 * p.2) : p = q := by
  have p0 := hp.pos
  have q0 := hq.pos
  have n : p.1.natAbs * q.2.natAbs = q.1.natAbs * p.2.natAbs := by rw [← Int.natAbs_mul, ← Int.natAbs_mul, e]
  have d1 : p.2.natAbs ∣ q.2.natAbs := (Nat.Coprime.dvd_of_dvd_mul_left (Nat.Coprime.symm hp.cop) (by rw [n]; exact Nat.dvd_mul_left _ _))
  have d2 : q.2.natAbs ∣ p.2.natAbs := (Nat.Coprime.dvd_of_dvd_mul_left (Nat.Coprime.symm hq.cop) (by rw [← n]; exact Nat.dvd_mul_left _ _))
  have e2 := Nat.dvd_antisymm d1 d2
  have e3 : p.2 = q.2 := by omega
  rw [e3] at e
  exact Prod.ext (Int.eq_of_mul_eq_mul_right (by omega) e) e3
theorem low_one {n : Int} : Rt (n / ((Nat.gcd n.natAbs 1099511627776 : Nat) : Int), 1099511627776 / ((Nat.gcd n.natAbs 1099511627776 : Nat) : Int)) ∧ n / ((Nat.gcd n.natAbs 1099511627776 : Nat) : Int) * 1099511627776 = n * (1099511627776 / ((Nat.gcd n.natAbs 1099511627776 : Nat) : Int)) := low_terms (n := n) (u := 1099511627776) (by decide) (by decide)
theorem one_eq {n : Int} {q : Int × Int} (hq : Rt q) (e : q.1 * 1099511627776 = n * q.2) : q = (n / ((Nat.gcd n.natAbs 1099511627776 : Nat) : Int), 1099511627776 / ((Nat.gcd n.natAbs 1099511627776 : Nat) : Int)) := by
  obtain ⟨h1, h2⟩ := low_one (n := n)
  refine rt_eq hq h1 ?_
  generalize n / ((Nat.gcd n.natAbs 1099511627776 : Nat) : Int) = x at *
  generalize 1099511627776 / ((Nat.gcd n.natAbs 1099511627776 : Nat) : Int) = y at *
  show q.1 * y = x * q.2
  have a1 : q.1 * y * 1099511627776 = x * q.2 * 1099511627776 := by grind
  exact Int.eq_of_mul_eq_mul_right (by decide) a1
def aI (f : Int × Int) : Int × Int := (f.1 * 1099511627776 / f.2, -(-f.1 * 1099511627776 / f.2))
theorem aI_rd {f : Int × Int} : (minL (f.1 * 1099511627776) [] / f.2, -(-maxL (f.1 * 1099511627776) [] / f.2)) = aI f := by
  unfold aI
  rw [Int.neg_mul]
  rfl
theorem aI_in {f : Int × Int} (h : Rw 60 f) : -1180591620717411303424 ≤ (aI f).1 ∧ (aI f).2 ≤ 1180591620717411303424 := by
  have d0 : 1 ≤ f.2 := h.rt.pos
  have l := h.lo
  have u := h.hi
  unfold aI
  refine ⟨fl_ge (by omega) ?_, ?_⟩
  · omega
  · show -(-f.1 * 1099511627776 / f.2) ≤ _
    rw [Int.neg_mul]
    exact ce_le (by omega) (by omega)
theorem arIf {d : DEX} {e : DE} {u : DS} {E : DEn} {τ : Sl} {q : Int × Int} (hq : -1180591620717411303424 ≤ q.1 ∧ q.2 ≤ 1180591620717411303424) (hd : ∀ (R' : D → Prop) (Rx : XD → Prop), outX q R' Rx → d τ R' Rx) (he : ∀ R' : D → Prop, R' (roundD q) → e τ R') (h : u E τ) :
    dSeq (dIfS (dTst (dOp gNe (fun τ R => d τ R fun _ => False) e)) (dRet (dC (.bl false))) dNext) u E τ := by
  refine hd _ _ ?_
  have e1 : roundD q = ivD q := if_pos hq
  unfold outX
  rw [if_pos hq, ← e1]
  exact he _ (gNe_self (rd_shp q) h)
theorem top_okQ {P : Program} {w : World} {K : PySem.W.Frag} {mg : Str → Option Value} {base : Heap} {f : Addr} {fd : FuncData} (F : Fun K "_law_top" "_law_top" s__law_top f fd) : FnQ P w K mg base CX0 1 f fd [] (spInt 1180591620717411303424) := by
  refine funQ F sc__law_top (fun vs H Q E h => by rw [h.1]; rfl) fun cdv A outer s H vs Q E p hr h => ?_
  obtain ⟨rfl, q⟩ := h
  refine ⟨_, pss_one (ps_ret (pe_op op_mul (pe_op op_pow pe_int pe_int) (pe_op op_pow pe_int pe_int))), ?_⟩
  have e : ((2 : Int) ^ (35 : Int).toNat * (2 : Int) ^ (35 : Int).toNat) = 1180591620717411303424 := by decide
  rw [← e] at q
  exact ⟨2, 35, rfl, rfl, ⟨by decide, by decide, by decide⟩, 2, 35, rfl, rfl, ⟨by decide, by decide, by decide⟩, _, _, rfl, rfl, .inl ⟨by decide, by decide⟩, q⟩
section
variable {P : Program} {w : World} {K : PySem.W.Frag} {mg : Str → Option Value} {base : Heap} {tabs : Tf}
def sp_is_integer : SpD :=
  fun ds R => match ds with
  | [.int _] => R (.bl true)
  | _ => False
set_option maxHeartbeats 0 in
theorem ok_is_integer (T : Txt K mg) (D0 : Dfn K mg "is_integer" "is_integer" s_is_integer ["value"] [])  : Cal P w K mg base tabs "is_integer" 1 1 ["value"] [] sp_is_integer := by
  refine cal_of D0 sc_is_integer fun f cdv A outer s H E p ht hg hk hr => ⟨_, (pdss_one (pds_ret (pd_and (pd_callB cd_isi rfl T.b_isinstance PyProof.Rows.boot_isinstance (pda_cons (pd_var 0) (pda_cons (pd_ty rfl T.b_int PyProof.Rows.boot_int) pda_nil))) (pd_one (pd_not (pd_callB cd_isi rfl T.b_isinstance PyProof.Rows.boot_isinstance (pda_cons (pd_var 0) (pda_cons (pd_ty rfl T.b_bool PyProof.Rows.boot_bool) pda_nil)))))))), ?_⟩
  intro ds R hl h; unfold sp_is_integer at h; split at h
  all_goals (try exact False.elim h)
  all_goals clear hl hg hr hk ht
  simp (implicitDefEqProofs := false) (maxSteps := 3000000) only [xSeq, xIf, xRet, xRaise, xOf, xB, xBK, xAsg, xTry, xHeard, mD0, mD1, mD2, startD, List.map_cons, List.map_nil, List.length_cons, List.length_nil, List.replicate, List.cons_append, List.nil_append, Nat.reduceAdd, Nat.reduceSub, Nat.zero_add, dSeq, dIfS, dOr, dAnd, dNot, dTst, dOp, dUn, dVar, dC, dB, dBK, dCons, dNil, dTup, dLst, dRet, dRetN, dRetF, dRetO, dBO, dFr, dRepL, dCatL, dRev, dRevL, dSlO, dCatO, cSorted, SpO.sp, dNext, dNever, dAsg, dPar, dPar3, dParO, dIf, dAndV, dOrV, dNotV, dCh, dCt, cLast, cLink, tLast, tLink, dDrop, dFor, dBrk, dCnt, dOwn, dApp, dExt, dFree, gPutO, dIxO, dLend, dLendT, dLcF, gN, gTu, gCn, gNl, gP0, gP1, gII, gIIc, gAdd, gNeg, gIx, gEq, gNe, gIs, gIsNot, gIn, gNotIn, gSl, oNone, oSome, gMt, gIndex, cTuple, cList, cI1, cI2, cInt, cLen, cMax, cMin, cMaxT, cMinT, dAug, cAll, cAny, cRepr, cSqrt, cIsi, tyN, isNon, kb_tt, kb_ii, kb_ib, kb_bi, kb_bb, kb_it, kb_bt, kb_nt, kb_ni, kb_lt, kb_li, kb_ti, kb_si, kb_st, kb_ss, rd, dTru, dRgN, dEnum, gMulT, gDivN, gDivNB, gEqF, dCallV, spOf, atD, ordD, dSq, dZip, dZipM, dZip3, zipD3_map, gShl, dParOO, zipD_map, ivD, dRg1, dRg2, dLc, dYes, dLcGo, dGen, dGenGo, wipeD, boolsOf, intsOf, maxL, minL, noL, noLs, Option.map_some, Option.bind_some, List.all_cons, List.all_nil, List.any_cons, List.any_nil, id_eq, List.set_cons_zero, List.set_cons_succ, List.getElem?_cons_zero, List.getElem?_cons_succ, List.getElem?_nil, List.getD_cons_zero, List.getD_cons_succ, decide_eq_true_eq, decide_eq_false_iff_not, Bool.not_eq_true', Bool.not_true, Bool.not_false, Bool.and_true, Bool.true_and, Bool.and_false, Bool.false_and, Bool.false_eq_true, if_true, if_false, reduceIte, ite_true, ite_false, true_and, and_true, reduceCtorEq, Int.toNat_zero, Int.toNat_one, Int.cast_ofNat_Int, Int.reduceLT, Int.reduceLE, Int.reduceNeg, Int.reduceToNat, Int.reducePow, Int.reduceMul, Int.reduceAdd, Int.reduceSub, decide_true, decide_false]
  exact h
def sp_is_interval : SpD :=
  fun ds R => match ds with
  | [.tup [.int a, .int b]] => (-1180591620717411303424 ≤ a ∧ a ≤ b ∧ b ≤ 1180591620717411303424) ∧ R (.bl true)
  | _ => False
set_option maxHeartbeats 0 in
theorem ok_is_interval (T : Txt K mg) (D0 : Dfn K mg "is_interval" "is_interval" s_is_interval ["value"] []) (C_is_integer : Cal P w K mg base tabs "is_integer" 1 1 ["value"] [] sp_is_integer) : Cal P w K mg base tabs "is_interval" 2 1 ["value"] [] sp_is_interval := by
  refine cal_of D0 sc_is_interval fun f cdv A outer s H E p ht hg hk hr => ⟨_, (pdss_cons (pds_if (pdw_t (pdw_or (pdt_not (pdt_val (pd_callB cd_isi rfl T.b_isinstance PyProof.Rows.boot_isinstance (pda_cons (pd_var 0) (pda_cons (pd_ty rfl T.b_tuple PyProof.Rows.boot_tuple) pda_nil))))) (pdw_or1 (pdt_cmp (opd_ne hr.units) (pd_callB cd_len rfl T.b_len PySem.boot_len (pda_cons (pd_var 0) pda_nil)) pd_int)))) (pdss_one (pds_ret pd_bl)) pdss_nil)
      (pdss_cons (pds_asg (pd_var 0) (pdg_tup (n := 2) rfl (pdgs_cons (pdg_name (i := 1) sc_is_interval.nd rfl (Or.inl rfl)) (pdgs_cons (pdg_name (i := 2) sc_is_interval.nd rfl (Or.inl rfl)) pdgs_nil))))
      (pdss_cons (pds_if (pdw_t (pdw_or (pdt_not (pdt_val (pdcC (C_is_integer.cal ht) hg hr (pda_cons (pd_var 1) pda_nil)))) (pdw_or1 (pdt_not (pdt_val (pdcC (C_is_integer.cal ht) hg hr (pda_cons (pd_var 2) pda_nil))))))) (pdss_one (pds_ret pd_bl)) pdss_nil)
      (pdss_one (pds_ret (pd_chainN (pd_un und_neg (pd_gint rfl T.m_MOST_GRAINS)) (pch_cons opd_le (pd_var 1) (pch_cons opd_le (pd_var 2) (pch_last opd_le (pd_gint rfl T.m_MOST_GRAINS)))))))))), ?_⟩
  intro ds R hl h; unfold sp_is_interval at h; split at h
  all_goals (try exact False.elim h)
  all_goals clear hl hg hr hk ht
  rename_i a b
  obtain ⟨⟨h1, h2, h3⟩, h⟩ := h
  simp (implicitDefEqProofs := false) (maxSteps := 3000000) only [xSeq, xIf, xRet, xRaise, xOf, xB, xBK, xAsg, xTry, xHeard, mD0, mD1, mD2, startD, List.map_cons, List.map_nil, List.length_cons, List.length_nil, List.replicate, List.cons_append, List.nil_append, Nat.reduceAdd, Nat.reduceSub, Nat.zero_add, dSeq, dIfS, dOr, dAnd, dNot, dTst, dOp, dUn, dVar, dC, dB, dBK, dCons, dNil, dTup, dLst, dRet, dRetN, dRetF, dRetO, dBO, dFr, dRepL, dCatL, dRev, dRevL, dSlO, dCatO, cSorted, SpO.sp, dNext, dNever, dAsg, dPar, dPar3, dParO, dIf, dAndV, dOrV, dNotV, dCh, dCt, cLast, cLink, tLast, tLink, dDrop, dFor, dBrk, dCnt, dOwn, dApp, dExt, dFree, gPutO, dIxO, dLend, dLendT, dLcF, gN, gTu, gCn, gNl, gP0, gP1, gII, gIIc, gAdd, gNeg, gIx, gEq, gNe, gIs, gIsNot, gIn, gNotIn, gSl, oNone, oSome, gMt, gIndex, cTuple, cList, cI1, cI2, cInt, cLen, cMax, cMin, cMaxT, cMinT, dAug, cAll, cAny, cRepr, cSqrt, cIsi, tyN, isNon, kb_tt, kb_ii, kb_ib, kb_bi, kb_bb, kb_it, kb_bt, kb_nt, kb_ni, kb_lt, kb_li, kb_ti, kb_si, kb_st, kb_ss, rd, dTru, dRgN, dEnum, gMulT, gDivN, gDivNB, gEqF, dCallV, spOf, atD, ordD, dSq, dZip, dZipM, dZip3, zipD3_map, gShl, dParOO, zipD_map, ivD, dRg1, dRg2, dLc, dYes, dLcGo, dGen, dGenGo, wipeD, boolsOf, intsOf, maxL, minL, noL, noLs, Option.map_some, Option.bind_some, List.all_cons, List.all_nil, List.any_cons, List.any_nil, id_eq, List.set_cons_zero, List.set_cons_succ, List.getElem?_cons_zero, List.getElem?_cons_succ, List.getElem?_nil, List.getD_cons_zero, List.getD_cons_succ, decide_eq_true_eq, decide_eq_false_iff_not, Bool.not_eq_true', Bool.not_true, Bool.not_false, Bool.and_true, Bool.true_and, Bool.and_false, Bool.false_and, Bool.false_eq_true, if_true, if_false, reduceIte, ite_true, ite_false, true_and, and_true, reduceCtorEq, Int.toNat_zero, Int.toNat_one, Int.cast_ofNat_Int, Int.reduceLT, Int.reduceLE, Int.reduceNeg, Int.reduceToNat, Int.reducePow, Int.reduceMul, Int.reduceAdd, Int.reduceSub, decide_true, decide_false, sp_is_integer]
  rw [if_pos h1, if_pos h2, decide_eq_true h3]
  exact h
def sp_check_interval : SpD :=
  fun ds R => match ds with
  | [.tup [.int a, .int b]] => Iv (a, b) ∧ R .non
  | _ => False
set_option maxHeartbeats 0 in
theorem ok_check_interval (T : Txt K mg) (D0 : Dfn K mg "check_interval" "check_interval" s_check_interval ["interval"] []) (C_is_interval : Cal P w K mg base tabs "is_interval" 2 1 ["value"] [] sp_is_interval) : Cal P w K mg base tabs "check_interval" 3 1 ["interval"] [] sp_check_interval := by
  refine cal_of D0 sc_check_interval fun f cdv A outer s H E p ht hg hk hr => ⟨_, (pdss_one (pds_if (pdt_not (pdt_val (pdcC (C_is_interval.cal ht) hg hr (pda_cons (pd_var 0) pda_nil)))) (pdss_one pds_never) pdss_nil)), ?_⟩
  intro ds R hl h; unfold sp_check_interval at h; split at h
  all_goals (try exact False.elim h)
  all_goals clear hl hg hr hk ht
  simp (implicitDefEqProofs := false) (maxSteps := 3000000) only [xSeq, xIf, xRet, xRaise, xOf, xB, xBK, xAsg, xTry, xHeard, mD0, mD1, mD2, startD, List.map_cons, List.map_nil, List.length_cons, List.length_nil, List.replicate, List.cons_append, List.nil_append, Nat.reduceAdd, Nat.reduceSub, Nat.zero_add, dSeq, dIfS, dOr, dAnd, dNot, dTst, dOp, dUn, dVar, dC, dB, dBK, dCons, dNil, dTup, dLst, dRet, dRetN, dRetF, dRetO, dBO, dFr, dRepL, dCatL, dRev, dRevL, dSlO, dCatO, cSorted, SpO.sp, dNext, dNever, dAsg, dPar, dPar3, dParO, dIf, dAndV, dOrV, dNotV, dCh, dCt, cLast, cLink, tLast, tLink, dDrop, dFor, dBrk, dCnt, dOwn, dApp, dExt, dFree, gPutO, dIxO, dLend, dLendT, dLcF, gN, gTu, gCn, gNl, gP0, gP1, gII, gIIc, gAdd, gNeg, gIx, gEq, gNe, gIs, gIsNot, gIn, gNotIn, gSl, oNone, oSome, gMt, gIndex, cTuple, cList, cI1, cI2, cInt, cLen, cMax, cMin, cMaxT, cMinT, dAug, cAll, cAny, cRepr, cSqrt, cIsi, tyN, isNon, kb_tt, kb_ii, kb_ib, kb_bi, kb_bb, kb_it, kb_bt, kb_nt, kb_ni, kb_lt, kb_li, kb_ti, kb_si, kb_st, kb_ss, rd, dTru, dRgN, dEnum, gMulT, gDivN, gDivNB, gEqF, dCallV, spOf, atD, ordD, dSq, dZip, dZipM, dZip3, zipD3_map, gShl, dParOO, zipD_map, ivD, dRg1, dRg2, dLc, dYes, dLcGo, dGen, dGenGo, wipeD, boolsOf, intsOf, maxL, minL, noL, noLs, Option.map_some, Option.bind_some, List.all_cons, List.all_nil, List.any_cons, List.any_nil, id_eq, List.set_cons_zero, List.set_cons_succ, List.getElem?_cons_zero, List.getElem?_cons_succ, List.getElem?_nil, List.getD_cons_zero, List.getD_cons_succ, decide_eq_true_eq, decide_eq_false_iff_not, Bool.not_eq_true', Bool.not_true, Bool.not_false, Bool.and_true, Bool.true_and, Bool.and_false, Bool.false_and, Bool.false_eq_true, if_true, if_false, reduceIte, ite_true, ite_false, true_and, and_true, reduceCtorEq, Int.toNat_zero, Int.toNat_one, Int.cast_ofNat_Int, Int.reduceLT, Int.reduceLE, Int.reduceNeg, Int.reduceToNat, Int.reducePow, Int.reduceMul, Int.reduceAdd, Int.reduceSub, decide_true, decide_false, sp_is_interval]
  exact ⟨⟨h.1.lo, h.1.le, h.1.hi⟩, h.2⟩
def sp__check_both : SpD :=
  fun ds R => match ds with
  | [.tup [.int a, .int b], .tup [.int c, .int d]] => (Iv (a, b) ∧ Iv (c, d)) ∧ R .non
  | _ => False
set_option maxHeartbeats 0 in
theorem ok__check_both (T : Txt K mg) (D0 : Dfn K mg "_check_both" "_check_both" s__check_both ["one", "other"] []) (C_check_interval : Cal P w K mg base tabs "check_interval" 3 1 ["interval"] [] sp_check_interval) : Cal P w K mg base tabs "_check_both" 4 2 ["one", "other"] [] sp__check_both := by
  refine cal_of D0 sc__check_both fun f cdv A outer s H E p ht hg hk hr => ⟨_, (pdss_cons (pds_expr (pdcC (C_check_interval.cal ht) hg hr (pda_cons (pd_var 0) pda_nil)))
      (pdss_one (pds_expr (pdcC (C_check_interval.cal ht) hg hr (pda_cons (pd_var 1) pda_nil))))), ?_⟩
  intro ds R hl h; unfold sp__check_both at h; split at h
  all_goals (try exact False.elim h)
  all_goals clear hl hg hr hk ht
  simp (implicitDefEqProofs := false) (maxSteps := 3000000) only [xSeq, xIf, xRet, xRaise, xOf, xB, xBK, xAsg, xTry, xHeard, mD0, mD1, mD2, startD, List.map_cons, List.map_nil, List.length_cons, List.length_nil, List.replicate, List.cons_append, List.nil_append, Nat.reduceAdd, Nat.reduceSub, Nat.zero_add, dSeq, dIfS, dOr, dAnd, dNot, dTst, dOp, dUn, dVar, dC, dB, dBK, dCons, dNil, dTup, dLst, dRet, dRetN, dRetF, dRetO, dBO, dFr, dRepL, dCatL, dRev, dRevL, dSlO, dCatO, cSorted, SpO.sp, dNext, dNever, dAsg, dPar, dPar3, dParO, dIf, dAndV, dOrV, dNotV, dCh, dCt, cLast, cLink, tLast, tLink, dDrop, dFor, dBrk, dCnt, dOwn, dApp, dExt, dFree, gPutO, dIxO, dLend, dLendT, dLcF, gN, gTu, gCn, gNl, gP0, gP1, gII, gIIc, gAdd, gNeg, gIx, gEq, gNe, gIs, gIsNot, gIn, gNotIn, gSl, oNone, oSome, gMt, gIndex, cTuple, cList, cI1, cI2, cInt, cLen, cMax, cMin, cMaxT, cMinT, dAug, cAll, cAny, cRepr, cSqrt, cIsi, tyN, isNon, kb_tt, kb_ii, kb_ib, kb_bi, kb_bb, kb_it, kb_bt, kb_nt, kb_ni, kb_lt, kb_li, kb_ti, kb_si, kb_st, kb_ss, rd, dTru, dRgN, dEnum, gMulT, gDivN, gDivNB, gEqF, dCallV, spOf, atD, ordD, dSq, dZip, dZipM, dZip3, zipD3_map, gShl, dParOO, zipD_map, ivD, dRg1, dRg2, dLc, dYes, dLcGo, dGen, dGenGo, wipeD, boolsOf, intsOf, maxL, minL, noL, noLs, Option.map_some, Option.bind_some, List.all_cons, List.all_nil, List.any_cons, List.any_nil, id_eq, List.set_cons_zero, List.set_cons_succ, List.getElem?_cons_zero, List.getElem?_cons_succ, List.getElem?_nil, List.getD_cons_zero, List.getD_cons_succ, decide_eq_true_eq, decide_eq_false_iff_not, Bool.not_eq_true', Bool.not_true, Bool.not_false, Bool.and_true, Bool.true_and, Bool.and_false, Bool.false_and, Bool.false_eq_true, if_true, if_false, reduceIte, ite_true, ite_false, true_and, and_true, reduceCtorEq, Int.toNat_zero, Int.toNat_one, Int.cast_ofNat_Int, Int.reduceLT, Int.reduceLE, Int.reduceNeg, Int.reduceToNat, Int.reducePow, Int.reduceMul, Int.reduceAdd, Int.reduceSub, decide_true, decide_false, sp_check_interval]
  exact ⟨h.1.1, h.1.2, h.2⟩
def sp_in_bounds : SpX :=
  fun ds R Rx => match ds with
  | [.int a, .int b] => outX (a, b) R Rx
  | _ => False
set_option maxHeartbeats 0 in
theorem ok_in_bounds (T : Txt K mg) (D0 : Dfn K mg "in_bounds" "in_bounds" s_in_bounds ["low", "high"] []) (hF : tabs.fns = mg) (XM_TooMany : Mk2 P w K mg base "TooMany" "what" "limit" 1) : CalX P w K mg base tabs "in_bounds" 3 2 ["low", "high"] [] sp_in_bounds := by
  refine calx_of D0 sc_in_bounds fun f cdv A outer s H E p ht hg hk hr => ⟨_, (pdsxs_cons (pdsx_if (pdw_t (pdw_or (pdt_cmp opd_lt (pd_var 0) (pd_un und_neg (pd_gint rfl T.m_MOST_GRAINS))) (pdw_or1 (pdt_cmp opd_gt (pd_var 1) (pd_gint rfl T.m_MOST_GRAINS))))) (pdsxs_one (pdsx_raise rfl (takes_of rfl rfl rfl rfl) (pdmC2 XM_TooMany (by rw [ht]; exact hF) hr (pda_cons pd_str (pda_cons (pd_gint rfl T.m_MOST_GRAINS) pda_nil))))) pdsxs_nil)
      (pdsxs_one (pdsx_of (pds_ret (pd_tup (pda_cons (pd_var 0) (pda_cons (pd_var 1) pda_nil))))))), ?_⟩
  intro ds R Rx hl h; unfold sp_in_bounds at h; split at h
  all_goals (try exact False.elim h)
  all_goals clear hl hg hr hk ht
  rename_i a b
  unfold outX at h
  simp (implicitDefEqProofs := false) (maxSteps := 3000000) only [xSeq, xIf, xRet, xRaise, xOf, xB, xBK, xAsg, xTry, xHeard, mD0, mD1, mD2, startD, List.map_cons, List.map_nil, List.length_cons, List.length_nil, List.replicate, List.cons_append, List.nil_append, Nat.reduceAdd, Nat.reduceSub, Nat.zero_add, dSeq, dIfS, dOr, dAnd, dNot, dTst, dOp, dUn, dVar, dC, dB, dBK, dCons, dNil, dTup, dLst, dRet, dRetN, dRetF, dRetO, dBO, dFr, dRepL, dCatL, dRev, dRevL, dSlO, dCatO, cSorted, SpO.sp, dNext, dNever, dAsg, dPar, dPar3, dParO, dIf, dAndV, dOrV, dNotV, dCh, dCt, cLast, cLink, tLast, tLink, dDrop, dFor, dBrk, dCnt, dOwn, dApp, dExt, dFree, gPutO, dIxO, dLend, dLendT, dLcF, gN, gTu, gCn, gNl, gP0, gP1, gII, gIIc, gAdd, gNeg, gIx, gEq, gNe, gIs, gIsNot, gIn, gNotIn, gSl, oNone, oSome, gMt, gIndex, cTuple, cList, cI1, cI2, cInt, cLen, cMax, cMin, cMaxT, cMinT, dAug, cAll, cAny, cRepr, cSqrt, cIsi, tyN, isNon, kb_tt, kb_ii, kb_ib, kb_bi, kb_bb, kb_it, kb_bt, kb_nt, kb_ni, kb_lt, kb_li, kb_ti, kb_si, kb_st, kb_ss, rd, dTru, dRgN, dEnum, gMulT, gDivN, gDivNB, gEqF, dCallV, spOf, atD, ordD, dSq, dZip, dZipM, dZip3, zipD3_map, gShl, dParOO, zipD_map, ivD, dRg1, dRg2, dLc, dYes, dLcGo, dGen, dGenGo, wipeD, boolsOf, intsOf, maxL, minL, noL, noLs, Option.map_some, Option.bind_some, List.all_cons, List.all_nil, List.any_cons, List.any_nil, id_eq, List.set_cons_zero, List.set_cons_succ, List.getElem?_cons_zero, List.getElem?_cons_succ, List.getElem?_nil, List.getD_cons_zero, List.getD_cons_succ, decide_eq_true_eq, decide_eq_false_iff_not, Bool.not_eq_true', Bool.not_true, Bool.not_false, Bool.and_true, Bool.true_and, Bool.and_false, Bool.false_and, Bool.false_eq_true, if_true, if_false, reduceIte, ite_true, ite_false, true_and, and_true, reduceCtorEq, Int.toNat_zero, Int.toNat_one, Int.cast_ofNat_Int, Int.reduceLT, Int.reduceLE, Int.reduceNeg, Int.reduceToNat, Int.reducePow, Int.reduceMul, Int.reduceAdd, Int.reduceSub, decide_true, decide_false]
  by_cases c1 : a < -1180591620717411303424
  · rw [if_pos c1]
    rw [if_neg (by simp only []; omega)] at h
    exact h
  · rw [if_neg c1]
    by_cases c2 : 1180591620717411303424 < b
    · rw [if_pos c2]
      rw [if_neg (by simp only []; omega)] at h
      exact h
    · rw [if_neg c2]
      rw [if_pos (by simp only []; omega)] at h
      exact h
def sp_grain_times : SpX :=
  fun ds R Rx => match ds with
  | [.tup [.int a, .int b], .tup [.int c, .int d]] => (Iv (a, b) ∧ Iv (c, d)) ∧ outX (tI (a, b) (c, d)) R Rx
  | _ => False
set_option maxHeartbeats 0 in
theorem ok_grain_times (T : Txt K mg) (D0 : Dfn K mg "grain_times" "grain_times" s_grain_times ["one", "other"] []) (C_in_bounds : CalX P w K mg base tabs "in_bounds" 3 2 ["low", "high"] [] sp_in_bounds) : CalX P w K mg base tabs "grain_times" 4 2 ["one", "other"] [] sp_grain_times := by
  refine calx_of D0 sc_grain_times fun f cdv A outer s H E p ht hg hk hr => ⟨_, (pdsxs_cons (pdsx_of (pds_asg (pd_var 0) (pdg_tup (n := 2) rfl (pdgs_cons (pdg_name (i := 2) sc_grain_times.nd rfl (Or.inl rfl)) (pdgs_cons (pdg_name (i := 3) sc_grain_times.nd rfl (Or.inl rfl)) pdgs_nil)))))
      (pdsxs_cons (pdsx_of (pds_asg (pd_var 1) (pdg_tup (n := 2) rfl (pdgs_cons (pdg_name (i := 4) sc_grain_times.nd rfl (Or.inl rfl)) (pdgs_cons (pdg_name (i := 5) sc_grain_times.nd rfl (Or.inl rfl)) pdgs_nil)))))
      (pdsxs_cons (pdsx_of (pds_set (i := 6) sc_grain_times.nd rfl (Or.inl rfl) (pd_tup (pda_cons (pd_bin opd_mul (pd_var 2) (pd_var 4)) (pda_cons (pd_bin opd_mul (pd_var 2) (pd_var 5)) (pda_cons (pd_bin opd_mul (pd_var 3) (pd_var 4)) (pda_cons (pd_bin opd_mul (pd_var 3) (pd_var 5)) pda_nil)))))))
      (pdsxs_one (pdsx_ret (pdxC (C_in_bounds.cal ht) (takes_of rfl rfl rfl rfl) hg hr (pda_cons (pd_bin opd_div (pd_callB (cd_minT rfl hr.u65) rfl T.b_min PyProof.Rows.boot_min (pda_cons (pd_var 6) pda_nil)) (pd_gint rfl T.m_ONE)) (pda_cons (pd_un und_neg (pd_bin opd_div (pd_un und_neg (pd_callB (cd_maxT rfl hr.u65) rfl T.b_max PyProof.Rows.boot_max (pda_cons (pd_var 6) pda_nil))) (pd_gint rfl T.m_ONE))) pda_nil)))))))), ?_⟩
  intro ds R Rx hl h; unfold sp_grain_times at h; split at h
  all_goals (try exact False.elim h)
  all_goals clear hl hg hr hk ht
  rename_i a b c d
  obtain ⟨⟨⟨h1, h2, h3⟩, ⟨k1, k2, k3⟩⟩, h⟩ := h
  simp only [] at h1 h2 h3 k1 k2 k3
  simp (implicitDefEqProofs := false) (maxSteps := 3000000) only [xSeq, xIf, xRet, xRaise, xOf, xB, xBK, xAsg, xTry, xHeard, mD0, mD1, mD2, startD, List.map_cons, List.map_nil, List.length_cons, List.length_nil, List.replicate, List.cons_append, List.nil_append, Nat.reduceAdd, Nat.reduceSub, Nat.zero_add, dSeq, dIfS, dOr, dAnd, dNot, dTst, dOp, dUn, dVar, dC, dB, dBK, dCons, dNil, dTup, dLst, dRet, dRetN, dRetF, dRetO, dBO, dFr, dRepL, dCatL, dRev, dRevL, dSlO, dCatO, cSorted, SpO.sp, dNext, dNever, dAsg, dPar, dPar3, dParO, dIf, dAndV, dOrV, dNotV, dCh, dCt, cLast, cLink, tLast, tLink, dDrop, dFor, dBrk, dCnt, dOwn, dApp, dExt, dFree, gPutO, dIxO, dLend, dLendT, dLcF, gN, gTu, gCn, gNl, gP0, gP1, gII, gIIc, gAdd, gNeg, gIx, gEq, gNe, gIs, gIsNot, gIn, gNotIn, gSl, oNone, oSome, gMt, gIndex, cTuple, cList, cI1, cI2, cInt, cLen, cMax, cMin, cMaxT, cMinT, dAug, cAll, cAny, cRepr, cSqrt, cIsi, tyN, isNon, kb_tt, kb_ii, kb_ib, kb_bi, kb_bb, kb_it, kb_bt, kb_nt, kb_ni, kb_lt, kb_li, kb_ti, kb_si, kb_st, kb_ss, rd, dTru, dRgN, dEnum, gMulT, gDivN, gDivNB, gEqF, dCallV, spOf, atD, ordD, dSq, dZip, dZipM, dZip3, zipD3_map, gShl, dParOO, zipD_map, ivD, dRg1, dRg2, dLc, dYes, dLcGo, dGen, dGenGo, wipeD, boolsOf, intsOf, maxL, minL, noL, noLs, Option.map_some, Option.bind_some, List.all_cons, List.all_nil, List.any_cons, List.any_nil, id_eq, List.set_cons_zero, List.set_cons_succ, List.getElem?_cons_zero, List.getElem?_cons_succ, List.getElem?_nil, List.getD_cons_zero, List.getD_cons_succ, decide_eq_true_eq, decide_eq_false_iff_not, Bool.not_eq_true', Bool.not_true, Bool.not_false, Bool.and_true, Bool.true_and, Bool.and_false, Bool.false_and, Bool.false_eq_true, if_true, if_false, reduceIte, ite_true, ite_false, true_and, and_true, reduceCtorEq, Int.toNat_zero, Int.toNat_one, Int.cast_ofNat_Int, Int.reduceLT, Int.reduceLE, Int.reduceNeg, Int.reduceToNat, Int.reducePow, Int.reduceMul, Int.reduceAdd, Int.reduceSub, decide_true, decide_false, sp_in_bounds]
  exact ⟨.wide (by omega) (by omega) (by omega) (by omega), .wide (by omega) (by omega) (by omega) (by omega), .wide (by omega) (by omega) (by omega) (by omega), .wide (by omega) (by omega) (by omega) (by omega), .of (by omega) (by omega), .of (by omega) (by omega), h⟩
def sp_times : SpX :=
  fun ds R Rx => match ds with
  | [.tup [.int a, .int b], .tup [.int c, .int d]] => (Iv (a, b) ∧ Iv (c, d)) ∧ outX (tI (a, b) (c, d)) R Rx
  | _ => False
set_option maxHeartbeats 0 in
theorem ok_times (T : Txt K mg) (D0 : Dfn K mg "times" "times" s_times ["one", "other"] [(["other", "one"], 0, [1, 0])]) (C__check_both : Cal P w K mg base tabs "_check_both" 4 2 ["one", "other"] [] sp__check_both) (C_grain_times : CalX P w K mg base tabs "grain_times" 4 2 ["one", "other"] [] sp_grain_times) : CalX P w K mg base tabs "times" 5 2 ["one", "other"] [(["other", "one"], 0, [1, 0])] sp_times := by
  refine calx_of D0 sc_times fun f cdv A outer s H E p ht hg hk hr => ⟨_, (pdsxs_cons (pdsx_of (pds_expr (pdcC (C__check_both.cal ht) hg hr (pda_cons (pd_var 0) (pda_cons (pd_var 1) pda_nil)))))
      (pdsxs_one (pdsx_ret (pdxC (C_grain_times.cal ht) (takes_of rfl rfl rfl rfl) hg hr (pda_cons (pd_var 0) (pda_cons (pd_var 1) pda_nil)))))), ?_⟩
  intro ds R Rx hl h; unfold sp_times at h; split at h
  all_goals (try exact False.elim h)
  all_goals clear hl hg hr hk ht
  simp (implicitDefEqProofs := false) (maxSteps := 3000000) only [xSeq, xIf, xRet, xRaise, xOf, xB, xBK, xAsg, xTry, xHeard, mD0, mD1, mD2, startD, List.map_cons, List.map_nil, List.length_cons, List.length_nil, List.replicate, List.cons_append, List.nil_append, Nat.reduceAdd, Nat.reduceSub, Nat.zero_add, dSeq, dIfS, dOr, dAnd, dNot, dTst, dOp, dUn, dVar, dC, dB, dBK, dCons, dNil, dTup, dLst, dRet, dRetN, dRetF, dRetO, dBO, dFr, dRepL, dCatL, dRev, dRevL, dSlO, dCatO, cSorted, SpO.sp, dNext, dNever, dAsg, dPar, dPar3, dParO, dIf, dAndV, dOrV, dNotV, dCh, dCt, cLast, cLink, tLast, tLink, dDrop, dFor, dBrk, dCnt, dOwn, dApp, dExt, dFree, gPutO, dIxO, dLend, dLendT, dLcF, gN, gTu, gCn, gNl, gP0, gP1, gII, gIIc, gAdd, gNeg, gIx, gEq, gNe, gIs, gIsNot, gIn, gNotIn, gSl, oNone, oSome, gMt, gIndex, cTuple, cList, cI1, cI2, cInt, cLen, cMax, cMin, cMaxT, cMinT, dAug, cAll, cAny, cRepr, cSqrt, cIsi, tyN, isNon, kb_tt, kb_ii, kb_ib, kb_bi, kb_bb, kb_it, kb_bt, kb_nt, kb_ni, kb_lt, kb_li, kb_ti, kb_si, kb_st, kb_ss, rd, dTru, dRgN, dEnum, gMulT, gDivN, gDivNB, gEqF, dCallV, spOf, atD, ordD, dSq, dZip, dZipM, dZip3, zipD3_map, gShl, dParOO, zipD_map, ivD, dRg1, dRg2, dLc, dYes, dLcGo, dGen, dGenGo, wipeD, boolsOf, intsOf, maxL, minL, noL, noLs, Option.map_some, Option.bind_some, List.all_cons, List.all_nil, List.any_cons, List.any_nil, id_eq, List.set_cons_zero, List.set_cons_succ, List.getElem?_cons_zero, List.getElem?_cons_succ, List.getElem?_nil, List.getD_cons_zero, List.getD_cons_succ, decide_eq_true_eq, decide_eq_false_iff_not, Bool.not_eq_true', Bool.not_true, Bool.not_false, Bool.and_true, Bool.true_and, Bool.and_false, Bool.false_and, Bool.false_eq_true, if_true, if_false, reduceIte, ite_true, ite_false, true_and, and_true, reduceCtorEq, Int.toNat_zero, Int.toNat_one, Int.cast_ofNat_Int, Int.reduceLT, Int.reduceLE, Int.reduceNeg, Int.reduceToNat, Int.reducePow, Int.reduceMul, Int.reduceAdd, Int.reduceSub, decide_true, decide_false, sp__check_both, sp_grain_times]
  exact ⟨h.1, h.1, h.2⟩
def sp_floor_of : SpD :=
  fun ds R => match ds with
  | [.tup [.int a, .int b], .int t] => (MulC a t ∧ BD b) ∧ R (.int (a * t / b))
  | _ => False
set_option maxHeartbeats 0 in
theorem ok_floor_of (T : Txt K mg) (D0 : Dfn K mg "floor_of" "floor_of" s_floor_of ["ratio", "times"] [])  : Cal P w K mg base tabs "floor_of" 1 2 ["ratio", "times"] [] sp_floor_of := by
  refine cal_of D0 sc_floor_of fun f cdv A outer s H E p ht hg hk hr => ⟨_, (pdss_one (pds_ret (pd_bin opd_div (pd_bin opd_mul (pd_ix (pd_var 0) pd_int) (pd_var 1)) (pd_ix (pd_var 0) pd_int)))), ?_⟩
  intro ds R hl h; unfold sp_floor_of at h; split at h
  all_goals (try exact False.elim h)
  all_goals clear hl hg hr hk ht
  simp (implicitDefEqProofs := false) (maxSteps := 3000000) only [xSeq, xIf, xRet, xRaise, xOf, xB, xBK, xAsg, xTry, xHeard, mD0, mD1, mD2, startD, List.map_cons, List.map_nil, List.length_cons, List.length_nil, List.replicate, List.cons_append, List.nil_append, Nat.reduceAdd, Nat.reduceSub, Nat.zero_add, dSeq, dIfS, dOr, dAnd, dNot, dTst, dOp, dUn, dVar, dC, dB, dBK, dCons, dNil, dTup, dLst, dRet, dRetN, dRetF, dRetO, dBO, dFr, dRepL, dCatL, dRev, dRevL, dSlO, dCatO, cSorted, SpO.sp, dNext, dNever, dAsg, dPar, dPar3, dParO, dIf, dAndV, dOrV, dNotV, dCh, dCt, cLast, cLink, tLast, tLink, dDrop, dFor, dBrk, dCnt, dOwn, dApp, dExt, dFree, gPutO, dIxO, dLend, dLendT, dLcF, gN, gTu, gCn, gNl, gP0, gP1, gII, gIIc, gAdd, gNeg, gIx, gEq, gNe, gIs, gIsNot, gIn, gNotIn, gSl, oNone, oSome, gMt, gIndex, cTuple, cList, cI1, cI2, cInt, cLen, cMax, cMin, cMaxT, cMinT, dAug, cAll, cAny, cRepr, cSqrt, cIsi, tyN, isNon, kb_tt, kb_ii, kb_ib, kb_bi, kb_bb, kb_it, kb_bt, kb_nt, kb_ni, kb_lt, kb_li, kb_ti, kb_si, kb_st, kb_ss, rd, dTru, dRgN, dEnum, gMulT, gDivN, gDivNB, gEqF, dCallV, spOf, atD, ordD, dSq, dZip, dZipM, dZip3, zipD3_map, gShl, dParOO, zipD_map, ivD, dRg1, dRg2, dLc, dYes, dLcGo, dGen, dGenGo, wipeD, boolsOf, intsOf, maxL, minL, noL, noLs, Option.map_some, Option.bind_some, List.all_cons, List.all_nil, List.any_cons, List.any_nil, id_eq, List.set_cons_zero, List.set_cons_succ, List.getElem?_cons_zero, List.getElem?_cons_succ, List.getElem?_nil, List.getD_cons_zero, List.getD_cons_succ, decide_eq_true_eq, decide_eq_false_iff_not, Bool.not_eq_true', Bool.not_true, Bool.not_false, Bool.and_true, Bool.true_and, Bool.and_false, Bool.false_and, Bool.false_eq_true, if_true, if_false, reduceIte, ite_true, ite_false, true_and, and_true, reduceCtorEq, Int.toNat_zero, Int.toNat_one, Int.cast_ofNat_Int, Int.reduceLT, Int.reduceLE, Int.reduceNeg, Int.reduceToNat, Int.reducePow, Int.reduceMul, Int.reduceAdd, Int.reduceSub, decide_true, decide_false]
  exact ⟨h.1.1, h.1.2, h.2⟩
def sp_ceiling_of : SpD :=
  fun ds R => match ds with
  | [.tup [.int a, .int b], .int t] => (MulC (-a) t ∧ BD b) ∧ R (.int (-(-a * t / b)))
  | _ => False
set_option maxHeartbeats 0 in
theorem ok_ceiling_of (T : Txt K mg) (D0 : Dfn K mg "ceiling_of" "ceiling_of" s_ceiling_of ["ratio", "times"] [])  : Cal P w K mg base tabs "ceiling_of" 1 2 ["ratio", "times"] [] sp_ceiling_of := by
  refine cal_of D0 sc_ceiling_of fun f cdv A outer s H E p ht hg hk hr => ⟨_, (pdss_one (pds_ret (pd_un und_neg (pd_bin opd_div (pd_bin opd_mul (pd_un und_neg (pd_ix (pd_var 0) pd_int)) (pd_var 1)) (pd_ix (pd_var 0) pd_int))))), ?_⟩
  intro ds R hl h; unfold sp_ceiling_of at h; split at h
  all_goals (try exact False.elim h)
  all_goals clear hl hg hr hk ht
  simp (implicitDefEqProofs := false) (maxSteps := 3000000) only [xSeq, xIf, xRet, xRaise, xOf, xB, xBK, xAsg, xTry, xHeard, mD0, mD1, mD2, startD, List.map_cons, List.map_nil, List.length_cons, List.length_nil, List.replicate, List.cons_append, List.nil_append, Nat.reduceAdd, Nat.reduceSub, Nat.zero_add, dSeq, dIfS, dOr, dAnd, dNot, dTst, dOp, dUn, dVar, dC, dB, dBK, dCons, dNil, dTup, dLst, dRet, dRetN, dRetF, dRetO, dBO, dFr, dRepL, dCatL, dRev, dRevL, dSlO, dCatO, cSorted, SpO.sp, dNext, dNever, dAsg, dPar, dPar3, dParO, dIf, dAndV, dOrV, dNotV, dCh, dCt, cLast, cLink, tLast, tLink, dDrop, dFor, dBrk, dCnt, dOwn, dApp, dExt, dFree, gPutO, dIxO, dLend, dLendT, dLcF, gN, gTu, gCn, gNl, gP0, gP1, gII, gIIc, gAdd, gNeg, gIx, gEq, gNe, gIs, gIsNot, gIn, gNotIn, gSl, oNone, oSome, gMt, gIndex, cTuple, cList, cI1, cI2, cInt, cLen, cMax, cMin, cMaxT, cMinT, dAug, cAll, cAny, cRepr, cSqrt, cIsi, tyN, isNon, kb_tt, kb_ii, kb_ib, kb_bi, kb_bb, kb_it, kb_bt, kb_nt, kb_ni, kb_lt, kb_li, kb_ti, kb_si, kb_st, kb_ss, rd, dTru, dRgN, dEnum, gMulT, gDivN, gDivNB, gEqF, dCallV, spOf, atD, ordD, dSq, dZip, dZipM, dZip3, zipD3_map, gShl, dParOO, zipD_map, ivD, dRg1, dRg2, dLc, dYes, dLcGo, dGen, dGenGo, wipeD, boolsOf, intsOf, maxL, minL, noL, noLs, Option.map_some, Option.bind_some, List.all_cons, List.all_nil, List.any_cons, List.any_nil, id_eq, List.set_cons_zero, List.set_cons_succ, List.getElem?_cons_zero, List.getElem?_cons_succ, List.getElem?_nil, List.getD_cons_zero, List.getD_cons_succ, decide_eq_true_eq, decide_eq_false_iff_not, Bool.not_eq_true', Bool.not_true, Bool.not_false, Bool.and_true, Bool.true_and, Bool.and_false, Bool.false_and, Bool.false_eq_true, if_true, if_false, reduceIte, ite_true, ite_false, true_and, and_true, reduceCtorEq, Int.toNat_zero, Int.toNat_one, Int.cast_ofNat_Int, Int.reduceLT, Int.reduceLE, Int.reduceNeg, Int.reduceToNat, Int.reducePow, Int.reduceMul, Int.reduceAdd, Int.reduceSub, decide_true, decide_false]
  exact ⟨h.1.1, h.1.2, h.2⟩
def sp_grain_hull : SpD :=
  fun ds R => match ds with
  | [.tup [.int a, .int b], .tup [.int c, .int d]] => R (.tup [.int (min a c), .int (max b d)])
  | _ => False
set_option maxHeartbeats 0 in
theorem ok_grain_hull (T : Txt K mg) (D0 : Dfn K mg "grain_hull" "grain_hull" s_grain_hull ["one", "other"] [])  : Cal P w K mg base tabs "grain_hull" 1 2 ["one", "other"] [] sp_grain_hull := by
  refine cal_of D0 sc_grain_hull fun f cdv A outer s H E p ht hg hk hr => ⟨_, (pdss_one (pds_ret (pd_tup (pda_cons (pd_callB (cd_minT rfl hr.u65) rfl T.b_min PyProof.Rows.boot_min (pda_cons (pd_ix (pd_var 0) pd_int) (pda_cons (pd_ix (pd_var 1) pd_int) pda_nil))) (pda_cons (pd_callB (cd_maxT rfl hr.u65) rfl T.b_max PyProof.Rows.boot_max (pda_cons (pd_ix (pd_var 0) pd_int) (pda_cons (pd_ix (pd_var 1) pd_int) pda_nil))) pda_nil))))), ?_⟩
  intro ds R hl h; unfold sp_grain_hull at h; split at h
  all_goals (try exact False.elim h)
  all_goals clear hl hg hr hk ht
  simp (implicitDefEqProofs := false) (maxSteps := 3000000) only [xSeq, xIf, xRet, xRaise, xOf, xB, xBK, xAsg, xTry, xHeard, mD0, mD1, mD2, startD, List.map_cons, List.map_nil, List.length_cons, List.length_nil, List.replicate, List.cons_append, List.nil_append, Nat.reduceAdd, Nat.reduceSub, Nat.zero_add, dSeq, dIfS, dOr, dAnd, dNot, dTst, dOp, dUn, dVar, dC, dB, dBK, dCons, dNil, dTup, dLst, dRet, dRetN, dRetF, dRetO, dBO, dFr, dRepL, dCatL, dRev, dRevL, dSlO, dCatO, cSorted, SpO.sp, dNext, dNever, dAsg, dPar, dPar3, dParO, dIf, dAndV, dOrV, dNotV, dCh, dCt, cLast, cLink, tLast, tLink, dDrop, dFor, dBrk, dCnt, dOwn, dApp, dExt, dFree, gPutO, dIxO, dLend, dLendT, dLcF, gN, gTu, gCn, gNl, gP0, gP1, gII, gIIc, gAdd, gNeg, gIx, gEq, gNe, gIs, gIsNot, gIn, gNotIn, gSl, oNone, oSome, gMt, gIndex, cTuple, cList, cI1, cI2, cInt, cLen, cMax, cMin, cMaxT, cMinT, dAug, cAll, cAny, cRepr, cSqrt, cIsi, tyN, isNon, kb_tt, kb_ii, kb_ib, kb_bi, kb_bb, kb_it, kb_bt, kb_nt, kb_ni, kb_lt, kb_li, kb_ti, kb_si, kb_st, kb_ss, rd, dTru, dRgN, dEnum, gMulT, gDivN, gDivNB, gEqF, dCallV, spOf, atD, ordD, dSq, dZip, dZipM, dZip3, zipD3_map, gShl, dParOO, zipD_map, ivD, dRg1, dRg2, dLc, dYes, dLcGo, dGen, dGenGo, wipeD, boolsOf, intsOf, maxL, minL, noL, noLs, Option.map_some, Option.bind_some, List.all_cons, List.all_nil, List.any_cons, List.any_nil, id_eq, List.set_cons_zero, List.set_cons_succ, List.getElem?_cons_zero, List.getElem?_cons_succ, List.getElem?_nil, List.getD_cons_zero, List.getD_cons_succ, decide_eq_true_eq, decide_eq_false_iff_not, Bool.not_eq_true', Bool.not_true, Bool.not_false, Bool.and_true, Bool.true_and, Bool.and_false, Bool.false_and, Bool.false_eq_true, if_true, if_false, reduceIte, ite_true, ite_false, true_and, and_true, reduceCtorEq, Int.toNat_zero, Int.toNat_one, Int.cast_ofNat_Int, Int.reduceLT, Int.reduceLE, Int.reduceNeg, Int.reduceToNat, Int.reducePow, Int.reduceMul, Int.reduceAdd, Int.reduceSub, decide_true, decide_false]
  exact h
def sp_grain_meet : SpD :=
  fun ds R => match ds with
  | [.tup [.int a, .int b], .tup [.int c, .int d]] => R (if max a c ≤ min b d then .tup [.int (max a c), .int (min b d)] else .non)
  | _ => False
set_option maxHeartbeats 0 in
theorem ok_grain_meet (T : Txt K mg) (D0 : Dfn K mg "grain_meet" "grain_meet" s_grain_meet ["one", "other"] [])  : Cal P w K mg base tabs "grain_meet" 1 2 ["one", "other"] [] sp_grain_meet := by
  refine cal_of D0 sc_grain_meet fun f cdv A outer s H E p ht hg hk hr => ⟨_, (pdss_cons (pds_set (i := 2) sc_grain_meet.nd rfl (Or.inl rfl) (pd_callB (cd_maxT rfl hr.u65) rfl T.b_max PyProof.Rows.boot_max (pda_cons (pd_ix (pd_var 0) pd_int) (pda_cons (pd_ix (pd_var 1) pd_int) pda_nil))))
      (pdss_cons (pds_set (i := 3) sc_grain_meet.nd rfl (Or.inl rfl) (pd_callB (cd_minT rfl hr.u65) rfl T.b_min PyProof.Rows.boot_min (pda_cons (pd_ix (pd_var 0) pd_int) (pda_cons (pd_ix (pd_var 1) pd_int) pda_nil))))
      (pdss_cons (pds_if (pdt_cmp opd_gt (pd_var 2) (pd_var 3)) (pdss_one (pds_ret pd_non)) pdss_nil)
      (pdss_one (pds_ret (pd_tup (pda_cons (pd_var 2) (pda_cons (pd_var 3) pda_nil)))))))), ?_⟩
  intro ds R hl h; unfold sp_grain_meet at h; split at h
  all_goals (try exact False.elim h)
  all_goals clear hl hg hr hk ht
  rename_i a b c d
  simp (implicitDefEqProofs := false) (maxSteps := 3000000) only [xSeq, xIf, xRet, xRaise, xOf, xB, xBK, xAsg, xTry, xHeard, mD0, mD1, mD2, startD, List.map_cons, List.map_nil, List.length_cons, List.length_nil, List.replicate, List.cons_append, List.nil_append, Nat.reduceAdd, Nat.reduceSub, Nat.zero_add, dSeq, dIfS, dOr, dAnd, dNot, dTst, dOp, dUn, dVar, dC, dB, dBK, dCons, dNil, dTup, dLst, dRet, dRetN, dRetF, dRetO, dBO, dFr, dRepL, dCatL, dRev, dRevL, dSlO, dCatO, cSorted, SpO.sp, dNext, dNever, dAsg, dPar, dPar3, dParO, dIf, dAndV, dOrV, dNotV, dCh, dCt, cLast, cLink, tLast, tLink, dDrop, dFor, dBrk, dCnt, dOwn, dApp, dExt, dFree, gPutO, dIxO, dLend, dLendT, dLcF, gN, gTu, gCn, gNl, gP0, gP1, gII, gIIc, gAdd, gNeg, gIx, gEq, gNe, gIs, gIsNot, gIn, gNotIn, gSl, oNone, oSome, gMt, gIndex, cTuple, cList, cI1, cI2, cInt, cLen, cMax, cMin, cMaxT, cMinT, dAug, cAll, cAny, cRepr, cSqrt, cIsi, tyN, isNon, kb_tt, kb_ii, kb_ib, kb_bi, kb_bb, kb_it, kb_bt, kb_nt, kb_ni, kb_lt, kb_li, kb_ti, kb_si, kb_st, kb_ss, rd, dTru, dRgN, dEnum, gMulT, gDivN, gDivNB, gEqF, dCallV, spOf, atD, ordD, dSq, dZip, dZipM, dZip3, zipD3_map, gShl, dParOO, zipD_map, ivD, dRg1, dRg2, dLc, dYes, dLcGo, dGen, dGenGo, wipeD, boolsOf, intsOf, maxL, minL, noL, noLs, Option.map_some, Option.bind_some, List.all_cons, List.all_nil, List.any_cons, List.any_nil, id_eq, List.set_cons_zero, List.set_cons_succ, List.getElem?_cons_zero, List.getElem?_cons_succ, List.getElem?_nil, List.getD_cons_zero, List.getD_cons_succ, decide_eq_true_eq, decide_eq_false_iff_not, Bool.not_eq_true', Bool.not_true, Bool.not_false, Bool.and_true, Bool.true_and, Bool.and_false, Bool.false_and, Bool.false_eq_true, if_true, if_false, reduceIte, ite_true, ite_false, true_and, and_true, reduceCtorEq, Int.toNat_zero, Int.toNat_one, Int.cast_ofNat_Int, Int.reduceLT, Int.reduceLE, Int.reduceNeg, Int.reduceToNat, Int.reducePow, Int.reduceMul, Int.reduceAdd, Int.reduceSub, decide_true, decide_false]
  by_cases e : max a c ≤ min b d
  · rw [if_pos e] at h
    rw [if_neg (by omega)]
    exact h
  · rw [if_neg e] at h
    rw [if_pos (by omega)]
    exact h
def sp_lies_within : SpD :=
  fun ds R => match ds with
  | [.tup [.int a, .int b], .tup [.int c, .int d]] => R (.bl (decide (c ≤ a) && decide (b ≤ d)))
  | _ => False
set_option maxHeartbeats 0 in
theorem ok_lies_within (T : Txt K mg) (D0 : Dfn K mg "lies_within" "lies_within" s_lies_within ["one", "other"] [])  : Cal P w K mg base tabs "lies_within" 1 2 ["one", "other"] [] sp_lies_within := by
  refine cal_of D0 sc_lies_within fun f cdv A outer s H E p ht hg hk hr => ⟨_, (pdss_one (pds_ret (pd_and (pd_cmp opd_le (pd_ix (pd_var 1) pd_int) (pd_ix (pd_var 0) pd_int)) (pd_one (pd_cmp opd_le (pd_ix (pd_var 0) pd_int) (pd_ix (pd_var 1) pd_int)))))), ?_⟩
  intro ds R hl h; unfold sp_lies_within at h; split at h
  all_goals (try exact False.elim h)
  all_goals clear hl hg hr hk ht
  rename_i a b c d
  simp (implicitDefEqProofs := false) (maxSteps := 3000000) only [xSeq, xIf, xRet, xRaise, xOf, xB, xBK, xAsg, xTry, xHeard, mD0, mD1, mD2, startD, List.map_cons, List.map_nil, List.length_cons, List.length_nil, List.replicate, List.cons_append, List.nil_append, Nat.reduceAdd, Nat.reduceSub, Nat.zero_add, dSeq, dIfS, dOr, dAnd, dNot, dTst, dOp, dUn, dVar, dC, dB, dBK, dCons, dNil, dTup, dLst, dRet, dRetN, dRetF, dRetO, dBO, dFr, dRepL, dCatL, dRev, dRevL, dSlO, dCatO, cSorted, SpO.sp, dNext, dNever, dAsg, dPar, dPar3, dParO, dIf, dAndV, dOrV, dNotV, dCh, dCt, cLast, cLink, tLast, tLink, dDrop, dFor, dBrk, dCnt, dOwn, dApp, dExt, dFree, gPutO, dIxO, dLend, dLendT, dLcF, gN, gTu, gCn, gNl, gP0, gP1, gII, gIIc, gAdd, gNeg, gIx, gEq, gNe, gIs, gIsNot, gIn, gNotIn, gSl, oNone, oSome, gMt, gIndex, cTuple, cList, cI1, cI2, cInt, cLen, cMax, cMin, cMaxT, cMinT, dAug, cAll, cAny, cRepr, cSqrt, cIsi, tyN, isNon, kb_tt, kb_ii, kb_ib, kb_bi, kb_bb, kb_it, kb_bt, kb_nt, kb_ni, kb_lt, kb_li, kb_ti, kb_si, kb_st, kb_ss, rd, dTru, dRgN, dEnum, gMulT, gDivN, gDivNB, gEqF, dCallV, spOf, atD, ordD, dSq, dZip, dZipM, dZip3, zipD3_map, gShl, dParOO, zipD_map, ivD, dRg1, dRg2, dLc, dYes, dLcGo, dGen, dGenGo, wipeD, boolsOf, intsOf, maxL, minL, noL, noLs, Option.map_some, Option.bind_some, List.all_cons, List.all_nil, List.any_cons, List.any_nil, id_eq, List.set_cons_zero, List.set_cons_succ, List.getElem?_cons_zero, List.getElem?_cons_succ, List.getElem?_nil, List.getD_cons_zero, List.getD_cons_succ, decide_eq_true_eq, decide_eq_false_iff_not, Bool.not_eq_true', Bool.not_true, Bool.not_false, Bool.and_true, Bool.true_and, Bool.and_false, Bool.false_and, Bool.false_eq_true, if_true, if_false, reduceIte, ite_true, ite_false, true_and, and_true, reduceCtorEq, Int.toNat_zero, Int.toNat_one, Int.cast_ofNat_Int, Int.reduceLT, Int.reduceLE, Int.reduceNeg, Int.reduceToNat, Int.reducePow, Int.reduceMul, Int.reduceAdd, Int.reduceSub, decide_true, decide_false]
  by_cases e : c ≤ a
  · rw [if_pos e]
    rw [decide_eq_true e, Bool.true_and] at h
    exact h
  · rw [if_neg e]
    rw [decide_eq_false e, Bool.false_and] at h
    exact h
def sp_middle_of : SpD :=
  fun ds R => match ds with
  | [.tup [.int a, .int b]] => R (.int ((a + b) / 2))
  | _ => False
set_option maxHeartbeats 0 in
theorem ok_middle_of (T : Txt K mg) (D0 : Dfn K mg "middle_of" "middle_of" s_middle_of ["interval"] [])  : Cal P w K mg base tabs "middle_of" 1 1 ["interval"] [] sp_middle_of := by
  refine cal_of D0 sc_middle_of fun f cdv A outer s H E p ht hg hk hr => ⟨_, (pdss_one (pds_ret (pd_bin opd_div (pd_bin opd_add (pd_ix (pd_var 0) pd_int) (pd_ix (pd_var 0) pd_int)) pd_int))), ?_⟩
  intro ds R hl h; unfold sp_middle_of at h; split at h
  all_goals (try exact False.elim h)
  all_goals clear hl hg hr hk ht
  simp (implicitDefEqProofs := false) (maxSteps := 3000000) only [xSeq, xIf, xRet, xRaise, xOf, xB, xBK, xAsg, xTry, xHeard, mD0, mD1, mD2, startD, List.map_cons, List.map_nil, List.length_cons, List.length_nil, List.replicate, List.cons_append, List.nil_append, Nat.reduceAdd, Nat.reduceSub, Nat.zero_add, dSeq, dIfS, dOr, dAnd, dNot, dTst, dOp, dUn, dVar, dC, dB, dBK, dCons, dNil, dTup, dLst, dRet, dRetN, dRetF, dRetO, dBO, dFr, dRepL, dCatL, dRev, dRevL, dSlO, dCatO, cSorted, SpO.sp, dNext, dNever, dAsg, dPar, dPar3, dParO, dIf, dAndV, dOrV, dNotV, dCh, dCt, cLast, cLink, tLast, tLink, dDrop, dFor, dBrk, dCnt, dOwn, dApp, dExt, dFree, gPutO, dIxO, dLend, dLendT, dLcF, gN, gTu, gCn, gNl, gP0, gP1, gII, gIIc, gAdd, gNeg, gIx, gEq, gNe, gIs, gIsNot, gIn, gNotIn, gSl, oNone, oSome, gMt, gIndex, cTuple, cList, cI1, cI2, cInt, cLen, cMax, cMin, cMaxT, cMinT, dAug, cAll, cAny, cRepr, cSqrt, cIsi, tyN, isNon, kb_tt, kb_ii, kb_ib, kb_bi, kb_bb, kb_it, kb_bt, kb_nt, kb_ni, kb_lt, kb_li, kb_ti, kb_si, kb_st, kb_ss, rd, dTru, dRgN, dEnum, gMulT, gDivN, gDivNB, gEqF, dCallV, spOf, atD, ordD, dSq, dZip, dZipM, dZip3, zipD3_map, gShl, dParOO, zipD_map, ivD, dRg1, dRg2, dLc, dYes, dLcGo, dGen, dGenGo, wipeD, boolsOf, intsOf, maxL, minL, noL, noLs, Option.map_some, Option.bind_some, List.all_cons, List.all_nil, List.any_cons, List.any_nil, id_eq, List.set_cons_zero, List.set_cons_succ, List.getElem?_cons_zero, List.getElem?_cons_succ, List.getElem?_nil, List.getD_cons_zero, List.getD_cons_succ, decide_eq_true_eq, decide_eq_false_iff_not, Bool.not_eq_true', Bool.not_true, Bool.not_false, Bool.and_true, Bool.true_and, Bool.and_false, Bool.false_and, Bool.false_eq_true, if_true, if_false, reduceIte, ite_true, ite_false, true_and, and_true, reduceCtorEq, Int.toNat_zero, Int.toNat_one, Int.cast_ofNat_Int, Int.reduceLT, Int.reduceLE, Int.reduceNeg, Int.reduceToNat, Int.reducePow, Int.reduceMul, Int.reduceAdd, Int.reduceSub, decide_true, decide_false]
  exact ⟨.of (by omega) (by omega), h⟩
def sp_has_ratio : SpD :=
  fun ds R => match ds with
  | [.tup [.int a, .int b], .tup [.int n, .int d]] => (MulC a d ∧ MulC b d) ∧ R (.bl (decide (a * d ≤ n * 1099511627776) && decide (n * 1099511627776 ≤ b * d)))
  | _ => False
set_option maxHeartbeats 0 in
theorem ok_has_ratio (T : Txt K mg) (D0 : Dfn K mg "has_ratio" "has_ratio" s_has_ratio ["interval", "ratio"] [])  : Cal P w K mg base tabs "has_ratio" 1 2 ["interval", "ratio"] [] sp_has_ratio := by
  refine cal_of D0 sc_has_ratio fun f cdv A outer s H E p ht hg hk hr => ⟨_, (pdss_cons (pds_set (i := 2) sc_has_ratio.nd rfl (Or.inl rfl) (pd_bin opd_mul (pd_ix (pd_var 1) pd_int) (pd_gint rfl T.m_ONE)))
      (pdss_one (pds_ret (pd_chainN (pd_bin opd_mul (pd_ix (pd_var 0) pd_int) (pd_ix (pd_var 1) pd_int)) (pch_cons opd_le (pd_var 2) (pch_last opd_le (pd_bin opd_mul (pd_ix (pd_var 0) pd_int) (pd_ix (pd_var 1) pd_int)))))))), ?_⟩
  intro ds R hl h; unfold sp_has_ratio at h; split at h
  all_goals (try exact False.elim h)
  all_goals clear hl hg hr hk ht
  rename_i a b n d
  obtain ⟨⟨h1, h2⟩, h⟩ := h
  simp (implicitDefEqProofs := false) (maxSteps := 3000000) only [xSeq, xIf, xRet, xRaise, xOf, xB, xBK, xAsg, xTry, xHeard, mD0, mD1, mD2, startD, List.map_cons, List.map_nil, List.length_cons, List.length_nil, List.replicate, List.cons_append, List.nil_append, Nat.reduceAdd, Nat.reduceSub, Nat.zero_add, dSeq, dIfS, dOr, dAnd, dNot, dTst, dOp, dUn, dVar, dC, dB, dBK, dCons, dNil, dTup, dLst, dRet, dRetN, dRetF, dRetO, dBO, dFr, dRepL, dCatL, dRev, dRevL, dSlO, dCatO, cSorted, SpO.sp, dNext, dNever, dAsg, dPar, dPar3, dParO, dIf, dAndV, dOrV, dNotV, dCh, dCt, cLast, cLink, tLast, tLink, dDrop, dFor, dBrk, dCnt, dOwn, dApp, dExt, dFree, gPutO, dIxO, dLend, dLendT, dLcF, gN, gTu, gCn, gNl, gP0, gP1, gII, gIIc, gAdd, gNeg, gIx, gEq, gNe, gIs, gIsNot, gIn, gNotIn, gSl, oNone, oSome, gMt, gIndex, cTuple, cList, cI1, cI2, cInt, cLen, cMax, cMin, cMaxT, cMinT, dAug, cAll, cAny, cRepr, cSqrt, cIsi, tyN, isNon, kb_tt, kb_ii, kb_ib, kb_bi, kb_bb, kb_it, kb_bt, kb_nt, kb_ni, kb_lt, kb_li, kb_ti, kb_si, kb_st, kb_ss, rd, dTru, dRgN, dEnum, gMulT, gDivN, gDivNB, gEqF, dCallV, spOf, atD, ordD, dSq, dZip, dZipM, dZip3, zipD3_map, gShl, dParOO, zipD_map, ivD, dRg1, dRg2, dLc, dYes, dLcGo, dGen, dGenGo, wipeD, boolsOf, intsOf, maxL, minL, noL, noLs, Option.map_some, Option.bind_some, List.all_cons, List.all_nil, List.any_cons, List.any_nil, id_eq, List.set_cons_zero, List.set_cons_succ, List.getElem?_cons_zero, List.getElem?_cons_succ, List.getElem?_nil, List.getD_cons_zero, List.getD_cons_succ, decide_eq_true_eq, decide_eq_false_iff_not, Bool.not_eq_true', Bool.not_true, Bool.not_false, Bool.and_true, Bool.true_and, Bool.and_false, Bool.false_and, Bool.false_eq_true, if_true, if_false, reduceIte, ite_true, ite_false, true_and, and_true, reduceCtorEq, Int.toNat_zero, Int.toNat_one, Int.cast_ofNat_Int, Int.reduceLT, Int.reduceLE, Int.reduceNeg, Int.reduceToNat, Int.reducePow, Int.reduceMul, Int.reduceAdd, Int.reduceSub, decide_true, decide_false]
  refine ⟨.right (by omega) (by omega), h1, ?_⟩
  by_cases e : a * d ≤ n * 1099511627776
  · rw [if_pos e]
    rw [decide_eq_true e, Bool.true_and] at h
    exact ⟨h2, h⟩
  · rw [if_neg e]
    rw [decide_eq_false e, Bool.false_and] at h
    exact h
def sp_is_from_to : SpD :=
  fun ds R => match ds with
  | [.int a, .int lo, .int hi] => R (.bl (decide (lo ≤ a) && decide (a ≤ hi)))
  | _ => False
set_option maxHeartbeats 0 in
theorem ok_is_from_to (T : Txt K mg) (D0 : Dfn K mg "is_from_to" "is_from_to" s_is_from_to ["value", "least", "most"] []) (C_is_integer : Cal P w K mg base tabs "is_integer" 1 1 ["value"] [] sp_is_integer) : Cal P w K mg base tabs "is_from_to" 2 3 ["value", "least", "most"] [] sp_is_from_to := by
  refine cal_of D0 sc_is_from_to fun f cdv A outer s H E p ht hg hk hr => ⟨_, (pdss_one (pds_ret (pd_and (pdcC (C_is_integer.cal ht) hg hr (pda_cons (pd_var 0) pda_nil)) (pd_one (pd_chainN (pd_var 1) (pch_cons opd_le (pd_var 0) (pch_last opd_le (pd_var 2)))))))), ?_⟩
  intro ds R hl h; unfold sp_is_from_to at h; split at h
  all_goals (try exact False.elim h)
  all_goals clear hl hg hr hk ht
  rename_i a lo hi
  simp (implicitDefEqProofs := false) (maxSteps := 3000000) only [xSeq, xIf, xRet, xRaise, xOf, xB, xBK, xAsg, xTry, xHeard, mD0, mD1, mD2, startD, List.map_cons, List.map_nil, List.length_cons, List.length_nil, List.replicate, List.cons_append, List.nil_append, Nat.reduceAdd, Nat.reduceSub, Nat.zero_add, dSeq, dIfS, dOr, dAnd, dNot, dTst, dOp, dUn, dVar, dC, dB, dBK, dCons, dNil, dTup, dLst, dRet, dRetN, dRetF, dRetO, dBO, dFr, dRepL, dCatL, dRev, dRevL, dSlO, dCatO, cSorted, SpO.sp, dNext, dNever, dAsg, dPar, dPar3, dParO, dIf, dAndV, dOrV, dNotV, dCh, dCt, cLast, cLink, tLast, tLink, dDrop, dFor, dBrk, dCnt, dOwn, dApp, dExt, dFree, gPutO, dIxO, dLend, dLendT, dLcF, gN, gTu, gCn, gNl, gP0, gP1, gII, gIIc, gAdd, gNeg, gIx, gEq, gNe, gIs, gIsNot, gIn, gNotIn, gSl, oNone, oSome, gMt, gIndex, cTuple, cList, cI1, cI2, cInt, cLen, cMax, cMin, cMaxT, cMinT, dAug, cAll, cAny, cRepr, cSqrt, cIsi, tyN, isNon, kb_tt, kb_ii, kb_ib, kb_bi, kb_bb, kb_it, kb_bt, kb_nt, kb_ni, kb_lt, kb_li, kb_ti, kb_si, kb_st, kb_ss, rd, dTru, dRgN, dEnum, gMulT, gDivN, gDivNB, gEqF, dCallV, spOf, atD, ordD, dSq, dZip, dZipM, dZip3, zipD3_map, gShl, dParOO, zipD_map, ivD, dRg1, dRg2, dLc, dYes, dLcGo, dGen, dGenGo, wipeD, boolsOf, intsOf, maxL, minL, noL, noLs, Option.map_some, Option.bind_some, List.all_cons, List.all_nil, List.any_cons, List.any_nil, id_eq, List.set_cons_zero, List.set_cons_succ, List.getElem?_cons_zero, List.getElem?_cons_succ, List.getElem?_nil, List.getD_cons_zero, List.getD_cons_succ, decide_eq_true_eq, decide_eq_false_iff_not, Bool.not_eq_true', Bool.not_true, Bool.not_false, Bool.and_true, Bool.true_and, Bool.and_false, Bool.false_and, Bool.false_eq_true, if_true, if_false, reduceIte, ite_true, ite_false, true_and, and_true, reduceCtorEq, Int.toNat_zero, Int.toNat_one, Int.cast_ofNat_Int, Int.reduceLT, Int.reduceLE, Int.reduceNeg, Int.reduceToNat, Int.reducePow, Int.reduceMul, Int.reduceAdd, Int.reduceSub, decide_true, decide_false, sp_is_integer]
  by_cases e : lo ≤ a
  · rw [if_pos e]
    rw [decide_eq_true e, Bool.true_and] at h
    exact h
  · rw [if_neg e]
    rw [decide_eq_false e, Bool.false_and] at h
    exact h
def sp_is_ratio : SpD :=
  fun ds R => match ds with
  | [.tup [.int a, .int b]] => (1 ≤ b ∧ Nat.gcd a.natAbs b.natAbs = 1) ∧ R (.bl true)
  | _ => False
set_option maxHeartbeats 0 in
theorem ok_is_ratio (T : Txt K mg) (D0 : Dfn K mg "is_ratio" "is_ratio" s_is_ratio ["value"] []) (C_is_integer : Cal P w K mg base tabs "is_integer" 1 1 ["value"] [] sp_is_integer) : Cal P w K mg base tabs "is_ratio" 2 1 ["value"] [] sp_is_ratio := by
  refine cal_of D0 sc_is_ratio fun f cdv A outer s H E p ht hg hk hr => ⟨_, (pdss_cons (pds_if (pdw_t (pdw_or (pdt_not (pdt_val (pd_callB cd_isi rfl T.b_isinstance PyProof.Rows.boot_isinstance (pda_cons (pd_var 0) (pda_cons (pd_ty rfl T.b_tuple PyProof.Rows.boot_tuple) pda_nil))))) (pdw_or1 (pdt_cmp (opd_ne hr.units) (pd_callB cd_len rfl T.b_len PySem.boot_len (pda_cons (pd_var 0) pda_nil)) pd_int)))) (pdss_one (pds_ret pd_bl)) pdss_nil)
      (pdss_cons (pds_asg (pd_var 0) (pdg_tup (n := 2) rfl (pdgs_cons (pdg_name (i := 1) sc_is_ratio.nd rfl (Or.inl rfl)) (pdgs_cons (pdg_name (i := 2) sc_is_ratio.nd rfl (Or.inl rfl)) pdgs_nil))))
      (pdss_cons (pds_if (pdw_t (pdw_or (pdt_not (pdt_val (pdcC (C_is_integer.cal ht) hg hr (pda_cons (pd_var 1) pda_nil)))) (pdw_or1 (pdt_not (pdt_val (pdcC (C_is_integer.cal ht) hg hr (pda_cons (pd_var 2) pda_nil))))))) (pdss_one (pds_ret pd_bl)) pdss_nil)
      (pdss_one (pds_ret (pd_and (pd_cmp opd_ge (pd_var 2) pd_int) (pd_one (pd_cmp (opd_eq hr.units) (pd_callFun cd_gcd rfl T.m_gcd (pda_cons (pd_var 1) (pda_cons (pd_var 2) pda_nil))) pd_int)))))))), ?_⟩
  intro ds R hl h; unfold sp_is_ratio at h; split at h
  all_goals (try exact False.elim h)
  all_goals clear hl hg hr hk ht
  rename_i a b
  obtain ⟨⟨h1, h2⟩, h⟩ := h
  simp (implicitDefEqProofs := false) (maxSteps := 3000000) only [xSeq, xIf, xRet, xRaise, xOf, xB, xBK, xAsg, xTry, xHeard, mD0, mD1, mD2, startD, List.map_cons, List.map_nil, List.length_cons, List.length_nil, List.replicate, List.cons_append, List.nil_append, Nat.reduceAdd, Nat.reduceSub, Nat.zero_add, dSeq, dIfS, dOr, dAnd, dNot, dTst, dOp, dUn, dVar, dC, dB, dBK, dCons, dNil, dTup, dLst, dRet, dRetN, dRetF, dRetO, dBO, dFr, dRepL, dCatL, dRev, dRevL, dSlO, dCatO, cSorted, SpO.sp, dNext, dNever, dAsg, dPar, dPar3, dParO, dIf, dAndV, dOrV, dNotV, dCh, dCt, cLast, cLink, tLast, tLink, dDrop, dFor, dBrk, dCnt, dOwn, dApp, dExt, dFree, gPutO, dIxO, dLend, dLendT, dLcF, gN, gTu, gCn, gNl, gP0, gP1, gII, gIIc, gAdd, gNeg, gIx, gEq, gNe, gIs, gIsNot, gIn, gNotIn, gSl, oNone, oSome, gMt, gIndex, cTuple, cList, cI1, cI2, cInt, cLen, cMax, cMin, cMaxT, cMinT, dAug, cAll, cAny, cRepr, cSqrt, cIsi, tyN, isNon, kb_tt, kb_ii, kb_ib, kb_bi, kb_bb, kb_it, kb_bt, kb_nt, kb_ni, kb_lt, kb_li, kb_ti, kb_si, kb_st, kb_ss, rd, dTru, dRgN, dEnum, gMulT, gDivN, gDivNB, gEqF, dCallV, spOf, atD, ordD, dSq, dZip, dZipM, dZip3, zipD3_map, gShl, dParOO, zipD_map, ivD, dRg1, dRg2, dLc, dYes, dLcGo, dGen, dGenGo, wipeD, boolsOf, intsOf, maxL, minL, noL, noLs, Option.map_some, Option.bind_some, List.all_cons, List.all_nil, List.any_cons, List.any_nil, id_eq, List.set_cons_zero, List.set_cons_succ, List.getElem?_cons_zero, List.getElem?_cons_succ, List.getElem?_nil, List.getD_cons_zero, List.getD_cons_succ, decide_eq_true_eq, decide_eq_false_iff_not, Bool.not_eq_true', Bool.not_true, Bool.not_false, Bool.and_true, Bool.true_and, Bool.and_false, Bool.false_and, Bool.false_eq_true, if_true, if_false, reduceIte, ite_true, ite_false, true_and, and_true, reduceCtorEq, Int.toNat_zero, Int.toNat_one, Int.cast_ofNat_Int, Int.reduceLT, Int.reduceLE, Int.reduceNeg, Int.reduceToNat, Int.reducePow, Int.reduceMul, Int.reduceAdd, Int.reduceSub, decide_true, decide_false, sp_is_integer]
  rw [if_pos h1, h2]
  exact h
def sp__law_draw : SpD :=
  fun ds R => match ds with
  | [.pot, .int n] => (0 < n ∧ n < 1606938044258990275541962092341162602522202993782792835301376) ∧ ∀ r : Int, 0 ≤ r → r < n → R (.int r)
  | _ => False
set_option maxHeartbeats 0 in
theorem ok__law_draw (T : Txt K mg) (D0 : Dfn K mg "_law_draw" "_law_draw" s__law_draw ["pot", "room"] [])  : Cal P w K mg base tabs "_law_draw" 1 2 ["pot", "room"] [] sp__law_draw := by
  refine cal_of D0 sc__law_draw fun f cdv A outer s H E p ht hg hk hr => ⟨_, (pdss_cons (pds_if (pdt_cmp opd_gt (pd_ix (pd_var 0) pd_int) pd_int) (pdss_cons (pds_asg (pd_callB cd_divmod rfl T.b_divmod PyProof.Rows.boot_divmod (pda_cons (pd_ix (pd_var 0) pd_int) (pda_cons (pd_var 1) pda_nil))) (pdg_tup (n := 2) rfl (pdgs_cons (pdg_p0 (i := 0) rfl (pd_var 0) pd_int) (pdgs_cons (pdg_name (i := 2) sc__law_draw.nd rfl (Or.inl rfl)) pdgs_nil))))
      (pdss_one (pds_ret (pd_var 2)))) pdss_nil)
      (pdss_cons (pds_asg (pd_bin opd_mod (pd_callTy cd_int rfl T.b_int PyProof.Rows.boot_int (pda_cons (pd_bin opd_add (pd_bin opd_mul (pd_ix (pd_var 0) pd_int) pd_int) pd_int) pda_nil)) pd_int) (pdg_p1 (i := 0) rfl (pd_var 0) pd_int))
      (pdss_one (pds_ret (pd_bin opd_mod (pd_callTy cd_int rfl T.b_int PyProof.Rows.boot_int (pda_cons (pd_bin opd_div (pd_bin opd_mod (pd_callTy cd_int rfl T.b_int PyProof.Rows.boot_int (pda_cons (pd_bin opd_mul (pd_ix (pd_var 0) pd_int) (pd_ix (pd_var 0) pd_int)) pda_nil)) pd_int) pd_int) pda_nil)) (pd_var 1)))))), ?_⟩
  intro ds R hl h; unfold sp__law_draw at h; split at h
  all_goals (try exact False.elim h)
  all_goals clear hl hg hr hk ht
  rename_i n
  obtain ⟨⟨h1, h2⟩, h⟩ := h
  simp (implicitDefEqProofs := false) (maxSteps := 3000000) only [xSeq, xIf, xRet, xRaise, xOf, xB, xBK, xAsg, xTry, xHeard, mD0, mD1, mD2, startD, List.map_cons, List.map_nil, List.length_cons, List.length_nil, List.replicate, List.cons_append, List.nil_append, Nat.reduceAdd, Nat.reduceSub, Nat.zero_add, dSeq, dIfS, dOr, dAnd, dNot, dTst, dOp, dUn, dVar, dC, dB, dBK, dCons, dNil, dTup, dLst, dRet, dRetN, dRetF, dRetO, dBO, dFr, dRepL, dCatL, dRev, dRevL, dSlO, dCatO, cSorted, SpO.sp, dNext, dNever, dAsg, dPar, dPar3, dParO, dIf, dAndV, dOrV, dNotV, dCh, dCt, cLast, cLink, tLast, tLink, dDrop, dFor, dBrk, dCnt, dOwn, dApp, dExt, dFree, gPutO, dIxO, dLend, dLendT, dLcF, gN, gTu, gCn, gNl, gP0, gP1, gII, gIIc, gAdd, gNeg, gIx, gEq, gNe, gIs, gIsNot, gIn, gNotIn, gSl, oNone, oSome, gMt, gIndex, cTuple, cList, cI1, cI2, cInt, cLen, cMax, cMin, cMaxT, cMinT, dAug, cAll, cAny, cRepr, cSqrt, cIsi, tyN, isNon, kb_tt, kb_ii, kb_ib, kb_bi, kb_bb, kb_it, kb_bt, kb_nt, kb_ni, kb_lt, kb_li, kb_ti, kb_si, kb_st, kb_ss, rd, dTru, dRgN, dEnum, gMulT, gDivN, gDivNB, gEqF, dCallV, spOf, atD, ordD, dSq, dZip, dZipM, dZip3, zipD3_map, gShl, dParOO, zipD_map, ivD, dRg1, dRg2, dLc, dYes, dLcGo, dGen, dGenGo, wipeD, boolsOf, intsOf, maxL, minL, noL, noLs, Option.map_some, Option.bind_some, List.all_cons, List.all_nil, List.any_cons, List.any_nil, id_eq, List.set_cons_zero, List.set_cons_succ, List.getElem?_cons_zero, List.getElem?_cons_succ, List.getElem?_nil, List.getD_cons_zero, List.getD_cons_succ, decide_eq_true_eq, decide_eq_false_iff_not, Bool.not_eq_true', Bool.not_true, Bool.not_false, Bool.and_true, Bool.true_and, Bool.and_false, Bool.false_and, Bool.false_eq_true, if_true, if_false, reduceIte, ite_true, ite_false, true_and, and_true, reduceCtorEq, Int.toNat_zero, Int.toNat_one, Int.cast_ofNat_Int, Int.reduceLT, Int.reduceLE, Int.reduceNeg, Int.reduceToNat, Int.reducePow, Int.reduceMul, Int.reduceAdd, Int.reduceSub, decide_true, decide_false]
  intro a ha
  split
  · intro b hb
    refine ⟨?_, ?_, h _ ?_ ?_⟩ <;> (first | assumption | omega | (exact BD.of (by omega) (by omega)) | (exact BS.of (by omega) (by omega)) | (exact MulC.left (by omega) (by omega)) | (exact MulC.right (by omega) (by omega)) | (exact MulC.wide (by omega) (by omega) (by omega) (by omega)) | (exact em0 (by omega)) | (exact em1 (by omega)) | (exact ed0 (by omega) (by omega)))
  · intro b hb hb2
    refine ⟨?_, ?_, ?_⟩
    · (first | assumption | omega | (exact BD.of (by omega) (by omega)) | (exact BS.of (by omega) (by omega)) | (exact MulC.left (by omega) (by omega)) | (exact MulC.right (by omega) (by omega)) | (exact MulC.wide (by omega) (by omega) (by omega) (by omega)) | (exact em0 (by omega)) | (exact em1 (by omega)) | (exact ed0 (by omega) (by omega)))
    · (first | assumption | omega | (exact BD.of (by omega) (by omega)) | (exact BS.of (by omega) (by omega)) | (exact MulC.left (by omega) (by omega)) | (exact MulC.right (by omega) (by omega)) | (exact MulC.wide (by omega) (by omega) (by omega) (by omega)) | (exact em0 (by omega)) | (exact em1 (by omega)) | (exact ed0 (by omega) (by omega)))
    · intro c hc hc2 d hd hd2
      refine ⟨?_, ?_, ?_, h _ ?_ ?_⟩ <;> (first | assumption | omega | (exact BD.of (by omega) (by omega)) | (exact BS.of (by omega) (by omega)) | (exact MulC.left (by omega) (by omega)) | (exact MulC.right (by omega) (by omega)) | (exact MulC.wide (by omega) (by omega) (by omega) (by omega)) | (exact em0 (by omega)) | (exact em1 (by omega)) | (exact ed0 (by omega) (by omega)))
def sp__law_pick : SpD :=
  fun ds R => match ds with
  | [.pot, .lst l] => (1 ≤ l.length ∧ l.length ≤ 1000000) ∧ ∀ x ∈ l, R x
  | _ => False
set_option maxHeartbeats 0 in
theorem ok__law_pick (T : Txt K mg) (D0 : Dfn K mg "_law_pick" "_law_pick" s__law_pick ["pot", "some"] []) (C__law_draw : Cal P w K mg base tabs "_law_draw" 1 2 ["pot", "room"] [] sp__law_draw) : Cal P w K mg base tabs "_law_pick" 2 2 ["pot", "some"] [] sp__law_pick := by
  refine cal_of D0 sc__law_pick fun f cdv A outer s H E p ht hg hk hr => ⟨_, (pdss_one (pds_ret (pd_ix (pd_var 1) (pdcC (C__law_draw.cal ht) hg hr (pda_cons (pd_var 0) (pda_cons (pd_callB cd_len rfl T.b_len PySem.boot_len (pda_cons (pd_var 1) pda_nil)) pda_nil)))))), ?_⟩
  intro ds R hl h; unfold sp__law_pick at h; split at h
  all_goals (try exact False.elim h)
  all_goals clear hl hg hr hk ht
  rename_i l
  obtain ⟨⟨h1, h2⟩, h⟩ := h
  simp (implicitDefEqProofs := false) (maxSteps := 3000000) only [xSeq, xIf, xRet, xRaise, xOf, xB, xBK, xAsg, xTry, xHeard, mD0, mD1, mD2, startD, List.map_cons, List.map_nil, List.length_cons, List.length_nil, List.replicate, List.cons_append, List.nil_append, Nat.reduceAdd, Nat.reduceSub, Nat.zero_add, dSeq, dIfS, dOr, dAnd, dNot, dTst, dOp, dUn, dVar, dC, dB, dBK, dCons, dNil, dTup, dLst, dRet, dRetN, dRetF, dRetO, dBO, dFr, dRepL, dCatL, dRev, dRevL, dSlO, dCatO, cSorted, SpO.sp, dNext, dNever, dAsg, dPar, dPar3, dParO, dIf, dAndV, dOrV, dNotV, dCh, dCt, cLast, cLink, tLast, tLink, dDrop, dFor, dBrk, dCnt, dOwn, dApp, dExt, dFree, gPutO, dIxO, dLend, dLendT, dLcF, gN, gTu, gCn, gNl, gP0, gP1, gII, gIIc, gAdd, gNeg, gIx, gEq, gNe, gIs, gIsNot, gIn, gNotIn, gSl, oNone, oSome, gMt, gIndex, cTuple, cList, cI1, cI2, cInt, cLen, cMax, cMin, cMaxT, cMinT, dAug, cAll, cAny, cRepr, cSqrt, cIsi, tyN, isNon, kb_tt, kb_ii, kb_ib, kb_bi, kb_bb, kb_it, kb_bt, kb_nt, kb_ni, kb_lt, kb_li, kb_ti, kb_si, kb_st, kb_ss, rd, dTru, dRgN, dEnum, gMulT, gDivN, gDivNB, gEqF, dCallV, spOf, atD, ordD, dSq, dZip, dZipM, dZip3, zipD3_map, gShl, dParOO, zipD_map, ivD, dRg1, dRg2, dLc, dYes, dLcGo, dGen, dGenGo, wipeD, boolsOf, intsOf, maxL, minL, noL, noLs, Option.map_some, Option.bind_some, List.all_cons, List.all_nil, List.any_cons, List.any_nil, id_eq, List.set_cons_zero, List.set_cons_succ, List.getElem?_cons_zero, List.getElem?_cons_succ, List.getElem?_nil, List.getD_cons_zero, List.getD_cons_succ, decide_eq_true_eq, decide_eq_false_iff_not, Bool.not_eq_true', Bool.not_true, Bool.not_false, Bool.and_true, Bool.true_and, Bool.and_false, Bool.false_and, Bool.false_eq_true, if_true, if_false, reduceIte, ite_true, ite_false, true_and, and_true, reduceCtorEq, Int.toNat_zero, Int.toNat_one, Int.cast_ofNat_Int, Int.reduceLT, Int.reduceLE, Int.reduceNeg, Int.reduceToNat, Int.reducePow, Int.reduceMul, Int.reduceAdd, Int.reduceSub, decide_true, decide_false, sp__law_draw]
  refine ⟨by omega, fun r r0 r1 => ?_⟩
  rw [if_pos r0]
  have hr : r.toNat < l.length := by omega
  rw [List.getElem?_eq_getElem hr]
  exact h _ (List.getElem_mem hr)
def sp__law_one : SpD :=
  fun ds R => match ds with
  | [] => R (.int 1099511627776)
  | _ => False
set_option maxHeartbeats 0 in
theorem ok__law_one (T : Txt K mg) (D0 : Dfn K mg "_law_one" "_law_one" s__law_one [] [])  : Cal P w K mg base tabs "_law_one" 1 0 [] [] sp__law_one := by
  refine cal_of D0 sc__law_one fun f cdv A outer s H E p ht hg hk hr => ⟨_, (pdss_one (pds_ret (pd_bin opd_pow pd_int pd_int))), ?_⟩
  intro ds R hl h; unfold sp__law_one at h; split at h
  all_goals (try exact False.elim h)
  all_goals clear hl hg hr hk ht
  simp (implicitDefEqProofs := false) (maxSteps := 3000000) only [xSeq, xIf, xRet, xRaise, xOf, xB, xBK, xAsg, xTry, xHeard, mD0, mD1, mD2, startD, List.map_cons, List.map_nil, List.length_cons, List.length_nil, List.replicate, List.cons_append, List.nil_append, Nat.reduceAdd, Nat.reduceSub, Nat.zero_add, dSeq, dIfS, dOr, dAnd, dNot, dTst, dOp, dUn, dVar, dC, dB, dBK, dCons, dNil, dTup, dLst, dRet, dRetN, dRetF, dRetO, dBO, dFr, dRepL, dCatL, dRev, dRevL, dSlO, dCatO, cSorted, SpO.sp, dNext, dNever, dAsg, dPar, dPar3, dParO, dIf, dAndV, dOrV, dNotV, dCh, dCt, cLast, cLink, tLast, tLink, dDrop, dFor, dBrk, dCnt, dOwn, dApp, dExt, dFree, gPutO, dIxO, dLend, dLendT, dLcF, gN, gTu, gCn, gNl, gP0, gP1, gII, gIIc, gAdd, gNeg, gIx, gEq, gNe, gIs, gIsNot, gIn, gNotIn, gSl, oNone, oSome, gMt, gIndex, cTuple, cList, cI1, cI2, cInt, cLen, cMax, cMin, cMaxT, cMinT, dAug, cAll, cAny, cRepr, cSqrt, cIsi, tyN, isNon, kb_tt, kb_ii, kb_ib, kb_bi, kb_bb, kb_it, kb_bt, kb_nt, kb_ni, kb_lt, kb_li, kb_ti, kb_si, kb_st, kb_ss, rd, dTru, dRgN, dEnum, gMulT, gDivN, gDivNB, gEqF, dCallV, spOf, atD, ordD, dSq, dZip, dZipM, dZip3, zipD3_map, gShl, dParOO, zipD_map, ivD, dRg1, dRg2, dLc, dYes, dLcGo, dGen, dGenGo, wipeD, boolsOf, intsOf, maxL, minL, noL, noLs, Option.map_some, Option.bind_some, List.all_cons, List.all_nil, List.any_cons, List.any_nil, id_eq, List.set_cons_zero, List.set_cons_succ, List.getElem?_cons_zero, List.getElem?_cons_succ, List.getElem?_nil, List.getD_cons_zero, List.getD_cons_succ, decide_eq_true_eq, decide_eq_false_iff_not, Bool.not_eq_true', Bool.not_true, Bool.not_false, Bool.and_true, Bool.true_and, Bool.and_false, Bool.false_and, Bool.false_eq_true, if_true, if_false, reduceIte, ite_true, ite_false, true_and, and_true, reduceCtorEq, Int.toNat_zero, Int.toNat_one, Int.cast_ofNat_Int, Int.reduceLT, Int.reduceLE, Int.reduceNeg, Int.reduceToNat, Int.reducePow, Int.reduceMul, Int.reduceAdd, Int.reduceSub, decide_true, decide_false]
  exact h
def sp__law_gcd : SpD :=
  fun ds R => match ds with
  | [.int a, .int b] => b ≠ 0 ∧ R (.int ((Nat.gcd a.natAbs b.natAbs : Nat) : Int))
  | _ => False
set_option maxHeartbeats 0 in
theorem ok__law_gcd (T : Txt K mg) (D0 : Dfn K mg "_law_gcd" "_law_gcd" s__law_gcd ["one", "other"] [])  : Cal P w K mg base tabs "_law_gcd" 1 2 ["one", "other"] [] sp__law_gcd := by
  refine cal_of D0 sc__law_gcd fun f cdv A outer s H E p ht hg hk hr => ⟨_, (pdss_cons (pds_while PassesOwn.never (pdt_cmp (opd_ne hr.units) (pd_var 1) pd_int) (pdss_one (pds_par (i := 0) (j := 1) rfl sc__law_gcd.nd rfl rfl (by decide) rfl rfl (pda_cons (pd_var 1) (pda_cons (pd_bin opd_modN (pd_var 0) (pd_var 1)) pda_nil)) (by rfl))))
      (pdss_one (pds_ret (pd_callB cd_abs rfl T.b_abs PyProof.Rows.boot_abs (pda_cons (pd_var 0) pda_nil))))), ?_⟩
  intro ds R hl h; unfold sp__law_gcd at h; split at h
  all_goals (try exact False.elim h)
  all_goals clear hl hg hr hk ht
  rename_i a b
  obtain ⟨h1, h⟩ := h
  simp (implicitDefEqProofs := false) (maxSteps := 3000000) only [xSeq, xIf, xRet, xRaise, xOf, xB, xBK, xAsg, xTry, xHeard, mD0, mD1, mD2, startD, List.map_cons, List.map_nil, List.length_cons, List.length_nil, List.replicate, List.cons_append, List.nil_append, Nat.reduceAdd, Nat.reduceSub, Nat.zero_add, dSeq, dIfS, dOr, dAnd, dNot, dTst, dOp, dUn, dVar, dC, dB, dBK, dCons, dNil, dTup, dLst, dRet, dRetN, dRetF, dRetO, dBO, dFr, dRepL, dCatL, dRev, dRevL, dSlO, dCatO, cSorted, SpO.sp, dNext, dNever, dAsg, dPar, dPar3, dParO, dIf, dAndV, dOrV, dNotV, dCh, dCt, cLast, cLink, tLast, tLink, dDrop, dFor, dBrk, dCnt, dOwn, dApp, dExt, dFree, gPutO, dIxO, dLend, dLendT, dLcF, gN, gTu, gCn, gNl, gP0, gP1, gII, gIIc, gAdd, gNeg, gIx, gEq, gNe, gIs, gIsNot, gIn, gNotIn, gSl, oNone, oSome, gMt, gIndex, cTuple, cList, cI1, cI2, cInt, cLen, cMax, cMin, cMaxT, cMinT, dAug, cAll, cAny, cRepr, cSqrt, cIsi, tyN, isNon, kb_tt, kb_ii, kb_ib, kb_bi, kb_bb, kb_it, kb_bt, kb_nt, kb_ni, kb_lt, kb_li, kb_ti, kb_si, kb_st, kb_ss, rd, dTru, dRgN, dEnum, gMulT, gDivN, gDivNB, gEqF, dCallV, spOf, atD, ordD, dSq, dZip, dZipM, dZip3, zipD3_map, gShl, dParOO, zipD_map, ivD, dRg1, dRg2, dLc, dYes, dLcGo, dGen, dGenGo, wipeD, boolsOf, intsOf, maxL, minL, noL, noLs, Option.map_some, Option.bind_some, List.all_cons, List.all_nil, List.any_cons, List.any_nil, id_eq, List.set_cons_zero, List.set_cons_succ, List.getElem?_cons_zero, List.getElem?_cons_succ, List.getElem?_nil, List.getD_cons_zero, List.getD_cons_succ, decide_eq_true_eq, decide_eq_false_iff_not, Bool.not_eq_true', Bool.not_true, Bool.not_false, Bool.and_true, Bool.true_and, Bool.and_false, Bool.false_and, Bool.false_eq_true, if_true, if_false, reduceIte, ite_true, ite_false, true_and, and_true, reduceCtorEq, Int.toNat_zero, Int.toNat_one, Int.cast_ofNat_Int, Int.reduceLT, Int.reduceLE, Int.reduceNeg, Int.reduceToNat, Int.reducePow, Int.reduceMul, Int.reduceAdd, Int.reduceSub, decide_true, decide_false]
  refine whileI (fun m τ => ∃ c d : Int, τ = [some (.int c), some (.int d)] ∧ d.natAbs = m ∧ Nat.gcd c.natAbs d.natAbs = Nat.gcd a.natAbs b.natAbs) b.natAbs _ ⟨a, b, rfl, rfl, rfl⟩ ?_
  rintro m τ k hk ⟨c, d, rfl, rfl, hg⟩
  simp (implicitDefEqProofs := false) (maxSteps := 3000000) only [xSeq, xIf, xRet, xRaise, xOf, xB, xBK, xAsg, xTry, xHeard, mD0, mD1, mD2, startD, List.map_cons, List.map_nil, List.length_cons, List.length_nil, List.replicate, List.cons_append, List.nil_append, Nat.reduceAdd, Nat.reduceSub, Nat.zero_add, dSeq, dIfS, dOr, dAnd, dNot, dTst, dOp, dUn, dVar, dC, dB, dBK, dCons, dNil, dTup, dLst, dRet, dRetN, dRetF, dRetO, dBO, dFr, dRepL, dCatL, dRev, dRevL, dSlO, dCatO, cSorted, SpO.sp, dNext, dNever, dAsg, dPar, dPar3, dParO, dIf, dAndV, dOrV, dNotV, dCh, dCt, cLast, cLink, tLast, tLink, dDrop, dFor, dBrk, dCnt, dOwn, dApp, dExt, dFree, gPutO, dIxO, dLend, dLendT, dLcF, gN, gTu, gCn, gNl, gP0, gP1, gII, gIIc, gAdd, gNeg, gIx, gEq, gNe, gIs, gIsNot, gIn, gNotIn, gSl, oNone, oSome, gMt, gIndex, cTuple, cList, cI1, cI2, cInt, cLen, cMax, cMin, cMaxT, cMinT, dAug, cAll, cAny, cRepr, cSqrt, cIsi, tyN, isNon, kb_tt, kb_ii, kb_ib, kb_bi, kb_bb, kb_it, kb_bt, kb_nt, kb_ni, kb_lt, kb_li, kb_ti, kb_si, kb_st, kb_ss, rd, dTru, dRgN, dEnum, gMulT, gDivN, gDivNB, gEqF, dCallV, spOf, atD, ordD, dSq, dZip, dZipM, dZip3, zipD3_map, gShl, dParOO, zipD_map, ivD, dRg1, dRg2, dLc, dYes, dLcGo, dGen, dGenGo, wipeD, boolsOf, intsOf, maxL, minL, noL, noLs, Option.map_some, Option.bind_some, List.all_cons, List.all_nil, List.any_cons, List.any_nil, id_eq, List.set_cons_zero, List.set_cons_succ, List.getElem?_cons_zero, List.getElem?_cons_succ, List.getElem?_nil, List.getD_cons_zero, List.getD_cons_succ, decide_eq_true_eq, decide_eq_false_iff_not, Bool.not_eq_true', Bool.not_true, Bool.not_false, Bool.and_true, Bool.true_and, Bool.and_false, Bool.false_and, Bool.false_eq_true, if_true, if_false, reduceIte, ite_true, ite_false, true_and, and_true, reduceCtorEq, Int.toNat_zero, Int.toNat_one, Int.cast_ofNat_Int, Int.reduceLT, Int.reduceLE, Int.reduceNeg, Int.reduceToNat, Int.reducePow, Int.reduceMul, Int.reduceAdd, Int.reduceSub, decide_true, decide_false]
  by_cases e : d = 0
  · subst e
    rw [← hg] at h
    have e2 : Nat.gcd c.natAbs (Int.natAbs 0) = c.natAbs := Nat.gcd_zero_right _
    rw [e2] at h
    simpa using h
  · rw [if_pos e]
    exact ⟨e, hk _ _ (fmod_abs e) ⟨d, c.fmod d, rfl, rfl, by rw [gcd_fmod c d]; exact hg⟩⟩
def sp__law_ratio : SpD :=
  fun ds R => match ds with
  | [.int n, .int u] => (u ≠ 0 ∧ -1606938044258990275541962092341162602522202993782792835301376 < u ∧ u < 1606938044258990275541962092341162602522202993782792835301376) ∧ ∀ q : Int × Int, Rt q → q.1 * u = n * q.2 → q.2 ≤ (u.natAbs : Int) → q.1.natAbs ≤ n.natAbs → R (ivD q)
  | _ => False
set_option maxHeartbeats 0 in
theorem ok__law_ratio (T : Txt K mg) (D0 : Dfn K mg "_law_ratio" "_law_ratio" s__law_ratio ["number", "under"] []) (C__law_gcd : Cal P w K mg base tabs "_law_gcd" 1 2 ["one", "other"] [] sp__law_gcd) : Cal P w K mg base tabs "_law_ratio" 2 2 ["number", "under"] [] sp__law_ratio := by
  refine cal_of D0 sc__law_ratio fun f cdv A outer s H E p ht hg hk hr => ⟨_, (pdss_cons (pds_set (i := 2) sc__law_ratio.nd rfl (Or.inl rfl) (pdcC (C__law_gcd.cal ht) hg hr (pda_cons (pd_var 0) (pda_cons (pd_var 1) pda_nil))))
      (pdss_cons (pds_set (i := 3) sc__law_ratio.nd rfl (Or.inl rfl) (pd_ifx (pdt_cmp opd_gt (pd_var 1) pd_int) pd_int (pd_un und_neg pd_int)))
      (pdss_one (pds_ret (pd_tup (pda_cons (pd_bin opd_div (pd_bin opd_mul (pd_var 3) (pd_var 0)) (pd_var 2)) (pda_cons (pd_bin opd_div (pd_bin opd_mul (pd_var 3) (pd_var 1)) (pd_var 2)) pda_nil))))))), ?_⟩
  intro ds R hl h; unfold sp__law_ratio at h; split at h
  all_goals (try exact False.elim h)
  all_goals clear hl hg hr hk ht
  rename_i n u
  obtain ⟨⟨h0, h1, h2⟩, h⟩ := h
  simp (implicitDefEqProofs := false) (maxSteps := 3000000) only [xSeq, xIf, xRet, xRaise, xOf, xB, xBK, xAsg, xTry, xHeard, mD0, mD1, mD2, startD, List.map_cons, List.map_nil, List.length_cons, List.length_nil, List.replicate, List.cons_append, List.nil_append, Nat.reduceAdd, Nat.reduceSub, Nat.zero_add, dSeq, dIfS, dOr, dAnd, dNot, dTst, dOp, dUn, dVar, dC, dB, dBK, dCons, dNil, dTup, dLst, dRet, dRetN, dRetF, dRetO, dBO, dFr, dRepL, dCatL, dRev, dRevL, dSlO, dCatO, cSorted, SpO.sp, dNext, dNever, dAsg, dPar, dPar3, dParO, dIf, dAndV, dOrV, dNotV, dCh, dCt, cLast, cLink, tLast, tLink, dDrop, dFor, dBrk, dCnt, dOwn, dApp, dExt, dFree, gPutO, dIxO, dLend, dLendT, dLcF, gN, gTu, gCn, gNl, gP0, gP1, gII, gIIc, gAdd, gNeg, gIx, gEq, gNe, gIs, gIsNot, gIn, gNotIn, gSl, oNone, oSome, gMt, gIndex, cTuple, cList, cI1, cI2, cInt, cLen, cMax, cMin, cMaxT, cMinT, dAug, cAll, cAny, cRepr, cSqrt, cIsi, tyN, isNon, kb_tt, kb_ii, kb_ib, kb_bi, kb_bb, kb_it, kb_bt, kb_nt, kb_ni, kb_lt, kb_li, kb_ti, kb_si, kb_st, kb_ss, rd, dTru, dRgN, dEnum, gMulT, gDivN, gDivNB, gEqF, dCallV, spOf, atD, ordD, dSq, dZip, dZipM, dZip3, zipD3_map, gShl, dParOO, zipD_map, ivD, dRg1, dRg2, dLc, dYes, dLcGo, dGen, dGenGo, wipeD, boolsOf, intsOf, maxL, minL, noL, noLs, Option.map_some, Option.bind_some, List.all_cons, List.all_nil, List.any_cons, List.any_nil, id_eq, List.set_cons_zero, List.set_cons_succ, List.getElem?_cons_zero, List.getElem?_cons_succ, List.getElem?_nil, List.getD_cons_zero, List.getD_cons_succ, decide_eq_true_eq, decide_eq_false_iff_not, Bool.not_eq_true', Bool.not_true, Bool.not_false, Bool.and_true, Bool.true_and, Bool.and_false, Bool.false_and, Bool.false_eq_true, if_true, if_false, reduceIte, ite_true, ite_false, true_and, and_true, reduceCtorEq, Int.toNat_zero, Int.toNat_one, Int.cast_ofNat_Int, Int.reduceLT, Int.reduceLE, Int.reduceNeg, Int.reduceToNat, Int.reducePow, Int.reduceMul, Int.reduceAdd, Int.reduceSub, decide_true, decide_false, sp__law_gcd]
  rcases Int.lt_or_gt_of_ne h0 with c | c
  · have g := low_terms (n := -n) (u := -u) (by omega) (by omega)
    have g2 := low_terms2 (n := -n) (u := -u) (by omega) (by omega)
    have gp := gcd_pos (a := -n) (b := -u) (by omega)
    have gl : Nat.gcd (-n).natAbs (-u).natAbs ≤ (-u).natAbs := Nat.gcd_le_right _ (by omega)
    simp only [Int.natAbs_neg] at g g2 gp gl
    rw [if_neg (by omega)]
    refine ⟨by omega, .left (by omega) (by omega), .of (by omega) (by omega), .left (by omega) (by omega), .of (by omega) (by omega), ?_⟩
    rw [Int.neg_one_mul, Int.neg_one_mul]
    refine h _ g.1 (by have := g.2; rw [Int.mul_neg, Int.neg_mul] at this; exact Int.neg_inj.mp this) (by have := g2.1; show -u / _ ≤ _; omega) g2.2
  · have g := low_terms (n := n) c h2
    have g2 := low_terms2 (n := n) c h2
    have gp := gcd_pos (a := n) c
    have gl : Nat.gcd n.natAbs u.natAbs ≤ u.natAbs := Nat.gcd_le_right _ (by omega)
    rw [if_pos c]
    refine ⟨by omega, .left (by omega) (by omega), .of (by omega) (by omega), .left (by omega) (by omega), .of (by omega) (by omega), ?_⟩
    rw [Int.one_mul, Int.one_mul]
    exact h _ g.1 g.2 (by have := g2.1; show u / _ ≤ _; omega) g2.2
def sp_check_ratio : SpD :=
  fun ds R => match ds with
  | [.tup [.int a, .int b]] => (1 ≤ b ∧ Nat.gcd a.natAbs b.natAbs = 1) ∧ R .non
  | _ => False
set_option maxHeartbeats 0 in
theorem ok_check_ratio (T : Txt K mg) (D0 : Dfn K mg "check_ratio" "check_ratio" s_check_ratio ["ratio"] []) (C_is_ratio : Cal P w K mg base tabs "is_ratio" 2 1 ["value"] [] sp_is_ratio) : Cal P w K mg base tabs "check_ratio" 3 1 ["ratio"] [] sp_check_ratio := by
  refine cal_of D0 sc_check_ratio fun f cdv A outer s H E p ht hg hk hr => ⟨_, (pdss_one (pds_if (pdt_not (pdt_val (pdcC (C_is_ratio.cal ht) hg hr (pda_cons (pd_var 0) pda_nil)))) (pdss_one pds_never) pdss_nil)), ?_⟩
  intro ds R hl h; unfold sp_check_ratio at h; split at h
  all_goals (try exact False.elim h)
  all_goals clear hl hg hr hk ht
  simp (implicitDefEqProofs := false) (maxSteps := 3000000) only [xSeq, xIf, xRet, xRaise, xOf, xB, xBK, xAsg, xTry, xHeard, mD0, mD1, mD2, startD, List.map_cons, List.map_nil, List.length_cons, List.length_nil, List.replicate, List.cons_append, List.nil_append, Nat.reduceAdd, Nat.reduceSub, Nat.zero_add, dSeq, dIfS, dOr, dAnd, dNot, dTst, dOp, dUn, dVar, dC, dB, dBK, dCons, dNil, dTup, dLst, dRet, dRetN, dRetF, dRetO, dBO, dFr, dRepL, dCatL, dRev, dRevL, dSlO, dCatO, cSorted, SpO.sp, dNext, dNever, dAsg, dPar, dPar3, dParO, dIf, dAndV, dOrV, dNotV, dCh, dCt, cLast, cLink, tLast, tLink, dDrop, dFor, dBrk, dCnt, dOwn, dApp, dExt, dFree, gPutO, dIxO, dLend, dLendT, dLcF, gN, gTu, gCn, gNl, gP0, gP1, gII, gIIc, gAdd, gNeg, gIx, gEq, gNe, gIs, gIsNot, gIn, gNotIn, gSl, oNone, oSome, gMt, gIndex, cTuple, cList, cI1, cI2, cInt, cLen, cMax, cMin, cMaxT, cMinT, dAug, cAll, cAny, cRepr, cSqrt, cIsi, tyN, isNon, kb_tt, kb_ii, kb_ib, kb_bi, kb_bb, kb_it, kb_bt, kb_nt, kb_ni, kb_lt, kb_li, kb_ti, kb_si, kb_st, kb_ss, rd, dTru, dRgN, dEnum, gMulT, gDivN, gDivNB, gEqF, dCallV, spOf, atD, ordD, dSq, dZip, dZipM, dZip3, zipD3_map, gShl, dParOO, zipD_map, ivD, dRg1, dRg2, dLc, dYes, dLcGo, dGen, dGenGo, wipeD, boolsOf, intsOf, maxL, minL, noL, noLs, Option.map_some, Option.bind_some, List.all_cons, List.all_nil, List.any_cons, List.any_nil, id_eq, List.set_cons_zero, List.set_cons_succ, List.getElem?_cons_zero, List.getElem?_cons_succ, List.getElem?_nil, List.getD_cons_zero, List.getD_cons_succ, decide_eq_true_eq, decide_eq_false_iff_not, Bool.not_eq_true', Bool.not_true, Bool.not_false, Bool.and_true, Bool.true_and, Bool.and_false, Bool.false_and, Bool.false_eq_true, if_true, if_false, reduceIte, ite_true, ite_false, true_and, and_true, reduceCtorEq, Int.toNat_zero, Int.toNat_one, Int.cast_ofNat_Int, Int.reduceLT, Int.reduceLE, Int.reduceNeg, Int.reduceToNat, Int.reducePow, Int.reduceMul, Int.reduceAdd, Int.reduceSub, decide_true, decide_false, sp_is_ratio]
  exact h
def sp_holds_ratio : SpD :=
  fun ds R => match ds with
  | [.tup [.int a, .int b], .tup [.int n, .int d]] => (Iv (a, b) ∧ Rt (n, d)) ∧ R (.bl (decide (a * d ≤ n * 1099511627776) && decide (n * 1099511627776 ≤ b * d)))
  | _ => False
set_option maxHeartbeats 0 in
theorem ok_holds_ratio (T : Txt K mg) (D0 : Dfn K mg "holds_ratio" "holds_ratio" s_holds_ratio ["interval", "ratio"] [(["ratio", "interval"], 0, [1, 0])]) (C_check_interval : Cal P w K mg base tabs "check_interval" 3 1 ["interval"] [] sp_check_interval) (C_check_ratio : Cal P w K mg base tabs "check_ratio" 3 1 ["ratio"] [] sp_check_ratio) (C_has_ratio : Cal P w K mg base tabs "has_ratio" 1 2 ["interval", "ratio"] [] sp_has_ratio) : Cal P w K mg base tabs "holds_ratio" 4 2 ["interval", "ratio"] [(["ratio", "interval"], 0, [1, 0])] sp_holds_ratio := by
  refine cal_of D0 sc_holds_ratio fun f cdv A outer s H E p ht hg hk hr => ⟨_, (pdss_cons (pds_expr (pdcC (C_check_interval.cal ht) hg hr (pda_cons (pd_var 0) pda_nil)))
      (pdss_cons (pds_expr (pdcC (C_check_ratio.cal ht) hg hr (pda_cons (pd_var 1) pda_nil)))
      (pdss_one (pds_ret (pdcC (C_has_ratio.cal ht) hg hr (pda_cons (pd_var 0) (pda_cons (pd_var 1) pda_nil))))))), ?_⟩
  intro ds R hl h; unfold sp_holds_ratio at h; split at h
  all_goals (try exact False.elim h)
  all_goals clear hl hg hr hk ht
  rename_i a b n d
  obtain ⟨⟨⟨h1, h2, h3⟩, ⟨k1, k2, k3⟩⟩, h⟩ := h
  simp only [] at h1 h2 h3 k1 k2 k3
  simp (implicitDefEqProofs := false) (maxSteps := 3000000) only [xSeq, xIf, xRet, xRaise, xOf, xB, xBK, xAsg, xTry, xHeard, mD0, mD1, mD2, startD, List.map_cons, List.map_nil, List.length_cons, List.length_nil, List.replicate, List.cons_append, List.nil_append, Nat.reduceAdd, Nat.reduceSub, Nat.zero_add, dSeq, dIfS, dOr, dAnd, dNot, dTst, dOp, dUn, dVar, dC, dB, dBK, dCons, dNil, dTup, dLst, dRet, dRetN, dRetF, dRetO, dBO, dFr, dRepL, dCatL, dRev, dRevL, dSlO, dCatO, cSorted, SpO.sp, dNext, dNever, dAsg, dPar, dPar3, dParO, dIf, dAndV, dOrV, dNotV, dCh, dCt, cLast, cLink, tLast, tLink, dDrop, dFor, dBrk, dCnt, dOwn, dApp, dExt, dFree, gPutO, dIxO, dLend, dLendT, dLcF, gN, gTu, gCn, gNl, gP0, gP1, gII, gIIc, gAdd, gNeg, gIx, gEq, gNe, gIs, gIsNot, gIn, gNotIn, gSl, oNone, oSome, gMt, gIndex, cTuple, cList, cI1, cI2, cInt, cLen, cMax, cMin, cMaxT, cMinT, dAug, cAll, cAny, cRepr, cSqrt, cIsi, tyN, isNon, kb_tt, kb_ii, kb_ib, kb_bi, kb_bb, kb_it, kb_bt, kb_nt, kb_ni, kb_lt, kb_li, kb_ti, kb_si, kb_st, kb_ss, rd, dTru, dRgN, dEnum, gMulT, gDivN, gDivNB, gEqF, dCallV, spOf, atD, ordD, dSq, dZip, dZipM, dZip3, zipD3_map, gShl, dParOO, zipD_map, ivD, dRg1, dRg2, dLc, dYes, dLcGo, dGen, dGenGo, wipeD, boolsOf, intsOf, maxL, minL, noL, noLs, Option.map_some, Option.bind_some, List.all_cons, List.all_nil, List.any_cons, List.any_nil, id_eq, List.set_cons_zero, List.set_cons_succ, List.getElem?_cons_zero, List.getElem?_cons_succ, List.getElem?_nil, List.getD_cons_zero, List.getD_cons_succ, decide_eq_true_eq, decide_eq_false_iff_not, Bool.not_eq_true', Bool.not_true, Bool.not_false, Bool.and_true, Bool.true_and, Bool.and_false, Bool.false_and, Bool.false_eq_true, if_true, if_false, reduceIte, ite_true, ite_false, true_and, and_true, reduceCtorEq, Int.toNat_zero, Int.toNat_one, Int.cast_ofNat_Int, Int.reduceLT, Int.reduceLE, Int.reduceNeg, Int.reduceToNat, Int.reducePow, Int.reduceMul, Int.reduceAdd, Int.reduceSub, decide_true, decide_false, sp_check_interval, sp_check_ratio, sp_has_ratio]
  exact ⟨⟨h1, h2, h3⟩, ⟨k1, k2⟩, ⟨.wide (by omega) (by omega) (by omega) (by omega), .wide (by omega) (by omega) (by omega) (by omega)⟩, h⟩
def sp_hull : SpD :=
  fun ds R => match ds with
  | [.tup [.int a, .int b], .tup [.int c, .int d]] => (Iv (a, b) ∧ Iv (c, d)) ∧ R (.tup [.int (min a c), .int (max b d)])
  | _ => False
set_option maxHeartbeats 0 in
theorem ok_hull (T : Txt K mg) (D0 : Dfn K mg "hull" "hull" s_hull ["one", "other"] [(["other", "one"], 0, [1, 0])]) (C__check_both : Cal P w K mg base tabs "_check_both" 4 2 ["one", "other"] [] sp__check_both) (C_grain_hull : Cal P w K mg base tabs "grain_hull" 1 2 ["one", "other"] [] sp_grain_hull) : Cal P w K mg base tabs "hull" 5 2 ["one", "other"] [(["other", "one"], 0, [1, 0])] sp_hull := by
  refine cal_of D0 sc_hull fun f cdv A outer s H E p ht hg hk hr => ⟨_, (pdss_cons (pds_expr (pdcC (C__check_both.cal ht) hg hr (pda_cons (pd_var 0) (pda_cons (pd_var 1) pda_nil))))
      (pdss_one (pds_ret (pdcC (C_grain_hull.cal ht) hg hr (pda_cons (pd_var 0) (pda_cons (pd_var 1) pda_nil)))))), ?_⟩
  intro ds R hl h; unfold sp_hull at h; split at h
  all_goals (try exact False.elim h)
  all_goals clear hl hg hr hk ht
  simp (implicitDefEqProofs := false) (maxSteps := 3000000) only [xSeq, xIf, xRet, xRaise, xOf, xB, xBK, xAsg, xTry, xHeard, mD0, mD1, mD2, startD, List.map_cons, List.map_nil, List.length_cons, List.length_nil, List.replicate, List.cons_append, List.nil_append, Nat.reduceAdd, Nat.reduceSub, Nat.zero_add, dSeq, dIfS, dOr, dAnd, dNot, dTst, dOp, dUn, dVar, dC, dB, dBK, dCons, dNil, dTup, dLst, dRet, dRetN, dRetF, dRetO, dBO, dFr, dRepL, dCatL, dRev, dRevL, dSlO, dCatO, cSorted, SpO.sp, dNext, dNever, dAsg, dPar, dPar3, dParO, dIf, dAndV, dOrV, dNotV, dCh, dCt, cLast, cLink, tLast, tLink, dDrop, dFor, dBrk, dCnt, dOwn, dApp, dExt, dFree, gPutO, dIxO, dLend, dLendT, dLcF, gN, gTu, gCn, gNl, gP0, gP1, gII, gIIc, gAdd, gNeg, gIx, gEq, gNe, gIs, gIsNot, gIn, gNotIn, gSl, oNone, oSome, gMt, gIndex, cTuple, cList, cI1, cI2, cInt, cLen, cMax, cMin, cMaxT, cMinT, dAug, cAll, cAny, cRepr, cSqrt, cIsi, tyN, isNon, kb_tt, kb_ii, kb_ib, kb_bi, kb_bb, kb_it, kb_bt, kb_nt, kb_ni, kb_lt, kb_li, kb_ti, kb_si, kb_st, kb_ss, rd, dTru, dRgN, dEnum, gMulT, gDivN, gDivNB, gEqF, dCallV, spOf, atD, ordD, dSq, dZip, dZipM, dZip3, zipD3_map, gShl, dParOO, zipD_map, ivD, dRg1, dRg2, dLc, dYes, dLcGo, dGen, dGenGo, wipeD, boolsOf, intsOf, maxL, minL, noL, noLs, Option.map_some, Option.bind_some, List.all_cons, List.all_nil, List.any_cons, List.any_nil, id_eq, List.set_cons_zero, List.set_cons_succ, List.getElem?_cons_zero, List.getElem?_cons_succ, List.getElem?_nil, List.getD_cons_zero, List.getD_cons_succ, decide_eq_true_eq, decide_eq_false_iff_not, Bool.not_eq_true', Bool.not_true, Bool.not_false, Bool.and_true, Bool.true_and, Bool.and_false, Bool.false_and, Bool.false_eq_true, if_true, if_false, reduceIte, ite_true, ite_false, true_and, and_true, reduceCtorEq, Int.toNat_zero, Int.toNat_one, Int.cast_ofNat_Int, Int.reduceLT, Int.reduceLE, Int.reduceNeg, Int.reduceToNat, Int.reducePow, Int.reduceMul, Int.reduceAdd, Int.reduceSub, decide_true, decide_false, sp__check_both, sp_grain_hull]
  exact ⟨h.1, h.2⟩
def sp_meet : SpD :=
  fun ds R => match ds with
  | [.tup [.int a, .int b], .tup [.int c, .int d]] => (Iv (a, b) ∧ Iv (c, d)) ∧ R (if max a c ≤ min b d then .tup [.int (max a c), .int (min b d)] else .non)
  | _ => False
set_option maxHeartbeats 0 in
theorem ok_meet (T : Txt K mg) (D0 : Dfn K mg "meet" "meet" s_meet ["one", "other"] []) (C__check_both : Cal P w K mg base tabs "_check_both" 4 2 ["one", "other"] [] sp__check_both) (C_grain_meet : Cal P w K mg base tabs "grain_meet" 1 2 ["one", "other"] [] sp_grain_meet) : Cal P w K mg base tabs "meet" 5 2 ["one", "other"] [] sp_meet := by
  refine cal_of D0 sc_meet fun f cdv A outer s H E p ht hg hk hr => ⟨_, (pdss_cons (pds_expr (pdcC (C__check_both.cal ht) hg hr (pda_cons (pd_var 0) (pda_cons (pd_var 1) pda_nil))))
      (pdss_one (pds_ret (pdcC (C_grain_meet.cal ht) hg hr (pda_cons (pd_var 0) (pda_cons (pd_var 1) pda_nil)))))), ?_⟩
  intro ds R hl h; unfold sp_meet at h; split at h
  all_goals (try exact False.elim h)
  all_goals clear hl hg hr hk ht
  simp (implicitDefEqProofs := false) (maxSteps := 3000000) only [xSeq, xIf, xRet, xRaise, xOf, xB, xBK, xAsg, xTry, xHeard, mD0, mD1, mD2, startD, List.map_cons, List.map_nil, List.length_cons, List.length_nil, List.replicate, List.cons_append, List.nil_append, Nat.reduceAdd, Nat.reduceSub, Nat.zero_add, dSeq, dIfS, dOr, dAnd, dNot, dTst, dOp, dUn, dVar, dC, dB, dBK, dCons, dNil, dTup, dLst, dRet, dRetN, dRetF, dRetO, dBO, dFr, dRepL, dCatL, dRev, dRevL, dSlO, dCatO, cSorted, SpO.sp, dNext, dNever, dAsg, dPar, dPar3, dParO, dIf, dAndV, dOrV, dNotV, dCh, dCt, cLast, cLink, tLast, tLink, dDrop, dFor, dBrk, dCnt, dOwn, dApp, dExt, dFree, gPutO, dIxO, dLend, dLendT, dLcF, gN, gTu, gCn, gNl, gP0, gP1, gII, gIIc, gAdd, gNeg, gIx, gEq, gNe, gIs, gIsNot, gIn, gNotIn, gSl, oNone, oSome, gMt, gIndex, cTuple, cList, cI1, cI2, cInt, cLen, cMax, cMin, cMaxT, cMinT, dAug, cAll, cAny, cRepr, cSqrt, cIsi, tyN, isNon, kb_tt, kb_ii, kb_ib, kb_bi, kb_bb, kb_it, kb_bt, kb_nt, kb_ni, kb_lt, kb_li, kb_ti, kb_si, kb_st, kb_ss, rd, dTru, dRgN, dEnum, gMulT, gDivN, gDivNB, gEqF, dCallV, spOf, atD, ordD, dSq, dZip, dZipM, dZip3, zipD3_map, gShl, dParOO, zipD_map, ivD, dRg1, dRg2, dLc, dYes, dLcGo, dGen, dGenGo, wipeD, boolsOf, intsOf, maxL, minL, noL, noLs, Option.map_some, Option.bind_some, List.all_cons, List.all_nil, List.any_cons, List.any_nil, id_eq, List.set_cons_zero, List.set_cons_succ, List.getElem?_cons_zero, List.getElem?_cons_succ, List.getElem?_nil, List.getD_cons_zero, List.getD_cons_succ, decide_eq_true_eq, decide_eq_false_iff_not, Bool.not_eq_true', Bool.not_true, Bool.not_false, Bool.and_true, Bool.true_and, Bool.and_false, Bool.false_and, Bool.false_eq_true, if_true, if_false, reduceIte, ite_true, ite_false, true_and, and_true, reduceCtorEq, Int.toNat_zero, Int.toNat_one, Int.cast_ofNat_Int, Int.reduceLT, Int.reduceLE, Int.reduceNeg, Int.reduceToNat, Int.reducePow, Int.reduceMul, Int.reduceAdd, Int.reduceSub, decide_true, decide_false, sp__check_both, sp_grain_meet]
  exact ⟨h.1, h.2⟩
def sp_within : SpD :=
  fun ds R => match ds with
  | [.tup [.int a, .int b], .tup [.int c, .int d]] => (Iv (a, b) ∧ Iv (c, d)) ∧ R (.bl (decide (c ≤ a) && decide (b ≤ d)))
  | _ => False
set_option maxHeartbeats 0 in
theorem ok_within (T : Txt K mg) (D0 : Dfn K mg "within" "within" s_within ["one", "other"] [(["other", "one"], 0, [1, 0])]) (C__check_both : Cal P w K mg base tabs "_check_both" 4 2 ["one", "other"] [] sp__check_both) (C_lies_within : Cal P w K mg base tabs "lies_within" 1 2 ["one", "other"] [] sp_lies_within) : Cal P w K mg base tabs "within" 5 2 ["one", "other"] [(["other", "one"], 0, [1, 0])] sp_within := by
  refine cal_of D0 sc_within fun f cdv A outer s H E p ht hg hk hr => ⟨_, (pdss_cons (pds_expr (pdcC (C__check_both.cal ht) hg hr (pda_cons (pd_var 0) (pda_cons (pd_var 1) pda_nil))))
      (pdss_one (pds_ret (pdcC (C_lies_within.cal ht) hg hr (pda_cons (pd_var 0) (pda_cons (pd_var 1) pda_nil)))))), ?_⟩
  intro ds R hl h; unfold sp_within at h; split at h
  all_goals (try exact False.elim h)
  all_goals clear hl hg hr hk ht
  simp (implicitDefEqProofs := false) (maxSteps := 3000000) only [xSeq, xIf, xRet, xRaise, xOf, xB, xBK, xAsg, xTry, xHeard, mD0, mD1, mD2, startD, List.map_cons, List.map_nil, List.length_cons, List.length_nil, List.replicate, List.cons_append, List.nil_append, Nat.reduceAdd, Nat.reduceSub, Nat.zero_add, dSeq, dIfS, dOr, dAnd, dNot, dTst, dOp, dUn, dVar, dC, dB, dBK, dCons, dNil, dTup, dLst, dRet, dRetN, dRetF, dRetO, dBO, dFr, dRepL, dCatL, dRev, dRevL, dSlO, dCatO, cSorted, SpO.sp, dNext, dNever, dAsg, dPar, dPar3, dParO, dIf, dAndV, dOrV, dNotV, dCh, dCt, cLast, cLink, tLast, tLink, dDrop, dFor, dBrk, dCnt, dOwn, dApp, dExt, dFree, gPutO, dIxO, dLend, dLendT, dLcF, gN, gTu, gCn, gNl, gP0, gP1, gII, gIIc, gAdd, gNeg, gIx, gEq, gNe, gIs, gIsNot, gIn, gNotIn, gSl, oNone, oSome, gMt, gIndex, cTuple, cList, cI1, cI2, cInt, cLen, cMax, cMin, cMaxT, cMinT, dAug, cAll, cAny, cRepr, cSqrt, cIsi, tyN, isNon, kb_tt, kb_ii, kb_ib, kb_bi, kb_bb, kb_it, kb_bt, kb_nt, kb_ni, kb_lt, kb_li, kb_ti, kb_si, kb_st, kb_ss, rd, dTru, dRgN, dEnum, gMulT, gDivN, gDivNB, gEqF, dCallV, spOf, atD, ordD, dSq, dZip, dZipM, dZip3, zipD3_map, gShl, dParOO, zipD_map, ivD, dRg1, dRg2, dLc, dYes, dLcGo, dGen, dGenGo, wipeD, boolsOf, intsOf, maxL, minL, noL, noLs, Option.map_some, Option.bind_some, List.all_cons, List.all_nil, List.any_cons, List.any_nil, id_eq, List.set_cons_zero, List.set_cons_succ, List.getElem?_cons_zero, List.getElem?_cons_succ, List.getElem?_nil, List.getD_cons_zero, List.getD_cons_succ, decide_eq_true_eq, decide_eq_false_iff_not, Bool.not_eq_true', Bool.not_true, Bool.not_false, Bool.and_true, Bool.true_and, Bool.and_false, Bool.false_and, Bool.false_eq_true, if_true, if_false, reduceIte, ite_true, ite_false, true_and, and_true, reduceCtorEq, Int.toNat_zero, Int.toNat_one, Int.cast_ofNat_Int, Int.reduceLT, Int.reduceLE, Int.reduceNeg, Int.reduceToNat, Int.reducePow, Int.reduceMul, Int.reduceAdd, Int.reduceSub, decide_true, decide_false, sp__check_both, sp_lies_within]
  exact ⟨h.1, h.2⟩
def sp_halves : SpD :=
  fun ds R => match ds with
  | [.tup [.int a, .int b]] => Iv (a, b) ∧ R (.tup [ivD (a, (a + b) / 2), ivD ((a + b) / 2, b)])
  | _ => False
set_option maxHeartbeats 0 in
theorem ok_halves (T : Txt K mg) (D0 : Dfn K mg "halves" "halves" s_halves ["interval"] [(["interval"], 0, [0])]) (C_check_interval : Cal P w K mg base tabs "check_interval" 3 1 ["interval"] [] sp_check_interval) (C_middle_of : Cal P w K mg base tabs "middle_of" 1 1 ["interval"] [] sp_middle_of) : Cal P w K mg base tabs "halves" 4 1 ["interval"] [(["interval"], 0, [0])] sp_halves := by
  refine cal_of D0 sc_halves fun f cdv A outer s H E p ht hg hk hr => ⟨_, (pdss_cons (pds_expr (pdcC (C_check_interval.cal ht) hg hr (pda_cons (pd_var 0) pda_nil)))
      (pdss_cons (pds_set (i := 1) sc_halves.nd rfl (Or.inl rfl) (pdcC (C_middle_of.cal ht) hg hr (pda_cons (pd_var 0) pda_nil)))
      (pdss_one (pds_ret (pd_tup (pda_cons (pd_tup (pda_cons (pd_ix (pd_var 0) pd_int) (pda_cons (pd_var 1) pda_nil))) (pda_cons (pd_tup (pda_cons (pd_var 1) (pda_cons (pd_ix (pd_var 0) pd_int) pda_nil))) pda_nil))))))), ?_⟩
  intro ds R hl h; unfold sp_halves at h; split at h
  all_goals (try exact False.elim h)
  all_goals clear hl hg hr hk ht
  simp (implicitDefEqProofs := false) (maxSteps := 3000000) only [xSeq, xIf, xRet, xRaise, xOf, xB, xBK, xAsg, xTry, xHeard, mD0, mD1, mD2, startD, List.map_cons, List.map_nil, List.length_cons, List.length_nil, List.replicate, List.cons_append, List.nil_append, Nat.reduceAdd, Nat.reduceSub, Nat.zero_add, dSeq, dIfS, dOr, dAnd, dNot, dTst, dOp, dUn, dVar, dC, dB, dBK, dCons, dNil, dTup, dLst, dRet, dRetN, dRetF, dRetO, dBO, dFr, dRepL, dCatL, dRev, dRevL, dSlO, dCatO, cSorted, SpO.sp, dNext, dNever, dAsg, dPar, dPar3, dParO, dIf, dAndV, dOrV, dNotV, dCh, dCt, cLast, cLink, tLast, tLink, dDrop, dFor, dBrk, dCnt, dOwn, dApp, dExt, dFree, gPutO, dIxO, dLend, dLendT, dLcF, gN, gTu, gCn, gNl, gP0, gP1, gII, gIIc, gAdd, gNeg, gIx, gEq, gNe, gIs, gIsNot, gIn, gNotIn, gSl, oNone, oSome, gMt, gIndex, cTuple, cList, cI1, cI2, cInt, cLen, cMax, cMin, cMaxT, cMinT, dAug, cAll, cAny, cRepr, cSqrt, cIsi, tyN, isNon, kb_tt, kb_ii, kb_ib, kb_bi, kb_bb, kb_it, kb_bt, kb_nt, kb_ni, kb_lt, kb_li, kb_ti, kb_si, kb_st, kb_ss, rd, dTru, dRgN, dEnum, gMulT, gDivN, gDivNB, gEqF, dCallV, spOf, atD, ordD, dSq, dZip, dZipM, dZip3, zipD3_map, gShl, dParOO, zipD_map, ivD, dRg1, dRg2, dLc, dYes, dLcGo, dGen, dGenGo, wipeD, boolsOf, intsOf, maxL, minL, noL, noLs, Option.map_some, Option.bind_some, List.all_cons, List.all_nil, List.any_cons, List.any_nil, id_eq, List.set_cons_zero, List.set_cons_succ, List.getElem?_cons_zero, List.getElem?_cons_succ, List.getElem?_nil, List.getD_cons_zero, List.getD_cons_succ, decide_eq_true_eq, decide_eq_false_iff_not, Bool.not_eq_true', Bool.not_true, Bool.not_false, Bool.and_true, Bool.true_and, Bool.and_false, Bool.false_and, Bool.false_eq_true, if_true, if_false, reduceIte, ite_true, ite_false, true_and, and_true, reduceCtorEq, Int.toNat_zero, Int.toNat_one, Int.cast_ofNat_Int, Int.reduceLT, Int.reduceLE, Int.reduceNeg, Int.reduceToNat, Int.reducePow, Int.reduceMul, Int.reduceAdd, Int.reduceSub, decide_true, decide_false, sp_check_interval, sp_middle_of]
  exact ⟨h.1, h.2⟩
def sp__law_small_ratio : SpD :=
  fun ds R => match ds with
  | [.pot] => ∀ q, Rw 60 q → R (ivD q)
  | _ => False
set_option maxHeartbeats 0 in
theorem ok__law_small_ratio (T : Txt K mg) (D0 : Dfn K mg "_law_small_ratio" "_law_small_ratio" s__law_small_ratio ["pot"] []) (C__law_draw : Cal P w K mg base tabs "_law_draw" 1 2 ["pot", "room"] [] sp__law_draw) (C__law_ratio : Cal P w K mg base tabs "_law_ratio" 2 2 ["number", "under"] [] sp__law_ratio) : Cal P w K mg base tabs "_law_small_ratio" 3 1 ["pot"] [] sp__law_small_ratio := by
  refine cal_of D0 sc__law_small_ratio fun f cdv A outer s H E p ht hg hk hr => ⟨_, (pdss_cons (pds_set (i := 1) sc__law_small_ratio.nd rfl (Or.inl rfl) (pd_bin opd_sub (pdcC (C__law_draw.cal ht) hg hr (pda_cons (pd_var 0) (pda_cons pd_int pda_nil))) pd_int))
      (pdss_one (pds_ret (pdcC (C__law_ratio.cal ht) hg hr (pda_cons (pd_var 1) (pda_cons (pd_bin opd_add pd_int (pdcC (C__law_draw.cal ht) hg hr (pda_cons (pd_var 0) (pda_cons pd_int pda_nil)))) pda_nil)))))), ?_⟩
  intro ds R hl h; unfold sp__law_small_ratio at h; split at h
  all_goals (try exact False.elim h)
  all_goals clear hl hg hr hk ht
  simp (implicitDefEqProofs := false) (maxSteps := 3000000) only [xSeq, xIf, xRet, xRaise, xOf, xB, xBK, xAsg, xTry, xHeard, mD0, mD1, mD2, startD, List.map_cons, List.map_nil, List.length_cons, List.length_nil, List.replicate, List.cons_append, List.nil_append, Nat.reduceAdd, Nat.reduceSub, Nat.zero_add, dSeq, dIfS, dOr, dAnd, dNot, dTst, dOp, dUn, dVar, dC, dB, dBK, dCons, dNil, dTup, dLst, dRet, dRetN, dRetF, dRetO, dBO, dFr, dRepL, dCatL, dRev, dRevL, dSlO, dCatO, cSorted, SpO.sp, dNext, dNever, dAsg, dPar, dPar3, dParO, dIf, dAndV, dOrV, dNotV, dCh, dCt, cLast, cLink, tLast, tLink, dDrop, dFor, dBrk, dCnt, dOwn, dApp, dExt, dFree, gPutO, dIxO, dLend, dLendT, dLcF, gN, gTu, gCn, gNl, gP0, gP1, gII, gIIc, gAdd, gNeg, gIx, gEq, gNe, gIs, gIsNot, gIn, gNotIn, gSl, oNone, oSome, gMt, gIndex, cTuple, cList, cI1, cI2, cInt, cLen, cMax, cMin, cMaxT, cMinT, dAug, cAll, cAny, cRepr, cSqrt, cIsi, tyN, isNon, kb_tt, kb_ii, kb_ib, kb_bi, kb_bb, kb_it, kb_bt, kb_nt, kb_ni, kb_lt, kb_li, kb_ti, kb_si, kb_st, kb_ss, rd, dTru, dRgN, dEnum, gMulT, gDivN, gDivNB, gEqF, dCallV, spOf, atD, ordD, dSq, dZip, dZipM, dZip3, zipD3_map, gShl, dParOO, zipD_map, ivD, dRg1, dRg2, dLc, dYes, dLcGo, dGen, dGenGo, wipeD, boolsOf, intsOf, maxL, minL, noL, noLs, Option.map_some, Option.bind_some, List.all_cons, List.all_nil, List.any_cons, List.any_nil, id_eq, List.set_cons_zero, List.set_cons_succ, List.getElem?_cons_zero, List.getElem?_cons_succ, List.getElem?_nil, List.getD_cons_zero, List.getD_cons_succ, decide_eq_true_eq, decide_eq_false_iff_not, Bool.not_eq_true', Bool.not_true, Bool.not_false, Bool.and_true, Bool.true_and, Bool.and_false, Bool.false_and, Bool.false_eq_true, if_true, if_false, reduceIte, ite_true, ite_false, true_and, and_true, reduceCtorEq, Int.toNat_zero, Int.toNat_one, Int.cast_ofNat_Int, Int.reduceLT, Int.reduceLE, Int.reduceNeg, Int.reduceToNat, Int.reducePow, Int.reduceMul, Int.reduceAdd, Int.reduceSub, decide_true, decide_false, sp__law_draw, sp__law_ratio]
  intro n n0 n1 d d0 d1
  refine ⟨⟨by omega, by omega, by omega⟩, fun q hq e g1 g2 => h q ⟨hq, by omega, by omega, by omega⟩⟩
def sp_grain_around : SpX :=
  fun ds R Rx => match ds with
  | [.tup [.int n, .int d]] => (0 < d ∧ d < 1606938044258990275541962092341162602522202993782792835301376) ∧ outX (n * 1099511627776 / d, -(-n * 1099511627776 / d)) R Rx
  | _ => False
set_option maxHeartbeats 0 in
theorem ok_grain_around (T : Txt K mg) (D0 : Dfn K mg "grain_around" "grain_around" s_grain_around ["ratio"] []) (C_in_bounds : CalX P w K mg base tabs "in_bounds" 3 2 ["low", "high"] [] sp_in_bounds) (C_ceiling_of : Cal P w K mg base tabs "ceiling_of" 1 2 ["ratio", "times"] [] sp_ceiling_of) (C_floor_of : Cal P w K mg base tabs "floor_of" 1 2 ["ratio", "times"] [] sp_floor_of) : CalX P w K mg base tabs "grain_around" 4 1 ["ratio"] [] sp_grain_around := by
  refine calx_of D0 sc_grain_around fun f cdv A outer s H E p ht hg hk hr => ⟨_, (pdsxs_one (pdsx_ret (pdxC (C_in_bounds.cal ht) (takes_of rfl rfl rfl rfl) hg hr (pda_cons (pdcC (C_floor_of.cal ht) hg hr (pda_cons (pd_var 0) (pda_cons (pd_gint rfl T.m_ONE) pda_nil))) (pda_cons (pdcC (C_ceiling_of.cal ht) hg hr (pda_cons (pd_var 0) (pda_cons (pd_gint rfl T.m_ONE) pda_nil))) pda_nil))))), ?_⟩
  intro ds R Rx hl h; unfold sp_grain_around at h; split at h
  all_goals (try exact False.elim h)
  all_goals clear hl hg hr hk ht
  rename_i n d
  obtain ⟨⟨h1, h2⟩, h⟩ := h
  simp (implicitDefEqProofs := false) (maxSteps := 3000000) only [xSeq, xIf, xRet, xRaise, xOf, xB, xBK, xAsg, xTry, xHeard, mD0, mD1, mD2, startD, List.map_cons, List.map_nil, List.length_cons, List.length_nil, List.replicate, List.cons_append, List.nil_append, Nat.reduceAdd, Nat.reduceSub, Nat.zero_add, dSeq, dIfS, dOr, dAnd, dNot, dTst, dOp, dUn, dVar, dC, dB, dBK, dCons, dNil, dTup, dLst, dRet, dRetN, dRetF, dRetO, dBO, dFr, dRepL, dCatL, dRev, dRevL, dSlO, dCatO, cSorted, SpO.sp, dNext, dNever, dAsg, dPar, dPar3, dParO, dIf, dAndV, dOrV, dNotV, dCh, dCt, cLast, cLink, tLast, tLink, dDrop, dFor, dBrk, dCnt, dOwn, dApp, dExt, dFree, gPutO, dIxO, dLend, dLendT, dLcF, gN, gTu, gCn, gNl, gP0, gP1, gII, gIIc, gAdd, gNeg, gIx, gEq, gNe, gIs, gIsNot, gIn, gNotIn, gSl, oNone, oSome, gMt, gIndex, cTuple, cList, cI1, cI2, cInt, cLen, cMax, cMin, cMaxT, cMinT, dAug, cAll, cAny, cRepr, cSqrt, cIsi, tyN, isNon, kb_tt, kb_ii, kb_ib, kb_bi, kb_bb, kb_it, kb_bt, kb_nt, kb_ni, kb_lt, kb_li, kb_ti, kb_si, kb_st, kb_ss, rd, dTru, dRgN, dEnum, gMulT, gDivN, gDivNB, gEqF, dCallV, spOf, atD, ordD, dSq, dZip, dZipM, dZip3, zipD3_map, gShl, dParOO, zipD_map, ivD, dRg1, dRg2, dLc, dYes, dLcGo, dGen, dGenGo, wipeD, boolsOf, intsOf, maxL, minL, noL, noLs, Option.map_some, Option.bind_some, List.all_cons, List.all_nil, List.any_cons, List.any_nil, id_eq, List.set_cons_zero, List.set_cons_succ, List.getElem?_cons_zero, List.getElem?_cons_succ, List.getElem?_nil, List.getD_cons_zero, List.getD_cons_succ, decide_eq_true_eq, decide_eq_false_iff_not, Bool.not_eq_true', Bool.not_true, Bool.not_false, Bool.and_true, Bool.true_and, Bool.and_false, Bool.false_and, Bool.false_eq_true, if_true, if_false, reduceIte, ite_true, ite_false, true_and, and_true, reduceCtorEq, Int.toNat_zero, Int.toNat_one, Int.cast_ofNat_Int, Int.reduceLT, Int.reduceLE, Int.reduceNeg, Int.reduceToNat, Int.reducePow, Int.reduceMul, Int.reduceAdd, Int.reduceSub, decide_true, decide_false, sp_in_bounds, sp_ceiling_of, sp_floor_of]
  exact ⟨⟨.right (by omega) (by omega), .of h1 h2⟩, ⟨.right (by omega) (by omega), .of h1 h2⟩, h⟩
def sp_grain_plus : SpX :=
  fun ds R Rx => match ds with
  | [.tup [.int a, .int b], .tup [.int c, .int d]] => outX (pI (a, b) (c, d)) R Rx
  | _ => False
set_option maxHeartbeats 0 in
theorem ok_grain_plus (T : Txt K mg) (D0 : Dfn K mg "grain_plus" "grain_plus" s_grain_plus ["one", "other"] []) (C_in_bounds : CalX P w K mg base tabs "in_bounds" 3 2 ["low", "high"] [] sp_in_bounds) : CalX P w K mg base tabs "grain_plus" 4 2 ["one", "other"] [] sp_grain_plus := by
  refine calx_of D0 sc_grain_plus fun f cdv A outer s H E p ht hg hk hr => ⟨_, (pdsxs_one (pdsx_ret (pdxC (C_in_bounds.cal ht) (takes_of rfl rfl rfl rfl) hg hr (pda_cons (pd_bin opd_add (pd_ix (pd_var 0) pd_int) (pd_ix (pd_var 1) pd_int)) (pda_cons (pd_bin opd_add (pd_ix (pd_var 0) pd_int) (pd_ix (pd_var 1) pd_int)) pda_nil))))), ?_⟩
  intro ds R Rx hl h; unfold sp_grain_plus at h; split at h
  all_goals (try exact False.elim h)
  all_goals clear hl hg hr hk ht
  simp (implicitDefEqProofs := false) (maxSteps := 3000000) only [xSeq, xIf, xRet, xRaise, xOf, xB, xBK, xAsg, xTry, xHeard, mD0, mD1, mD2, startD, List.map_cons, List.map_nil, List.length_cons, List.length_nil, List.replicate, List.cons_append, List.nil_append, Nat.reduceAdd, Nat.reduceSub, Nat.zero_add, dSeq, dIfS, dOr, dAnd, dNot, dTst, dOp, dUn, dVar, dC, dB, dBK, dCons, dNil, dTup, dLst, dRet, dRetN, dRetF, dRetO, dBO, dFr, dRepL, dCatL, dRev, dRevL, dSlO, dCatO, cSorted, SpO.sp, dNext, dNever, dAsg, dPar, dPar3, dParO, dIf, dAndV, dOrV, dNotV, dCh, dCt, cLast, cLink, tLast, tLink, dDrop, dFor, dBrk, dCnt, dOwn, dApp, dExt, dFree, gPutO, dIxO, dLend, dLendT, dLcF, gN, gTu, gCn, gNl, gP0, gP1, gII, gIIc, gAdd, gNeg, gIx, gEq, gNe, gIs, gIsNot, gIn, gNotIn, gSl, oNone, oSome, gMt, gIndex, cTuple, cList, cI1, cI2, cInt, cLen, cMax, cMin, cMaxT, cMinT, dAug, cAll, cAny, cRepr, cSqrt, cIsi, tyN, isNon, kb_tt, kb_ii, kb_ib, kb_bi, kb_bb, kb_it, kb_bt, kb_nt, kb_ni, kb_lt, kb_li, kb_ti, kb_si, kb_st, kb_ss, rd, dTru, dRgN, dEnum, gMulT, gDivN, gDivNB, gEqF, dCallV, spOf, atD, ordD, dSq, dZip, dZipM, dZip3, zipD3_map, gShl, dParOO, zipD_map, ivD, dRg1, dRg2, dLc, dYes, dLcGo, dGen, dGenGo, wipeD, boolsOf, intsOf, maxL, minL, noL, noLs, Option.map_some, Option.bind_some, List.all_cons, List.all_nil, List.any_cons, List.any_nil, id_eq, List.set_cons_zero, List.set_cons_succ, List.getElem?_cons_zero, List.getElem?_cons_succ, List.getElem?_nil, List.getD_cons_zero, List.getD_cons_succ, decide_eq_true_eq, decide_eq_false_iff_not, Bool.not_eq_true', Bool.not_true, Bool.not_false, Bool.and_true, Bool.true_and, Bool.and_false, Bool.false_and, Bool.false_eq_true, if_true, if_false, reduceIte, ite_true, ite_false, true_and, and_true, reduceCtorEq, Int.toNat_zero, Int.toNat_one, Int.cast_ofNat_Int, Int.reduceLT, Int.reduceLE, Int.reduceNeg, Int.reduceToNat, Int.reducePow, Int.reduceMul, Int.reduceAdd, Int.reduceSub, decide_true, decide_false, sp_in_bounds]
  exact h
def sp_grain_minus : SpX :=
  fun ds R Rx => match ds with
  | [.tup [.int a, .int b], .tup [.int c, .int d]] => outX (mI (a, b) (c, d)) R Rx
  | _ => False
set_option maxHeartbeats 0 in
theorem ok_grain_minus (T : Txt K mg) (D0 : Dfn K mg "grain_minus" "grain_minus" s_grain_minus ["one", "other"] []) (C_in_bounds : CalX P w K mg base tabs "in_bounds" 3 2 ["low", "high"] [] sp_in_bounds) : CalX P w K mg base tabs "grain_minus" 4 2 ["one", "other"] [] sp_grain_minus := by
  refine calx_of D0 sc_grain_minus fun f cdv A outer s H E p ht hg hk hr => ⟨_, (pdsxs_one (pdsx_ret (pdxC (C_in_bounds.cal ht) (takes_of rfl rfl rfl rfl) hg hr (pda_cons (pd_bin opd_sub (pd_ix (pd_var 0) pd_int) (pd_ix (pd_var 1) pd_int)) (pda_cons (pd_bin opd_sub (pd_ix (pd_var 0) pd_int) (pd_ix (pd_var 1) pd_int)) pda_nil))))), ?_⟩
  intro ds R Rx hl h; unfold sp_grain_minus at h; split at h
  all_goals (try exact False.elim h)
  all_goals clear hl hg hr hk ht
  simp (implicitDefEqProofs := false) (maxSteps := 3000000) only [xSeq, xIf, xRet, xRaise, xOf, xB, xBK, xAsg, xTry, xHeard, mD0, mD1, mD2, startD, List.map_cons, List.map_nil, List.length_cons, List.length_nil, List.replicate, List.cons_append, List.nil_append, Nat.reduceAdd, Nat.reduceSub, Nat.zero_add, dSeq, dIfS, dOr, dAnd, dNot, dTst, dOp, dUn, dVar, dC, dB, dBK, dCons, dNil, dTup, dLst, dRet, dRetN, dRetF, dRetO, dBO, dFr, dRepL, dCatL, dRev, dRevL, dSlO, dCatO, cSorted, SpO.sp, dNext, dNever, dAsg, dPar, dPar3, dParO, dIf, dAndV, dOrV, dNotV, dCh, dCt, cLast, cLink, tLast, tLink, dDrop, dFor, dBrk, dCnt, dOwn, dApp, dExt, dFree, gPutO, dIxO, dLend, dLendT, dLcF, gN, gTu, gCn, gNl, gP0, gP1, gII, gIIc, gAdd, gNeg, gIx, gEq, gNe, gIs, gIsNot, gIn, gNotIn, gSl, oNone, oSome, gMt, gIndex, cTuple, cList, cI1, cI2, cInt, cLen, cMax, cMin, cMaxT, cMinT, dAug, cAll, cAny, cRepr, cSqrt, cIsi, tyN, isNon, kb_tt, kb_ii, kb_ib, kb_bi, kb_bb, kb_it, kb_bt, kb_nt, kb_ni, kb_lt, kb_li, kb_ti, kb_si, kb_st, kb_ss, rd, dTru, dRgN, dEnum, gMulT, gDivN, gDivNB, gEqF, dCallV, spOf, atD, ordD, dSq, dZip, dZipM, dZip3, zipD3_map, gShl, dParOO, zipD_map, ivD, dRg1, dRg2, dLc, dYes, dLcGo, dGen, dGenGo, wipeD, boolsOf, intsOf, maxL, minL, noL, noLs, Option.map_some, Option.bind_some, List.all_cons, List.all_nil, List.any_cons, List.any_nil, id_eq, List.set_cons_zero, List.set_cons_succ, List.getElem?_cons_zero, List.getElem?_cons_succ, List.getElem?_nil, List.getD_cons_zero, List.getD_cons_succ, decide_eq_true_eq, decide_eq_false_iff_not, Bool.not_eq_true', Bool.not_true, Bool.not_false, Bool.and_true, Bool.true_and, Bool.and_false, Bool.false_and, Bool.false_eq_true, if_true, if_false, reduceIte, ite_true, ite_false, true_and, and_true, reduceCtorEq, Int.toNat_zero, Int.toNat_one, Int.cast_ofNat_Int, Int.reduceLT, Int.reduceLE, Int.reduceNeg, Int.reduceToNat, Int.reducePow, Int.reduceMul, Int.reduceAdd, Int.reduceSub, decide_true, decide_false, sp_in_bounds]
  exact h
def sp_grain_overpos : SpX :=
  fun ds R Rx => match ds with
  | [.tup [.int a, .int b], .tup [.int c, .int d]] => (0 < c ∧ c ≤ d ∧ d ≤ 1180591620717411303424) ∧ outX (oP (a, b) (c, d)) R Rx
  | _ => False
set_option maxHeartbeats 0 in
theorem ok_grain_overpos (T : Txt K mg) (D0 : Dfn K mg "grain_over" "grain_over" s_grain_over ["one", "other"] []) (C_in_bounds : CalX P w K mg base tabs "in_bounds" 3 2 ["low", "high"] [] sp_in_bounds) : CalX P w K mg base tabs "grain_over" 4 2 ["one", "other"] [] sp_grain_overpos := by
  refine calx_of D0 sc_grain_over fun f cdv A outer s H E p ht hg hk hr => ⟨_, (pdsxs_cons (pdsx_if (pdt_cmp opd_lt (pd_ix (pd_var 1) pd_int) pd_int) (pdsxs_one (pdsx_of pds_never)) pdsxs_nil)
      (pdsxs_cons (pdsx_of (pds_asg (pd_var 0) (pdg_tup (n := 2) rfl (pdgs_cons (pdg_name (i := 2) sc_grain_over.nd rfl (Or.inl rfl)) (pdgs_cons (pdg_name (i := 3) sc_grain_over.nd rfl (Or.inl rfl)) pdgs_nil)))))
      (pdsxs_cons (pdsx_of (pds_asg (pd_var 1) (pdg_tup (n := 2) rfl (pdgs_cons (pdg_name (i := 4) sc_grain_over.nd rfl (Or.inl rfl)) (pdgs_cons (pdg_name (i := 5) sc_grain_over.nd rfl (Or.inl rfl)) pdgs_nil)))))
      (pdsxs_cons (pdsx_of (pds_set (i := 6) sc_grain_over.nd rfl (Or.inl rfl) (pd_ifx (pdt_cmp opd_ge (pd_var 2) pd_int) (pd_var 5) (pd_var 4))))
      (pdsxs_cons (pdsx_of (pds_set (i := 7) sc_grain_over.nd rfl (Or.inl rfl) (pd_ifx (pdt_cmp opd_ge (pd_var 3) pd_int) (pd_var 4) (pd_var 5))))
      (pdsxs_one (pdsx_ret (pdxC (C_in_bounds.cal ht) (takes_of rfl rfl rfl rfl) hg hr (pda_cons (pd_bin opd_div (pd_bin opd_mul (pd_var 2) (pd_gint rfl T.m_ONE)) (pd_var 6)) (pda_cons (pd_un und_neg (pd_bin opd_div (pd_bin opd_mul (pd_un und_neg (pd_var 3)) (pd_gint rfl T.m_ONE)) (pd_var 7))) pda_nil)))))))))), ?_⟩
  intro ds R Rx hl h; unfold sp_grain_overpos at h; split at h
  all_goals (try exact False.elim h)
  all_goals clear hl hg hr hk ht
  rename_i a b c d
  obtain ⟨⟨h1, h2, h3⟩, h⟩ := h
  simp (implicitDefEqProofs := false) (maxSteps := 3000000) only [xSeq, xIf, xRet, xRaise, xOf, xB, xBK, xAsg, xTry, xHeard, mD0, mD1, mD2, startD, List.map_cons, List.map_nil, List.length_cons, List.length_nil, List.replicate, List.cons_append, List.nil_append, Nat.reduceAdd, Nat.reduceSub, Nat.zero_add, dSeq, dIfS, dOr, dAnd, dNot, dTst, dOp, dUn, dVar, dC, dB, dBK, dCons, dNil, dTup, dLst, dRet, dRetN, dRetF, dRetO, dBO, dFr, dRepL, dCatL, dRev, dRevL, dSlO, dCatO, cSorted, SpO.sp, dNext, dNever, dAsg, dPar, dPar3, dParO, dIf, dAndV, dOrV, dNotV, dCh, dCt, cLast, cLink, tLast, tLink, dDrop, dFor, dBrk, dCnt, dOwn, dApp, dExt, dFree, gPutO, dIxO, dLend, dLendT, dLcF, gN, gTu, gCn, gNl, gP0, gP1, gII, gIIc, gAdd, gNeg, gIx, gEq, gNe, gIs, gIsNot, gIn, gNotIn, gSl, oNone, oSome, gMt, gIndex, cTuple, cList, cI1, cI2, cInt, cLen, cMax, cMin, cMaxT, cMinT, dAug, cAll, cAny, cRepr, cSqrt, cIsi, tyN, isNon, kb_tt, kb_ii, kb_ib, kb_bi, kb_bb, kb_it, kb_bt, kb_nt, kb_ni, kb_lt, kb_li, kb_ti, kb_si, kb_st, kb_ss, rd, dTru, dRgN, dEnum, gMulT, gDivN, gDivNB, gEqF, dCallV, spOf, atD, ordD, dSq, dZip, dZipM, dZip3, zipD3_map, gShl, dParOO, zipD_map, ivD, dRg1, dRg2, dLc, dYes, dLcGo, dGen, dGenGo, wipeD, boolsOf, intsOf, maxL, minL, noL, noLs, Option.map_some, Option.bind_some, List.all_cons, List.all_nil, List.any_cons, List.any_nil, id_eq, List.set_cons_zero, List.set_cons_succ, List.getElem?_cons_zero, List.getElem?_cons_succ, List.getElem?_nil, List.getD_cons_zero, List.getD_cons_succ, decide_eq_true_eq, decide_eq_false_iff_not, Bool.not_eq_true', Bool.not_true, Bool.not_false, Bool.and_true, Bool.true_and, Bool.and_false, Bool.false_and, Bool.false_eq_true, if_true, if_false, reduceIte, ite_true, ite_false, true_and, and_true, reduceCtorEq, Int.toNat_zero, Int.toNat_one, Int.cast_ofNat_Int, Int.reduceLT, Int.reduceLE, Int.reduceNeg, Int.reduceToNat, Int.reducePow, Int.reduceMul, Int.reduceAdd, Int.reduceSub, decide_true, decide_false, sp_in_bounds]
  rw [if_neg (by omega)]
  unfold oP at h
  simp only [] at h
  by_cases e1 : 0 ≤ a
  · by_cases e2 : 0 ≤ b
    · simp only [if_pos e1, if_pos e2] at h ⊢
      exact ⟨.right (by omega) (by omega), .of (by omega) (by omega), .right (by omega) (by omega), .of (by omega) (by omega), h⟩
    · simp only [if_pos e1, if_neg e2] at h ⊢
      exact ⟨.right (by omega) (by omega), .of (by omega) (by omega), .right (by omega) (by omega), .of (by omega) (by omega), h⟩
  · by_cases e2 : 0 ≤ b
    · simp only [if_neg e1, if_pos e2] at h ⊢
      exact ⟨.right (by omega) (by omega), .of (by omega) (by omega), .right (by omega) (by omega), .of (by omega) (by omega), h⟩
    · simp only [if_neg e1, if_neg e2] at h ⊢
      exact ⟨.right (by omega) (by omega), .of (by omega) (by omega), .right (by omega) (by omega), .of (by omega) (by omega), h⟩
def sp_grain_over : SpX :=
  fun ds R Rx => match ds with
  | [.tup [.int a, .int b], .tup [.int c, .int d]] => ((0 < c ∨ d < 0) ∧ Iv (c, d)) ∧ outX (oI (a, b) (c, d)) R Rx
  | _ => False
set_option maxHeartbeats 0 in
theorem ok_grain_over (T : Txt K mg) (D0 : Dfn K mg "grain_over" "grain_over" s_grain_over ["one", "other"] []) (C_grain_over : CalX P w K mg base tabs "grain_over" 4 2 ["one", "other"] [] sp_grain_overpos) (C_in_bounds : CalX P w K mg base tabs "in_bounds" 3 2 ["low", "high"] [] sp_in_bounds) : CalX P w K mg base tabs "grain_over" 5 2 ["one", "other"] [] sp_grain_over := by
  refine calx_of D0 sc_grain_over fun f cdv A outer s H E p ht hg hk hr => ⟨_, (pdsxs_cons (pdsx_if (pdt_cmp opd_lt (pd_ix (pd_var 1) pd_int) pd_int) (pdsxs_one (pdsx_ret (pdxC (C_grain_over.cal ht) (takes_of rfl rfl rfl rfl) hg hr (pda_cons (pd_tup (pda_cons (pd_un und_neg (pd_ix (pd_var 0) pd_int)) (pda_cons (pd_un und_neg (pd_ix (pd_var 0) pd_int)) pda_nil))) (pda_cons (pd_tup (pda_cons (pd_un und_neg (pd_ix (pd_var 1) pd_int)) (pda_cons (pd_un und_neg (pd_ix (pd_var 1) pd_int)) pda_nil))) pda_nil))))) pdsxs_nil)
      (pdsxs_cons (pdsx_of (pds_asg (pd_var 0) (pdg_tup (n := 2) rfl (pdgs_cons (pdg_name (i := 2) sc_grain_over.nd rfl (Or.inl rfl)) (pdgs_cons (pdg_name (i := 3) sc_grain_over.nd rfl (Or.inl rfl)) pdgs_nil)))))
      (pdsxs_cons (pdsx_of (pds_asg (pd_var 1) (pdg_tup (n := 2) rfl (pdgs_cons (pdg_name (i := 4) sc_grain_over.nd rfl (Or.inl rfl)) (pdgs_cons (pdg_name (i := 5) sc_grain_over.nd rfl (Or.inl rfl)) pdgs_nil)))))
      (pdsxs_cons (pdsx_of (pds_set (i := 6) sc_grain_over.nd rfl (Or.inl rfl) (pd_ifx (pdt_cmp opd_ge (pd_var 2) pd_int) (pd_var 5) (pd_var 4))))
      (pdsxs_cons (pdsx_of (pds_set (i := 7) sc_grain_over.nd rfl (Or.inl rfl) (pd_ifx (pdt_cmp opd_ge (pd_var 3) pd_int) (pd_var 4) (pd_var 5))))
      (pdsxs_one (pdsx_ret (pdxC (C_in_bounds.cal ht) (takes_of rfl rfl rfl rfl) hg hr (pda_cons (pd_bin opd_div (pd_bin opd_mul (pd_var 2) (pd_gint rfl T.m_ONE)) (pd_var 6)) (pda_cons (pd_un und_neg (pd_bin opd_div (pd_bin opd_mul (pd_un und_neg (pd_var 3)) (pd_gint rfl T.m_ONE)) (pd_var 7))) pda_nil)))))))))), ?_⟩
  intro ds R Rx hl h; unfold sp_grain_over at h; split at h
  all_goals (try exact False.elim h)
  all_goals clear hl hg hr hk ht
  rename_i a b c d
  obtain ⟨⟨h1, ⟨k1, k2, k3⟩⟩, h⟩ := h
  simp only [] at k1 k2 k3
  unfold oI at h
  simp only [] at h
  simp (implicitDefEqProofs := false) (maxSteps := 3000000) only [xSeq, xIf, xRet, xRaise, xOf, xB, xBK, xAsg, xTry, xHeard, mD0, mD1, mD2, startD, List.map_cons, List.map_nil, List.length_cons, List.length_nil, List.replicate, List.cons_append, List.nil_append, Nat.reduceAdd, Nat.reduceSub, Nat.zero_add, dSeq, dIfS, dOr, dAnd, dNot, dTst, dOp, dUn, dVar, dC, dB, dBK, dCons, dNil, dTup, dLst, dRet, dRetN, dRetF, dRetO, dBO, dFr, dRepL, dCatL, dRev, dRevL, dSlO, dCatO, cSorted, SpO.sp, dNext, dNever, dAsg, dPar, dPar3, dParO, dIf, dAndV, dOrV, dNotV, dCh, dCt, cLast, cLink, tLast, tLink, dDrop, dFor, dBrk, dCnt, dOwn, dApp, dExt, dFree, gPutO, dIxO, dLend, dLendT, dLcF, gN, gTu, gCn, gNl, gP0, gP1, gII, gIIc, gAdd, gNeg, gIx, gEq, gNe, gIs, gIsNot, gIn, gNotIn, gSl, oNone, oSome, gMt, gIndex, cTuple, cList, cI1, cI2, cInt, cLen, cMax, cMin, cMaxT, cMinT, dAug, cAll, cAny, cRepr, cSqrt, cIsi, tyN, isNon, kb_tt, kb_ii, kb_ib, kb_bi, kb_bb, kb_it, kb_bt, kb_nt, kb_ni, kb_lt, kb_li, kb_ti, kb_si, kb_st, kb_ss, rd, dTru, dRgN, dEnum, gMulT, gDivN, gDivNB, gEqF, dCallV, spOf, atD, ordD, dSq, dZip, dZipM, dZip3, zipD3_map, gShl, dParOO, zipD_map, ivD, dRg1, dRg2, dLc, dYes, dLcGo, dGen, dGenGo, wipeD, boolsOf, intsOf, maxL, minL, noL, noLs, Option.map_some, Option.bind_some, List.all_cons, List.all_nil, List.any_cons, List.any_nil, id_eq, List.set_cons_zero, List.set_cons_succ, List.getElem?_cons_zero, List.getElem?_cons_succ, List.getElem?_nil, List.getD_cons_zero, List.getD_cons_succ, decide_eq_true_eq, decide_eq_false_iff_not, Bool.not_eq_true', Bool.not_true, Bool.not_false, Bool.and_true, Bool.true_and, Bool.and_false, Bool.false_and, Bool.false_eq_true, if_true, if_false, reduceIte, ite_true, ite_false, true_and, and_true, reduceCtorEq, Int.toNat_zero, Int.toNat_one, Int.cast_ofNat_Int, Int.reduceLT, Int.reduceLE, Int.reduceNeg, Int.reduceToNat, Int.reducePow, Int.reduceMul, Int.reduceAdd, Int.reduceSub, decide_true, decide_false, sp_grain_overpos, sp_in_bounds]
  by_cases e : d < 0
  · simp only [if_pos e] at h ⊢
    exact ⟨⟨by omega, by omega, by omega⟩, h⟩
  · simp only [if_neg e] at h ⊢
    have hc : 0 < c := by omega
    unfold oP at h
    simp only [] at h
    by_cases e1 : 0 ≤ a
    · by_cases e2 : 0 ≤ b
      · simp only [if_pos e1, if_pos e2] at h ⊢
        exact ⟨.right (by omega) (by omega), .of (by omega) (by omega), .right (by omega) (by omega), .of (by omega) (by omega), h⟩
      · simp only [if_pos e1, if_neg e2] at h ⊢
        exact ⟨.right (by omega) (by omega), .of (by omega) (by omega), .right (by omega) (by omega), .of (by omega) (by omega), h⟩
    · by_cases e2 : 0 ≤ b
      · simp only [if_neg e1, if_pos e2] at h ⊢
        exact ⟨.right (by omega) (by omega), .of (by omega) (by omega), .right (by omega) (by omega), .of (by omega) (by omega), h⟩
      · simp only [if_neg e1, if_neg e2] at h ⊢
        exact ⟨.right (by omega) (by omega), .of (by omega) (by omega), .right (by omega) (by omega), .of (by omega) (by omega), h⟩
def sp_integer_power : SpD :=
  fun ds R => match ds with
  | [.int b, .int m] => (Big 71 b ∧ 0 ≤ m ∧ m ≤ 41) ∧ R (.int (b ^ m.toNat))
  | _ => False
set_option maxHeartbeats 0 in
theorem ok_integer_power (T : Txt K mg) (D0 : Dfn K mg "integer_power" "integer_power" s_integer_power ["base", "many"] [])  : Cal P w K mg base tabs "integer_power" 1 2 ["base", "many"] [] sp_integer_power := by
  refine cal_of D0 sc_integer_power fun f cdv A outer s H E p ht hg hk hr => ⟨_, (pdss_cons (pds_set (i := 2) sc_integer_power.nd rfl (Or.inl rfl) pd_int)
      (pdss_cons (pds_for rfl PassesOwn.never (pdi_rg1 T.b_range (pda_cons (pd_var 1) pda_nil)) (pdg_name (i := 3) sc_integer_power.nd rfl (Or.inl rfl)) (pdss_one (pds_set (i := 2) sc_integer_power.nd rfl (Or.inl rfl) (pd_bin opd_mul (pd_var 2) (pd_var 0)))))
      (pdss_one (pds_ret (pd_var 2))))), ?_⟩
  intro ds R hl h; unfold sp_integer_power at h; split at h
  all_goals (try exact False.elim h)
  all_goals clear hl hg hr hk ht
  rename_i b m
  obtain ⟨⟨h1, h3, h4⟩, h⟩ := h
  simp (implicitDefEqProofs := false) (maxSteps := 3000000) only [xSeq, xIf, xRet, xRaise, xOf, xB, xBK, xAsg, xTry, xHeard, mD0, mD1, mD2, startD, List.map_cons, List.map_nil, List.length_cons, List.length_nil, List.replicate, List.cons_append, List.nil_append, Nat.reduceAdd, Nat.reduceSub, Nat.zero_add, dSeq, dIfS, dOr, dAnd, dNot, dTst, dOp, dUn, dVar, dC, dB, dBK, dCons, dNil, dTup, dLst, dRet, dRetN, dRetF, dRetO, dBO, dFr, dRepL, dCatL, dRev, dRevL, dSlO, dCatO, cSorted, SpO.sp, dNext, dNever, dAsg, dPar, dPar3, dParO, dIf, dAndV, dOrV, dNotV, dCh, dCt, cLast, cLink, tLast, tLink, dDrop, dFor, dBrk, dCnt, dOwn, dApp, dExt, dFree, gPutO, dIxO, dLend, dLendT, dLcF, gN, gTu, gCn, gNl, gP0, gP1, gII, gIIc, gAdd, gNeg, gIx, gEq, gNe, gIs, gIsNot, gIn, gNotIn, gSl, oNone, oSome, gMt, gIndex, cTuple, cList, cI1, cI2, cInt, cLen, cMax, cMin, cMaxT, cMinT, dAug, cAll, cAny, cRepr, cSqrt, cIsi, tyN, isNon, kb_tt, kb_ii, kb_ib, kb_bi, kb_bb, kb_it, kb_bt, kb_nt, kb_ni, kb_lt, kb_li, kb_ti, kb_si, kb_st, kb_ss, rd, dTru, dRgN, dEnum, gMulT, gDivN, gDivNB, gEqF, dCallV, spOf, atD, ordD, dSq, dZip, dZipM, dZip3, zipD3_map, gShl, dParOO, zipD_map, ivD, dRg1, dRg2, dLc, dYes, dLcGo, dGen, dGenGo, wipeD, boolsOf, intsOf, maxL, minL, noL, noLs, Option.map_some, Option.bind_some, List.all_cons, List.all_nil, List.any_cons, List.any_nil, id_eq, List.set_cons_zero, List.set_cons_succ, List.getElem?_cons_zero, List.getElem?_cons_succ, List.getElem?_nil, List.getD_cons_zero, List.getD_cons_succ, decide_eq_true_eq, decide_eq_false_iff_not, Bool.not_eq_true', Bool.not_true, Bool.not_false, Bool.and_true, Bool.true_and, Bool.and_false, Bool.false_and, Bool.false_eq_true, if_true, if_false, reduceIte, ite_true, ite_false, true_and, and_true, reduceCtorEq, Int.toNat_zero, Int.toNat_one, Int.cast_ofNat_Int, Int.reduceLT, Int.reduceLE, Int.reduceNeg, Int.reduceToNat, Int.reducePow, Int.reduceMul, Int.reduceAdd, Int.reduceSub, decide_true, decide_false]
  refine ⟨⟨by omega, by omega⟩, ?_⟩
  refine forInv (fun i τ => ∃ o, τ = [some (.int b), some (.int m), some (.int (b ^ i)), o]) _ _ ⟨none, by rw [Int.pow_zero]⟩ ?_ ?_
  · rintro k i x τ hx hk ⟨o, rfl⟩
    simp (implicitDefEqProofs := false) (maxSteps := 3000000) only [xSeq, xIf, xRet, xRaise, xOf, xB, xBK, xAsg, xTry, xHeard, mD0, mD1, mD2, startD, List.map_cons, List.map_nil, List.length_cons, List.length_nil, List.replicate, List.cons_append, List.nil_append, Nat.reduceAdd, Nat.reduceSub, Nat.zero_add, dSeq, dIfS, dOr, dAnd, dNot, dTst, dOp, dUn, dVar, dC, dB, dBK, dCons, dNil, dTup, dLst, dRet, dRetN, dRetF, dRetO, dBO, dFr, dRepL, dCatL, dRev, dRevL, dSlO, dCatO, cSorted, SpO.sp, dNext, dNever, dAsg, dPar, dPar3, dParO, dIf, dAndV, dOrV, dNotV, dCh, dCt, cLast, cLink, tLast, tLink, dDrop, dFor, dBrk, dCnt, dOwn, dApp, dExt, dFree, gPutO, dIxO, dLend, dLendT, dLcF, gN, gTu, gCn, gNl, gP0, gP1, gII, gIIc, gAdd, gNeg, gIx, gEq, gNe, gIs, gIsNot, gIn, gNotIn, gSl, oNone, oSome, gMt, gIndex, cTuple, cList, cI1, cI2, cInt, cLen, cMax, cMin, cMaxT, cMinT, dAug, cAll, cAny, cRepr, cSqrt, cIsi, tyN, isNon, kb_tt, kb_ii, kb_ib, kb_bi, kb_bb, kb_it, kb_bt, kb_nt, kb_ni, kb_lt, kb_li, kb_ti, kb_si, kb_st, kb_ss, rd, dTru, dRgN, dEnum, gMulT, gDivN, gDivNB, gEqF, dCallV, spOf, atD, ordD, dSq, dZip, dZipM, dZip3, zipD3_map, gShl, dParOO, zipD_map, ivD, dRg1, dRg2, dLc, dYes, dLcGo, dGen, dGenGo, wipeD, boolsOf, intsOf, maxL, minL, noL, noLs, Option.map_some, Option.bind_some, List.all_cons, List.all_nil, List.any_cons, List.any_nil, id_eq, List.set_cons_zero, List.set_cons_succ, List.getElem?_cons_zero, List.getElem?_cons_succ, List.getElem?_nil, List.getD_cons_zero, List.getD_cons_succ, decide_eq_true_eq, decide_eq_false_iff_not, Bool.not_eq_true', Bool.not_true, Bool.not_false, Bool.and_true, Bool.true_and, Bool.and_false, Bool.false_and, Bool.false_eq_true, if_true, if_false, reduceIte, ite_true, ite_false, true_and, and_true, reduceCtorEq, Int.toNat_zero, Int.toNat_one, Int.cast_ofNat_Int, Int.reduceLT, Int.reduceLE, Int.reduceNeg, Int.reduceToNat, Int.reducePow, Int.reduceMul, Int.reduceAdd, Int.reduceSub, decide_true, decide_false]
    have hi : i < m.toNat := by
      have := (List.getElem?_eq_some_iff.mp hx).1
      rw [rng_len] at this
      omega
    exact ⟨.big (Big_powr h1 i) h1 (by omega), hk _ ⟨_, by rw [Int.pow_succ]⟩⟩
  · rintro τ ⟨o, rfl⟩
    rw [rng_len]
    simp (implicitDefEqProofs := false) (maxSteps := 3000000) only [xSeq, xIf, xRet, xRaise, xOf, xB, xBK, xAsg, xTry, xHeard, mD0, mD1, mD2, startD, List.map_cons, List.map_nil, List.length_cons, List.length_nil, List.replicate, List.cons_append, List.nil_append, Nat.reduceAdd, Nat.reduceSub, Nat.zero_add, dSeq, dIfS, dOr, dAnd, dNot, dTst, dOp, dUn, dVar, dC, dB, dBK, dCons, dNil, dTup, dLst, dRet, dRetN, dRetF, dRetO, dBO, dFr, dRepL, dCatL, dRev, dRevL, dSlO, dCatO, cSorted, SpO.sp, dNext, dNever, dAsg, dPar, dPar3, dParO, dIf, dAndV, dOrV, dNotV, dCh, dCt, cLast, cLink, tLast, tLink, dDrop, dFor, dBrk, dCnt, dOwn, dApp, dExt, dFree, gPutO, dIxO, dLend, dLendT, dLcF, gN, gTu, gCn, gNl, gP0, gP1, gII, gIIc, gAdd, gNeg, gIx, gEq, gNe, gIs, gIsNot, gIn, gNotIn, gSl, oNone, oSome, gMt, gIndex, cTuple, cList, cI1, cI2, cInt, cLen, cMax, cMin, cMaxT, cMinT, dAug, cAll, cAny, cRepr, cSqrt, cIsi, tyN, isNon, kb_tt, kb_ii, kb_ib, kb_bi, kb_bb, kb_it, kb_bt, kb_nt, kb_ni, kb_lt, kb_li, kb_ti, kb_si, kb_st, kb_ss, rd, dTru, dRgN, dEnum, gMulT, gDivN, gDivNB, gEqF, dCallV, spOf, atD, ordD, dSq, dZip, dZipM, dZip3, zipD3_map, gShl, dParOO, zipD_map, ivD, dRg1, dRg2, dLc, dYes, dLcGo, dGen, dGenGo, wipeD, boolsOf, intsOf, maxL, minL, noL, noLs, Option.map_some, Option.bind_some, List.all_cons, List.all_nil, List.any_cons, List.any_nil, id_eq, List.set_cons_zero, List.set_cons_succ, List.getElem?_cons_zero, List.getElem?_cons_succ, List.getElem?_nil, List.getD_cons_zero, List.getD_cons_succ, decide_eq_true_eq, decide_eq_false_iff_not, Bool.not_eq_true', Bool.not_true, Bool.not_false, Bool.and_true, Bool.true_and, Bool.and_false, Bool.false_and, Bool.false_eq_true, if_true, if_false, reduceIte, ite_true, ite_false, true_and, and_true, reduceCtorEq, Int.toNat_zero, Int.toNat_one, Int.cast_ofNat_Int, Int.reduceLT, Int.reduceLE, Int.reduceNeg, Int.reduceToNat, Int.reducePow, Int.reduceMul, Int.reduceAdd, Int.reduceSub, decide_true, decide_false]
    exact h
def sp_grain_power : SpX :=
  fun ds R Rx => match ds with
  | [.tup [.int a, .int b], .int m] => (Iv (a, b) ∧ 0 ≤ m ∧ m ≤ 40) ∧ outX (wG (a, b) m.toNat) R Rx
  | _ => False
set_option maxHeartbeats 0 in
theorem ok_grain_power (T : Txt K mg) (D0 : Dfn K mg "grain_power" "grain_power" s_grain_power ["interval", "many"] []) (C_integer_power : Cal P w K mg base tabs "integer_power" 1 2 ["base", "many"] [] sp_integer_power) (C_in_bounds : CalX P w K mg base tabs "in_bounds" 3 2 ["low", "high"] [] sp_in_bounds) : CalX P w K mg base tabs "grain_power" 4 2 ["interval", "many"] [] sp_grain_power := by
  refine calx_of D0 sc_grain_power fun f cdv A outer s H E p ht hg hk hr => ⟨_, (pdsxs_cons (pdsx_of (pds_if (pdt_cmp (opd_eq hr.units) (pd_var 1) pd_int) (pdss_one (pds_ret (pd_gtup rfl T.m_WHOLE T.k_WHOLE (hk _ _ T.l_WHOLE)))) pdss_nil))
      (pdsxs_cons (pdsx_of (pds_set (i := 2) sc_grain_power.nd rfl (Or.inl rfl) (pdcC (C_integer_power.cal ht) hg hr (pda_cons (pd_gint rfl T.m_ONE) (pda_cons (pd_bin opd_sub (pd_var 1) pd_int) pda_nil)))))
      (pdsxs_cons (pdsx_of (pds_setLc (i := 3) (own := [("end", 5)]) (t := (L2.gName 5)) rfl sc_grain_power.nd rfl rfl (pdi_sq (pd_var 0)) (show blkC ["interval", "many", "under", "ends", "low", "end"] (defScope s_grain_power) _ _ = true by decide +kernel) (fun _ _ _ _ _ => (pgw_name (i := 5) (vs := [5]) sc_grain_power.nd rfl (Or.inl rfl))) (fun _ _ _ _ _ => (pdcC (C_integer_power.cal ht) hg hr (pda_cons (pd_var 5) (pda_cons (pd_var 1) pda_nil)))) (sh := s)))
      (pdsxs_cons (pdsx_of (pds_set (i := 4) sc_grain_power.nd rfl (Or.inl rfl) (pd_callB (cd_minT rfl hr.u65) rfl T.b_min PyProof.Rows.boot_min (pda_cons (pd_var 3) pda_nil))))
      (pdsxs_cons (pdsx_of (pds_if (pdw_t (pdw_and (pdt_cmp (opd_eq hr.units) (pd_bin opd_mod (pd_var 1) pd_int) pd_int) (pdw_and1 (pdt_chainN (pd_ix (pd_var 0) pd_int) (pct_cons opd_le pd_int (pct_last opd_le (pd_ix (pd_var 0) pd_int))))))) (pdss_one (pds_set (i := 4) sc_grain_power.nd rfl (Or.inl rfl) pd_int)) pdss_nil))
      (pdsxs_one (pdsx_ret (pdxC (C_in_bounds.cal ht) (takes_of rfl rfl rfl rfl) hg hr (pda_cons (pd_bin opd_div (pd_var 4) (pd_var 2)) (pda_cons (pd_un und_neg (pd_bin opd_div (pd_un und_neg (pd_callB (cd_maxT rfl hr.u65) rfl T.b_max PyProof.Rows.boot_max (pda_cons (pd_var 3) pda_nil))) (pd_var 2))) pda_nil)))))))))), ?_⟩
  intro ds R Rx hl h; unfold sp_grain_power at h; split at h
  all_goals (try exact False.elim h)
  all_goals clear hl hg hr hk ht
  rename_i a b m
  obtain ⟨⟨hi, h3, h4⟩, h⟩ := h
  have h1 : -1180591620717411303424 ≤ a := hi.lo
  have h2 : a ≤ b := hi.le
  have h5 : b ≤ 1180591620717411303424 := hi.hi
  have e0 : (m - 1).toNat = m.toNat - 1 := by omega
  simp (implicitDefEqProofs := false) (maxSteps := 3000000) only [xSeq, xIf, xRet, xRaise, xOf, xB, xBK, xAsg, xTry, xHeard, mD0, mD1, mD2, startD, List.map_cons, List.map_nil, List.length_cons, List.length_nil, List.replicate, List.cons_append, List.nil_append, Nat.reduceAdd, Nat.reduceSub, Nat.zero_add, dSeq, dIfS, dOr, dAnd, dNot, dTst, dOp, dUn, dVar, dC, dB, dBK, dCons, dNil, dTup, dLst, dRet, dRetN, dRetF, dRetO, dBO, dFr, dRepL, dCatL, dRev, dRevL, dSlO, dCatO, cSorted, SpO.sp, dNext, dNever, dAsg, dPar, dPar3, dParO, dIf, dAndV, dOrV, dNotV, dCh, dCt, cLast, cLink, tLast, tLink, dDrop, dFor, dBrk, dCnt, dOwn, dApp, dExt, dFree, gPutO, dIxO, dLend, dLendT, dLcF, gN, gTu, gCn, gNl, gP0, gP1, gII, gIIc, gAdd, gNeg, gIx, gEq, gNe, gIs, gIsNot, gIn, gNotIn, gSl, oNone, oSome, gMt, gIndex, cTuple, cList, cI1, cI2, cInt, cLen, cMax, cMin, cMaxT, cMinT, dAug, cAll, cAny, cRepr, cSqrt, cIsi, tyN, isNon, kb_tt, kb_ii, kb_ib, kb_bi, kb_bb, kb_it, kb_bt, kb_nt, kb_ni, kb_lt, kb_li, kb_ti, kb_si, kb_st, kb_ss, rd, dTru, dRgN, dEnum, gMulT, gDivN, gDivNB, gEqF, dCallV, spOf, atD, ordD, dSq, dZip, dZipM, dZip3, zipD3_map, gShl, dParOO, zipD_map, ivD, dRg1, dRg2, dLc, dYes, dLcGo, dGen, dGenGo, wipeD, boolsOf, intsOf, maxL, minL, noL, noLs, Option.map_some, Option.bind_some, List.all_cons, List.all_nil, List.any_cons, List.any_nil, id_eq, List.set_cons_zero, List.set_cons_succ, List.getElem?_cons_zero, List.getElem?_cons_succ, List.getElem?_nil, List.getD_cons_zero, List.getD_cons_succ, decide_eq_true_eq, decide_eq_false_iff_not, Bool.not_eq_true', Bool.not_true, Bool.not_false, Bool.and_true, Bool.true_and, Bool.and_false, Bool.false_and, Bool.false_eq_true, if_true, if_false, reduceIte, ite_true, ite_false, true_and, and_true, reduceCtorEq, Int.toNat_zero, Int.toNat_one, Int.cast_ofNat_Int, Int.reduceLT, Int.reduceLE, Int.reduceNeg, Int.reduceToNat, Int.reducePow, Int.reduceMul, Int.reduceAdd, Int.reduceSub, decide_true, decide_false, sp_integer_power, sp_in_bounds]
  by_cases m0 : m = 0
  · subst m0
    rw [if_pos rfl]
    have h' : outX (1099511627776, 1099511627776) R Rx := h
    unfold outX at h'
    rw [if_pos (by decide)] at h'
    exact h'
  rw [if_neg m0, e0]
  have bd := bd_one (n := m.toNat - 1) (by omega)
  rw [wG_of (by omega)] at h
  refine ⟨⟨big71 (by decide) (by decide), by omega, by omega⟩, .of 2 rfl (by omega), ⟨big71 (by omega) (by omega), by omega, by omega⟩, ⟨big71 (by omega) (by omega), by omega, by omega⟩, ?_⟩
  by_cases c : m % 2 = 0
  · rw [if_pos c]
    by_cases a0 : a ≤ 0
    · rw [if_pos a0]
      by_cases b0 : 0 ≤ b
      · rw [if_pos b0]
        rw [if_pos ⟨by omega, a0, b0⟩] at h
        exact ⟨bd, bd, h⟩
      · rw [if_neg b0]
        rw [if_neg (fun z => b0 z.2.2)] at h
        exact ⟨bd, bd, h⟩
    · rw [if_neg a0]
      rw [if_neg (fun z => a0 z.2.1)] at h
      exact ⟨bd, bd, h⟩
  · rw [if_neg c]
    rw [if_neg (fun z => c (by omega))] at h
    exact ⟨bd, bd, h⟩
def sp_grain_scaled : SpX :=
  fun ds R Rx => match ds with
  | [.tup [.int a, .int b], .tup [.int n, .int d]] => (Iv (a, b) ∧ 1 ≤ d ∧ d < 1606938044258990275541962092341162602522202993782792835301376 ∧ -1606938044258990275541962092341162602522202993782792835301376 < n ∧ n < 1606938044258990275541962092341162602522202993782792835301376) ∧ outX (sI (a, b) (n, d)) R Rx
  | _ => False
set_option maxHeartbeats 0 in
theorem ok_grain_scaled (T : Txt K mg) (D0 : Dfn K mg "grain_scaled" "grain_scaled" s_grain_scaled ["interval", "ratio"] []) (C_in_bounds : CalX P w K mg base tabs "in_bounds" 3 2 ["low", "high"] [] sp_in_bounds) : CalX P w K mg base tabs "grain_scaled" 4 2 ["interval", "ratio"] [] sp_grain_scaled := by
  refine calx_of D0 sc_grain_scaled fun f cdv A outer s H E p ht hg hk hr => ⟨_, (pdsxs_cons (pdsx_of (pds_asg (pd_var 1) (pdg_tup (n := 2) rfl (pdgs_cons (pdg_name (i := 2) sc_grain_scaled.nd rfl (Or.inl rfl)) (pdgs_cons (pdg_name (i := 3) sc_grain_scaled.nd rfl (Or.inl rfl)) pdgs_nil)))))
      (pdsxs_cons (pdsx_of (pds_set (i := 4) sc_grain_scaled.nd rfl (Or.inl rfl) (pd_lst (pda_cons (pd_bin opd_mul (pd_ix (pd_var 0) pd_int) (pd_var 2)) (pda_cons (pd_bin opd_mul (pd_ix (pd_var 0) pd_int) (pd_var 2)) pda_nil)))))
      (pdsxs_one (pdsx_ret (pdxC (C_in_bounds.cal ht) (takes_of rfl rfl rfl rfl) hg hr (pda_cons (pd_bin opd_div (pd_callB (cd_minT rfl hr.u65) rfl T.b_min PyProof.Rows.boot_min (pda_cons (pd_var 4) pda_nil)) (pd_var 3)) (pda_cons (pd_un und_neg (pd_bin opd_div (pd_un und_neg (pd_callB (cd_maxT rfl hr.u65) rfl T.b_max PyProof.Rows.boot_max (pda_cons (pd_var 4) pda_nil))) (pd_var 3))) pda_nil))))))), ?_⟩
  intro ds R Rx hl h; unfold sp_grain_scaled at h; split at h
  all_goals (try exact False.elim h)
  all_goals clear hl hg hr hk ht
  rename_i a b n d
  obtain ⟨⟨⟨h1, h2, h3⟩, k1, k2, k3, k4⟩, h⟩ := h
  simp only [] at h1 h2 h3
  simp (implicitDefEqProofs := false) (maxSteps := 3000000) only [xSeq, xIf, xRet, xRaise, xOf, xB, xBK, xAsg, xTry, xHeard, mD0, mD1, mD2, startD, List.map_cons, List.map_nil, List.length_cons, List.length_nil, List.replicate, List.cons_append, List.nil_append, Nat.reduceAdd, Nat.reduceSub, Nat.zero_add, dSeq, dIfS, dOr, dAnd, dNot, dTst, dOp, dUn, dVar, dC, dB, dBK, dCons, dNil, dTup, dLst, dRet, dRetN, dRetF, dRetO, dBO, dFr, dRepL, dCatL, dRev, dRevL, dSlO, dCatO, cSorted, SpO.sp, dNext, dNever, dAsg, dPar, dPar3, dParO, dIf, dAndV, dOrV, dNotV, dCh, dCt, cLast, cLink, tLast, tLink, dDrop, dFor, dBrk, dCnt, dOwn, dApp, dExt, dFree, gPutO, dIxO, dLend, dLendT, dLcF, gN, gTu, gCn, gNl, gP0, gP1, gII, gIIc, gAdd, gNeg, gIx, gEq, gNe, gIs, gIsNot, gIn, gNotIn, gSl, oNone, oSome, gMt, gIndex, cTuple, cList, cI1, cI2, cInt, cLen, cMax, cMin, cMaxT, cMinT, dAug, cAll, cAny, cRepr, cSqrt, cIsi, tyN, isNon, kb_tt, kb_ii, kb_ib, kb_bi, kb_bb, kb_it, kb_bt, kb_nt, kb_ni, kb_lt, kb_li, kb_ti, kb_si, kb_st, kb_ss, rd, dTru, dRgN, dEnum, gMulT, gDivN, gDivNB, gEqF, dCallV, spOf, atD, ordD, dSq, dZip, dZipM, dZip3, zipD3_map, gShl, dParOO, zipD_map, ivD, dRg1, dRg2, dLc, dYes, dLcGo, dGen, dGenGo, wipeD, boolsOf, intsOf, maxL, minL, noL, noLs, Option.map_some, Option.bind_some, List.all_cons, List.all_nil, List.any_cons, List.any_nil, id_eq, List.set_cons_zero, List.set_cons_succ, List.getElem?_cons_zero, List.getElem?_cons_succ, List.getElem?_nil, List.getD_cons_zero, List.getD_cons_succ, decide_eq_true_eq, decide_eq_false_iff_not, Bool.not_eq_true', Bool.not_true, Bool.not_false, Bool.and_true, Bool.true_and, Bool.and_false, Bool.false_and, Bool.false_eq_true, if_true, if_false, reduceIte, ite_true, ite_false, true_and, and_true, reduceCtorEq, Int.toNat_zero, Int.toNat_one, Int.cast_ofNat_Int, Int.reduceLT, Int.reduceLE, Int.reduceNeg, Int.reduceToNat, Int.reducePow, Int.reduceMul, Int.reduceAdd, Int.reduceSub, decide_true, decide_false, sp_in_bounds]
  exact ⟨.wide (by omega) (by omega) (by omega) (by omega), .wide (by omega) (by omega) (by omega) (by omega), .of (by omega) (by omega), .of (by omega) (by omega), h⟩
def sp_around : SpX :=
  fun ds R Rx => match ds with
  | [.tup [.int n, .int d]] => Rt (n, d) ∧ outX (n * 1099511627776 / d, -(-n * 1099511627776 / d)) R Rx
  | _ => False
set_option maxHeartbeats 0 in
theorem ok_around (T : Txt K mg) (D0 : Dfn K mg "around" "around" s_around ["ratio"] []) (C_check_ratio : Cal P w K mg base tabs "check_ratio" 3 1 ["ratio"] [] sp_check_ratio) (C_grain_around : CalX P w K mg base tabs "grain_around" 4 1 ["ratio"] [] sp_grain_around) : CalX P w K mg base tabs "around" 5 1 ["ratio"] [] sp_around := by
  refine calx_of D0 sc_around fun f cdv A outer s H E p ht hg hk hr => ⟨_, (pdsxs_cons (pdsx_of (pds_expr (pdcC (C_check_ratio.cal ht) hg hr (pda_cons (pd_var 0) pda_nil))))
      (pdsxs_one (pdsx_ret (pdxC (C_grain_around.cal ht) (takes_of rfl rfl rfl rfl) hg hr (pda_cons (pd_var 0) pda_nil))))), ?_⟩
  intro ds R Rx hl h; unfold sp_around at h; split at h
  all_goals (try exact False.elim h)
  all_goals clear hl hg hr hk ht
  rename_i n d
  obtain ⟨h1, h⟩ := h
  have k1 : 1 ≤ d := h1.pos
  have k2 : d < _ := h1.few
  simp (implicitDefEqProofs := false) (maxSteps := 3000000) only [xSeq, xIf, xRet, xRaise, xOf, xB, xBK, xAsg, xTry, xHeard, mD0, mD1, mD2, startD, List.map_cons, List.map_nil, List.length_cons, List.length_nil, List.replicate, List.cons_append, List.nil_append, Nat.reduceAdd, Nat.reduceSub, Nat.zero_add, dSeq, dIfS, dOr, dAnd, dNot, dTst, dOp, dUn, dVar, dC, dB, dBK, dCons, dNil, dTup, dLst, dRet, dRetN, dRetF, dRetO, dBO, dFr, dRepL, dCatL, dRev, dRevL, dSlO, dCatO, cSorted, SpO.sp, dNext, dNever, dAsg, dPar, dPar3, dParO, dIf, dAndV, dOrV, dNotV, dCh, dCt, cLast, cLink, tLast, tLink, dDrop, dFor, dBrk, dCnt, dOwn, dApp, dExt, dFree, gPutO, dIxO, dLend, dLendT, dLcF, gN, gTu, gCn, gNl, gP0, gP1, gII, gIIc, gAdd, gNeg, gIx, gEq, gNe, gIs, gIsNot, gIn, gNotIn, gSl, oNone, oSome, gMt, gIndex, cTuple, cList, cI1, cI2, cInt, cLen, cMax, cMin, cMaxT, cMinT, dAug, cAll, cAny, cRepr, cSqrt, cIsi, tyN, isNon, kb_tt, kb_ii, kb_ib, kb_bi, kb_bb, kb_it, kb_bt, kb_nt, kb_ni, kb_lt, kb_li, kb_ti, kb_si, kb_st, kb_ss, rd, dTru, dRgN, dEnum, gMulT, gDivN, gDivNB, gEqF, dCallV, spOf, atD, ordD, dSq, dZip, dZipM, dZip3, zipD3_map, gShl, dParOO, zipD_map, ivD, dRg1, dRg2, dLc, dYes, dLcGo, dGen, dGenGo, wipeD, boolsOf, intsOf, maxL, minL, noL, noLs, Option.map_some, Option.bind_some, List.all_cons, List.all_nil, List.any_cons, List.any_nil, id_eq, List.set_cons_zero, List.set_cons_succ, List.getElem?_cons_zero, List.getElem?_cons_succ, List.getElem?_nil, List.getD_cons_zero, List.getD_cons_succ, decide_eq_true_eq, decide_eq_false_iff_not, Bool.not_eq_true', Bool.not_true, Bool.not_false, Bool.and_true, Bool.true_and, Bool.and_false, Bool.false_and, Bool.false_eq_true, if_true, if_false, reduceIte, ite_true, ite_false, true_and, and_true, reduceCtorEq, Int.toNat_zero, Int.toNat_one, Int.cast_ofNat_Int, Int.reduceLT, Int.reduceLE, Int.reduceNeg, Int.reduceToNat, Int.reducePow, Int.reduceMul, Int.reduceAdd, Int.reduceSub, decide_true, decide_false, sp_check_ratio, sp_grain_around]
  exact ⟨⟨k1, h1.cop⟩, ⟨by omega, k2⟩, h⟩
def sp_plus : SpX :=
  fun ds R Rx => match ds with
  | [.tup [.int a, .int b], .tup [.int c, .int d]] => (Iv (a, b) ∧ Iv (c, d)) ∧ outX (pI (a, b) (c, d)) R Rx
  | _ => False
set_option maxHeartbeats 0 in
theorem ok_plus (T : Txt K mg) (D0 : Dfn K mg "plus" "plus" s_plus ["one", "other"] [(["other", "one"], 0, [1, 0])]) (C__check_both : Cal P w K mg base tabs "_check_both" 4 2 ["one", "other"] [] sp__check_both) (C_grain_plus : CalX P w K mg base tabs "grain_plus" 4 2 ["one", "other"] [] sp_grain_plus) : CalX P w K mg base tabs "plus" 5 2 ["one", "other"] [(["other", "one"], 0, [1, 0])] sp_plus := by
  refine calx_of D0 sc_plus fun f cdv A outer s H E p ht hg hk hr => ⟨_, (pdsxs_cons (pdsx_of (pds_expr (pdcC (C__check_both.cal ht) hg hr (pda_cons (pd_var 0) (pda_cons (pd_var 1) pda_nil)))))
      (pdsxs_one (pdsx_ret (pdxC (C_grain_plus.cal ht) (takes_of rfl rfl rfl rfl) hg hr (pda_cons (pd_var 0) (pda_cons (pd_var 1) pda_nil)))))), ?_⟩
  intro ds R Rx hl h; unfold sp_plus at h; split at h
  all_goals (try exact False.elim h)
  all_goals clear hl hg hr hk ht
  simp (implicitDefEqProofs := false) (maxSteps := 3000000) only [xSeq, xIf, xRet, xRaise, xOf, xB, xBK, xAsg, xTry, xHeard, mD0, mD1, mD2, startD, List.map_cons, List.map_nil, List.length_cons, List.length_nil, List.replicate, List.cons_append, List.nil_append, Nat.reduceAdd, Nat.reduceSub, Nat.zero_add, dSeq, dIfS, dOr, dAnd, dNot, dTst, dOp, dUn, dVar, dC, dB, dBK, dCons, dNil, dTup, dLst, dRet, dRetN, dRetF, dRetO, dBO, dFr, dRepL, dCatL, dRev, dRevL, dSlO, dCatO, cSorted, SpO.sp, dNext, dNever, dAsg, dPar, dPar3, dParO, dIf, dAndV, dOrV, dNotV, dCh, dCt, cLast, cLink, tLast, tLink, dDrop, dFor, dBrk, dCnt, dOwn, dApp, dExt, dFree, gPutO, dIxO, dLend, dLendT, dLcF, gN, gTu, gCn, gNl, gP0, gP1, gII, gIIc, gAdd, gNeg, gIx, gEq, gNe, gIs, gIsNot, gIn, gNotIn, gSl, oNone, oSome, gMt, gIndex, cTuple, cList, cI1, cI2, cInt, cLen, cMax, cMin, cMaxT, cMinT, dAug, cAll, cAny, cRepr, cSqrt, cIsi, tyN, isNon, kb_tt, kb_ii, kb_ib, kb_bi, kb_bb, kb_it, kb_bt, kb_nt, kb_ni, kb_lt, kb_li, kb_ti, kb_si, kb_st, kb_ss, rd, dTru, dRgN, dEnum, gMulT, gDivN, gDivNB, gEqF, dCallV, spOf, atD, ordD, dSq, dZip, dZipM, dZip3, zipD3_map, gShl, dParOO, zipD_map, ivD, dRg1, dRg2, dLc, dYes, dLcGo, dGen, dGenGo, wipeD, boolsOf, intsOf, maxL, minL, noL, noLs, Option.map_some, Option.bind_some, List.all_cons, List.all_nil, List.any_cons, List.any_nil, id_eq, List.set_cons_zero, List.set_cons_succ, List.getElem?_cons_zero, List.getElem?_cons_succ, List.getElem?_nil, List.getD_cons_zero, List.getD_cons_succ, decide_eq_true_eq, decide_eq_false_iff_not, Bool.not_eq_true', Bool.not_true, Bool.not_false, Bool.and_true, Bool.true_and, Bool.and_false, Bool.false_and, Bool.false_eq_true, if_true, if_false, reduceIte, ite_true, ite_false, true_and, and_true, reduceCtorEq, Int.toNat_zero, Int.toNat_one, Int.cast_ofNat_Int, Int.reduceLT, Int.reduceLE, Int.reduceNeg, Int.reduceToNat, Int.reducePow, Int.reduceMul, Int.reduceAdd, Int.reduceSub, decide_true, decide_false, sp__check_both, sp_grain_plus]
  exact ⟨h.1, h.2⟩
def sp_minus : SpX :=
  fun ds R Rx => match ds with
  | [.tup [.int a, .int b], .tup [.int c, .int d]] => (Iv (a, b) ∧ Iv (c, d)) ∧ outX (mI (a, b) (c, d)) R Rx
  | _ => False
set_option maxHeartbeats 0 in
theorem ok_minus (T : Txt K mg) (D0 : Dfn K mg "minus" "minus" s_minus ["one", "other"] [(["other", "one"], 0, [1, 0])]) (C__check_both : Cal P w K mg base tabs "_check_both" 4 2 ["one", "other"] [] sp__check_both) (C_grain_minus : CalX P w K mg base tabs "grain_minus" 4 2 ["one", "other"] [] sp_grain_minus) : CalX P w K mg base tabs "minus" 5 2 ["one", "other"] [(["other", "one"], 0, [1, 0])] sp_minus := by
  refine calx_of D0 sc_minus fun f cdv A outer s H E p ht hg hk hr => ⟨_, (pdsxs_cons (pdsx_of (pds_expr (pdcC (C__check_both.cal ht) hg hr (pda_cons (pd_var 0) (pda_cons (pd_var 1) pda_nil)))))
      (pdsxs_one (pdsx_ret (pdxC (C_grain_minus.cal ht) (takes_of rfl rfl rfl rfl) hg hr (pda_cons (pd_var 0) (pda_cons (pd_var 1) pda_nil)))))), ?_⟩
  intro ds R Rx hl h; unfold sp_minus at h; split at h
  all_goals (try exact False.elim h)
  all_goals clear hl hg hr hk ht
  simp (implicitDefEqProofs := false) (maxSteps := 3000000) only [xSeq, xIf, xRet, xRaise, xOf, xB, xBK, xAsg, xTry, xHeard, mD0, mD1, mD2, startD, List.map_cons, List.map_nil, List.length_cons, List.length_nil, List.replicate, List.cons_append, List.nil_append, Nat.reduceAdd, Nat.reduceSub, Nat.zero_add, dSeq, dIfS, dOr, dAnd, dNot, dTst, dOp, dUn, dVar, dC, dB, dBK, dCons, dNil, dTup, dLst, dRet, dRetN, dRetF, dRetO, dBO, dFr, dRepL, dCatL, dRev, dRevL, dSlO, dCatO, cSorted, SpO.sp, dNext, dNever, dAsg, dPar, dPar3, dParO, dIf, dAndV, dOrV, dNotV, dCh, dCt, cLast, cLink, tLast, tLink, dDrop, dFor, dBrk, dCnt, dOwn, dApp, dExt, dFree, gPutO, dIxO, dLend, dLendT, dLcF, gN, gTu, gCn, gNl, gP0, gP1, gII, gIIc, gAdd, gNeg, gIx, gEq, gNe, gIs, gIsNot, gIn, gNotIn, gSl, oNone, oSome, gMt, gIndex, cTuple, cList, cI1, cI2, cInt, cLen, cMax, cMin, cMaxT, cMinT, dAug, cAll, cAny, cRepr, cSqrt, cIsi, tyN, isNon, kb_tt, kb_ii, kb_ib, kb_bi, kb_bb, kb_it, kb_bt, kb_nt, kb_ni, kb_lt, kb_li, kb_ti, kb_si, kb_st, kb_ss, rd, dTru, dRgN, dEnum, gMulT, gDivN, gDivNB, gEqF, dCallV, spOf, atD, ordD, dSq, dZip, dZipM, dZip3, zipD3_map, gShl, dParOO, zipD_map, ivD, dRg1, dRg2, dLc, dYes, dLcGo, dGen, dGenGo, wipeD, boolsOf, intsOf, maxL, minL, noL, noLs, Option.map_some, Option.bind_some, List.all_cons, List.all_nil, List.any_cons, List.any_nil, id_eq, List.set_cons_zero, List.set_cons_succ, List.getElem?_cons_zero, List.getElem?_cons_succ, List.getElem?_nil, List.getD_cons_zero, List.getD_cons_succ, decide_eq_true_eq, decide_eq_false_iff_not, Bool.not_eq_true', Bool.not_true, Bool.not_false, Bool.and_true, Bool.true_and, Bool.and_false, Bool.false_and, Bool.false_eq_true, if_true, if_false, reduceIte, ite_true, ite_false, true_and, and_true, reduceCtorEq, Int.toNat_zero, Int.toNat_one, Int.cast_ofNat_Int, Int.reduceLT, Int.reduceLE, Int.reduceNeg, Int.reduceToNat, Int.reducePow, Int.reduceMul, Int.reduceAdd, Int.reduceSub, decide_true, decide_false, sp__check_both, sp_grain_minus]
  exact ⟨h.1, h.2⟩
def sp_over : SpX :=
  fun ds R Rx => match ds with
  | [.tup [.int a, .int b], .tup [.int c, .int d]] => (Iv (a, b) ∧ Iv (c, d)) ∧ (if c ≤ 0 ∧ 0 ≤ d then Rx noqX else outX (oI (a, b) (c, d)) R Rx)
  | _ => False
set_option maxHeartbeats 0 in
theorem ok_over (T : Txt K mg) (D0 : Dfn K mg "over" "over" s_over ["one", "other"] [(["other", "one"], 0, [1, 0])]) (hF : tabs.fns = mg) (C__check_both : Cal P w K mg base tabs "_check_both" 4 2 ["one", "other"] [] sp__check_both) (C_grain_over : CalX P w K mg base tabs "grain_over" 5 2 ["one", "other"] [] sp_grain_over) (XM_NoQuotient : Mk0 P w K mg base "NoQuotient" 1) : CalX P w K mg base tabs "over" 6 2 ["one", "other"] [(["other", "one"], 0, [1, 0])] sp_over := by
  refine calx_of D0 sc_over fun f cdv A outer s H E p ht hg hk hr => ⟨_, (pdsxs_cons (pdsx_of (pds_expr (pdcC (C__check_both.cal ht) hg hr (pda_cons (pd_var 0) (pda_cons (pd_var 1) pda_nil)))))
      (pdsxs_cons (pdsx_if (pdt_chainN (pd_ix (pd_var 1) pd_int) (pct_cons opd_le pd_int (pct_last opd_le (pd_ix (pd_var 1) pd_int)))) (pdsxs_one (pdsx_raise rfl (takes_of rfl rfl rfl rfl) (pdmC0 XM_NoQuotient (by rw [ht]; exact hF) hr))) pdsxs_nil)
      (pdsxs_one (pdsx_ret (pdxC (C_grain_over.cal ht) (takes_of rfl rfl rfl rfl) hg hr (pda_cons (pd_var 0) (pda_cons (pd_var 1) pda_nil))))))), ?_⟩
  intro ds R Rx hl h; unfold sp_over at h; split at h
  all_goals (try exact False.elim h)
  all_goals clear hl hg hr hk ht
  rename_i a b c d
  obtain ⟨⟨h1, h2⟩, h⟩ := h
  simp (implicitDefEqProofs := false) (maxSteps := 3000000) only [xSeq, xIf, xRet, xRaise, xOf, xB, xBK, xAsg, xTry, xHeard, mD0, mD1, mD2, startD, List.map_cons, List.map_nil, List.length_cons, List.length_nil, List.replicate, List.cons_append, List.nil_append, Nat.reduceAdd, Nat.reduceSub, Nat.zero_add, dSeq, dIfS, dOr, dAnd, dNot, dTst, dOp, dUn, dVar, dC, dB, dBK, dCons, dNil, dTup, dLst, dRet, dRetN, dRetF, dRetO, dBO, dFr, dRepL, dCatL, dRev, dRevL, dSlO, dCatO, cSorted, SpO.sp, dNext, dNever, dAsg, dPar, dPar3, dParO, dIf, dAndV, dOrV, dNotV, dCh, dCt, cLast, cLink, tLast, tLink, dDrop, dFor, dBrk, dCnt, dOwn, dApp, dExt, dFree, gPutO, dIxO, dLend, dLendT, dLcF, gN, gTu, gCn, gNl, gP0, gP1, gII, gIIc, gAdd, gNeg, gIx, gEq, gNe, gIs, gIsNot, gIn, gNotIn, gSl, oNone, oSome, gMt, gIndex, cTuple, cList, cI1, cI2, cInt, cLen, cMax, cMin, cMaxT, cMinT, dAug, cAll, cAny, cRepr, cSqrt, cIsi, tyN, isNon, kb_tt, kb_ii, kb_ib, kb_bi, kb_bb, kb_it, kb_bt, kb_nt, kb_ni, kb_lt, kb_li, kb_ti, kb_si, kb_st, kb_ss, rd, dTru, dRgN, dEnum, gMulT, gDivN, gDivNB, gEqF, dCallV, spOf, atD, ordD, dSq, dZip, dZipM, dZip3, zipD3_map, gShl, dParOO, zipD_map, ivD, dRg1, dRg2, dLc, dYes, dLcGo, dGen, dGenGo, wipeD, boolsOf, intsOf, maxL, minL, noL, noLs, Option.map_some, Option.bind_some, List.all_cons, List.all_nil, List.any_cons, List.any_nil, id_eq, List.set_cons_zero, List.set_cons_succ, List.getElem?_cons_zero, List.getElem?_cons_succ, List.getElem?_nil, List.getD_cons_zero, List.getD_cons_succ, decide_eq_true_eq, decide_eq_false_iff_not, Bool.not_eq_true', Bool.not_true, Bool.not_false, Bool.and_true, Bool.true_and, Bool.and_false, Bool.false_and, Bool.false_eq_true, if_true, if_false, reduceIte, ite_true, ite_false, true_and, and_true, reduceCtorEq, Int.toNat_zero, Int.toNat_one, Int.cast_ofNat_Int, Int.reduceLT, Int.reduceLE, Int.reduceNeg, Int.reduceToNat, Int.reducePow, Int.reduceMul, Int.reduceAdd, Int.reduceSub, decide_true, decide_false, sp__check_both, sp_grain_over]
  refine ⟨⟨h1, h2⟩, ?_⟩
  by_cases e : c ≤ 0
  · rw [if_pos e]
    by_cases e2 : 0 ≤ d
    · rw [if_pos e2]
      rw [if_pos ⟨e, e2⟩] at h
      exact h
    · rw [if_neg e2]
      rw [if_neg (fun z => e2 z.2)] at h
      exact ⟨⟨.inr (by omega), h2⟩, h⟩
  · rw [if_neg e]
    rw [if_neg (fun z => e z.1)] at h
    exact ⟨⟨.inl (by omega), h2⟩, h⟩
def sp_powered : SpX :=
  fun ds R Rx => match ds with
  | [.tup [.int a, .int b], .int m] => (Iv (a, b) ∧ 0 ≤ m ∧ m ≤ 40) ∧ outX (wG (a, b) m.toNat) R Rx
  | _ => False
set_option maxHeartbeats 0 in
theorem ok_powered (T : Txt K mg) (D0 : Dfn K mg "powered" "powered" s_powered ["interval", "many"] [(["interval", "many"], 0, [0, 1])]) (C_check_interval : Cal P w K mg base tabs "check_interval" 3 1 ["interval"] [] sp_check_interval) (C_is_from_to : Cal P w K mg base tabs "is_from_to" 2 3 ["value", "least", "most"] [] sp_is_from_to) (C_grain_power : CalX P w K mg base tabs "grain_power" 4 2 ["interval", "many"] [] sp_grain_power) : CalX P w K mg base tabs "powered" 5 2 ["interval", "many"] [(["interval", "many"], 0, [0, 1])] sp_powered := by
  refine calx_of D0 sc_powered fun f cdv A outer s H E p ht hg hk hr => ⟨_, (pdsxs_cons (pdsx_of (pds_expr (pdcC (C_check_interval.cal ht) hg hr (pda_cons (pd_var 0) pda_nil))))
      (pdsxs_cons (pdsx_of (pds_if (pdt_not (pdt_val (pdcC (C_is_from_to.cal ht) hg hr (pda_cons (pd_var 1) (pda_cons pd_int (pda_cons (pd_gint rfl T.m__MOST_POWER) pda_nil)))))) (pdss_one pds_never) pdss_nil))
      (pdsxs_one (pdsx_ret (pdxC (C_grain_power.cal ht) (takes_of rfl rfl rfl rfl) hg hr (pda_cons (pd_var 0) (pda_cons (pd_var 1) pda_nil))))))), ?_⟩
  intro ds R Rx hl h; unfold sp_powered at h; split at h
  all_goals (try exact False.elim h)
  all_goals clear hl hg hr hk ht
  rename_i a b m
  obtain ⟨⟨h1, h3, h4⟩, h⟩ := h
  simp (implicitDefEqProofs := false) (maxSteps := 3000000) only [xSeq, xIf, xRet, xRaise, xOf, xB, xBK, xAsg, xTry, xHeard, mD0, mD1, mD2, startD, List.map_cons, List.map_nil, List.length_cons, List.length_nil, List.replicate, List.cons_append, List.nil_append, Nat.reduceAdd, Nat.reduceSub, Nat.zero_add, dSeq, dIfS, dOr, dAnd, dNot, dTst, dOp, dUn, dVar, dC, dB, dBK, dCons, dNil, dTup, dLst, dRet, dRetN, dRetF, dRetO, dBO, dFr, dRepL, dCatL, dRev, dRevL, dSlO, dCatO, cSorted, SpO.sp, dNext, dNever, dAsg, dPar, dPar3, dParO, dIf, dAndV, dOrV, dNotV, dCh, dCt, cLast, cLink, tLast, tLink, dDrop, dFor, dBrk, dCnt, dOwn, dApp, dExt, dFree, gPutO, dIxO, dLend, dLendT, dLcF, gN, gTu, gCn, gNl, gP0, gP1, gII, gIIc, gAdd, gNeg, gIx, gEq, gNe, gIs, gIsNot, gIn, gNotIn, gSl, oNone, oSome, gMt, gIndex, cTuple, cList, cI1, cI2, cInt, cLen, cMax, cMin, cMaxT, cMinT, dAug, cAll, cAny, cRepr, cSqrt, cIsi, tyN, isNon, kb_tt, kb_ii, kb_ib, kb_bi, kb_bb, kb_it, kb_bt, kb_nt, kb_ni, kb_lt, kb_li, kb_ti, kb_si, kb_st, kb_ss, rd, dTru, dRgN, dEnum, gMulT, gDivN, gDivNB, gEqF, dCallV, spOf, atD, ordD, dSq, dZip, dZipM, dZip3, zipD3_map, gShl, dParOO, zipD_map, ivD, dRg1, dRg2, dLc, dYes, dLcGo, dGen, dGenGo, wipeD, boolsOf, intsOf, maxL, minL, noL, noLs, Option.map_some, Option.bind_some, List.all_cons, List.all_nil, List.any_cons, List.any_nil, id_eq, List.set_cons_zero, List.set_cons_succ, List.getElem?_cons_zero, List.getElem?_cons_succ, List.getElem?_nil, List.getD_cons_zero, List.getD_cons_succ, decide_eq_true_eq, decide_eq_false_iff_not, Bool.not_eq_true', Bool.not_true, Bool.not_false, Bool.and_true, Bool.true_and, Bool.and_false, Bool.false_and, Bool.false_eq_true, if_true, if_false, reduceIte, ite_true, ite_false, true_and, and_true, reduceCtorEq, Int.toNat_zero, Int.toNat_one, Int.cast_ofNat_Int, Int.reduceLT, Int.reduceLE, Int.reduceNeg, Int.reduceToNat, Int.reducePow, Int.reduceMul, Int.reduceAdd, Int.reduceSub, decide_true, decide_false, sp_check_interval, sp_is_from_to, sp_grain_power]
  refine ⟨h1, ?_⟩
  rw [decide_eq_true h3, decide_eq_true (by omega)]
  exact ifN (by decide) ⟨⟨h1, h3, h4⟩, h⟩
def sp_scaled : SpX :=
  fun ds R Rx => match ds with
  | [.tup [.int a, .int b], .tup [.int n, .int d]] => (Iv (a, b) ∧ Rt (n, d) ∧ -1606938044258990275541962092341162602522202993782792835301376 < n ∧ n < 1606938044258990275541962092341162602522202993782792835301376) ∧ outX (sI (a, b) (n, d)) R Rx
  | _ => False
set_option maxHeartbeats 0 in
theorem ok_scaled (T : Txt K mg) (D0 : Dfn K mg "scaled" "scaled" s_scaled ["interval", "ratio"] [(["interval", "ratio"], 0, [0, 1])]) (C_check_interval : Cal P w K mg base tabs "check_interval" 3 1 ["interval"] [] sp_check_interval) (C_check_ratio : Cal P w K mg base tabs "check_ratio" 3 1 ["ratio"] [] sp_check_ratio) (C_grain_scaled : CalX P w K mg base tabs "grain_scaled" 4 2 ["interval", "ratio"] [] sp_grain_scaled) : CalX P w K mg base tabs "scaled" 5 2 ["interval", "ratio"] [(["interval", "ratio"], 0, [0, 1])] sp_scaled := by
  refine calx_of D0 sc_scaled fun f cdv A outer s H E p ht hg hk hr => ⟨_, (pdsxs_cons (pdsx_of (pds_expr (pdcC (C_check_interval.cal ht) hg hr (pda_cons (pd_var 0) pda_nil))))
      (pdsxs_cons (pdsx_of (pds_expr (pdcC (C_check_ratio.cal ht) hg hr (pda_cons (pd_var 1) pda_nil))))
      (pdsxs_one (pdsx_ret (pdxC (C_grain_scaled.cal ht) (takes_of rfl rfl rfl rfl) hg hr (pda_cons (pd_var 0) (pda_cons (pd_var 1) pda_nil))))))), ?_⟩
  intro ds R Rx hl h; unfold sp_scaled at h; split at h
  all_goals (try exact False.elim h)
  all_goals clear hl hg hr hk ht
  rename_i a b n d
  obtain ⟨⟨h1, h2, h3, h4⟩, h⟩ := h
  have k1 : 1 ≤ d := h2.pos
  have k2 : d < _ := h2.few
  simp (implicitDefEqProofs := false) (maxSteps := 3000000) only [xSeq, xIf, xRet, xRaise, xOf, xB, xBK, xAsg, xTry, xHeard, mD0, mD1, mD2, startD, List.map_cons, List.map_nil, List.length_cons, List.length_nil, List.replicate, List.cons_append, List.nil_append, Nat.reduceAdd, Nat.reduceSub, Nat.zero_add, dSeq, dIfS, dOr, dAnd, dNot, dTst, dOp, dUn, dVar, dC, dB, dBK, dCons, dNil, dTup, dLst, dRet, dRetN, dRetF, dRetO, dBO, dFr, dRepL, dCatL, dRev, dRevL, dSlO, dCatO, cSorted, SpO.sp, dNext, dNever, dAsg, dPar, dPar3, dParO, dIf, dAndV, dOrV, dNotV, dCh, dCt, cLast, cLink, tLast, tLink, dDrop, dFor, dBrk, dCnt, dOwn, dApp, dExt, dFree, gPutO, dIxO, dLend, dLendT, dLcF, gN, gTu, gCn, gNl, gP0, gP1, gII, gIIc, gAdd, gNeg, gIx, gEq, gNe, gIs, gIsNot, gIn, gNotIn, gSl, oNone, oSome, gMt, gIndex, cTuple, cList, cI1, cI2, cInt, cLen, cMax, cMin, cMaxT, cMinT, dAug, cAll, cAny, cRepr, cSqrt, cIsi, tyN, isNon, kb_tt, kb_ii, kb_ib, kb_bi, kb_bb, kb_it, kb_bt, kb_nt, kb_ni, kb_lt, kb_li, kb_ti, kb_si, kb_st, kb_ss, rd, dTru, dRgN, dEnum, gMulT, gDivN, gDivNB, gEqF, dCallV, spOf, atD, ordD, dSq, dZip, dZipM, dZip3, zipD3_map, gShl, dParOO, zipD_map, ivD, dRg1, dRg2, dLc, dYes, dLcGo, dGen, dGenGo, wipeD, boolsOf, intsOf, maxL, minL, noL, noLs, Option.map_some, Option.bind_some, List.all_cons, List.all_nil, List.any_cons, List.any_nil, id_eq, List.set_cons_zero, List.set_cons_succ, List.getElem?_cons_zero, List.getElem?_cons_succ, List.getElem?_nil, List.getD_cons_zero, List.getD_cons_succ, decide_eq_true_eq, decide_eq_false_iff_not, Bool.not_eq_true', Bool.not_true, Bool.not_false, Bool.and_true, Bool.true_and, Bool.and_false, Bool.false_and, Bool.false_eq_true, if_true, if_false, reduceIte, ite_true, ite_false, true_and, and_true, reduceCtorEq, Int.toNat_zero, Int.toNat_one, Int.cast_ofNat_Int, Int.reduceLT, Int.reduceLE, Int.reduceNeg, Int.reduceToNat, Int.reducePow, Int.reduceMul, Int.reduceAdd, Int.reduceSub, decide_true, decide_false, sp_check_interval, sp_check_ratio, sp_grain_scaled]
  exact ⟨h1, ⟨k1, h2.cop⟩, ⟨h1, k1, k2, h3, h4⟩, h⟩
def sp_ratio_of : SpD :=
  fun ds R => match ds with
  | [.int n, .int u] => (0 < u ∧ u < 1606938044258990275541962092341162602522202993782792835301376) ∧ R (ivD (n / ((Nat.gcd n.natAbs u.natAbs : Nat) : Int), u / ((Nat.gcd n.natAbs u.natAbs : Nat) : Int)))
  | _ => False
set_option maxHeartbeats 0 in
theorem ok_ratio_of (T : Txt K mg) (D0 : Dfn K mg "ratio_of" "ratio_of" s_ratio_of ["number", "under"] [])  : Cal P w K mg base tabs "ratio_of" 1 2 ["number", "under"] [] sp_ratio_of := by
  refine cal_of D0 sc_ratio_of fun f cdv A outer s H E p ht hg hk hr => ⟨_, (pdss_cons (pds_if (pdt_cmp opd_lt (pd_var 1) pd_int) (pdss_cons (pds_set (i := 0) sc_ratio_of.nd rfl (Or.inl rfl) (pd_un und_neg (pd_var 0)))
      (pdss_one (pds_set (i := 1) sc_ratio_of.nd rfl (Or.inl rfl) (pd_un und_neg (pd_var 1))))) pdss_nil)
      (pdss_cons (pds_set (i := 2) sc_ratio_of.nd rfl (Or.inl rfl) (pd_callFun cd_gcd rfl T.m_gcd (pda_cons (pd_var 0) (pda_cons (pd_var 1) pda_nil))))
      (pdss_one (pds_ret (pd_tup (pda_cons (pd_bin opd_div (pd_var 0) (pd_var 2)) (pda_cons (pd_bin opd_div (pd_var 1) (pd_var 2)) pda_nil))))))), ?_⟩
  intro ds R hl h; unfold sp_ratio_of at h; split at h
  all_goals (try exact False.elim h)
  all_goals clear hl hg hr hk ht
  rename_i n u
  obtain ⟨⟨h1, h2⟩, h⟩ := h
  have gp := gcd_pos (a := n) (b := u) (by omega)
  have gl : Nat.gcd n.natAbs u.natAbs ≤ u.natAbs := Nat.gcd_le_right _ (by omega)
  simp (implicitDefEqProofs := false) (maxSteps := 3000000) only [xSeq, xIf, xRet, xRaise, xOf, xB, xBK, xAsg, xTry, xHeard, mD0, mD1, mD2, startD, List.map_cons, List.map_nil, List.length_cons, List.length_nil, List.replicate, List.cons_append, List.nil_append, Nat.reduceAdd, Nat.reduceSub, Nat.zero_add, dSeq, dIfS, dOr, dAnd, dNot, dTst, dOp, dUn, dVar, dC, dB, dBK, dCons, dNil, dTup, dLst, dRet, dRetN, dRetF, dRetO, dBO, dFr, dRepL, dCatL, dRev, dRevL, dSlO, dCatO, cSorted, SpO.sp, dNext, dNever, dAsg, dPar, dPar3, dParO, dIf, dAndV, dOrV, dNotV, dCh, dCt, cLast, cLink, tLast, tLink, dDrop, dFor, dBrk, dCnt, dOwn, dApp, dExt, dFree, gPutO, dIxO, dLend, dLendT, dLcF, gN, gTu, gCn, gNl, gP0, gP1, gII, gIIc, gAdd, gNeg, gIx, gEq, gNe, gIs, gIsNot, gIn, gNotIn, gSl, oNone, oSome, gMt, gIndex, cTuple, cList, cI1, cI2, cInt, cLen, cMax, cMin, cMaxT, cMinT, dAug, cAll, cAny, cRepr, cSqrt, cIsi, tyN, isNon, kb_tt, kb_ii, kb_ib, kb_bi, kb_bb, kb_it, kb_bt, kb_nt, kb_ni, kb_lt, kb_li, kb_ti, kb_si, kb_st, kb_ss, rd, dTru, dRgN, dEnum, gMulT, gDivN, gDivNB, gEqF, dCallV, spOf, atD, ordD, dSq, dZip, dZipM, dZip3, zipD3_map, gShl, dParOO, zipD_map, ivD, dRg1, dRg2, dLc, dYes, dLcGo, dGen, dGenGo, wipeD, boolsOf, intsOf, maxL, minL, noL, noLs, Option.map_some, Option.bind_some, List.all_cons, List.all_nil, List.any_cons, List.any_nil, id_eq, List.set_cons_zero, List.set_cons_succ, List.getElem?_cons_zero, List.getElem?_cons_succ, List.getElem?_nil, List.getD_cons_zero, List.getD_cons_succ, decide_eq_true_eq, decide_eq_false_iff_not, Bool.not_eq_true', Bool.not_true, Bool.not_false, Bool.and_true, Bool.true_and, Bool.and_false, Bool.false_and, Bool.false_eq_true, if_true, if_false, reduceIte, ite_true, ite_false, true_and, and_true, reduceCtorEq, Int.toNat_zero, Int.toNat_one, Int.cast_ofNat_Int, Int.reduceLT, Int.reduceLE, Int.reduceNeg, Int.reduceToNat, Int.reducePow, Int.reduceMul, Int.reduceAdd, Int.reduceSub, decide_true, decide_false]
  rw [if_neg (by omega)]
  exact ⟨.of (by omega) (by omega), .of (by omega) (by omega), h⟩
def sp_ends_of : SpD :=
  fun ds R => match ds with
  | [.tup [.int a, .int b]] => Iv (a, b) ∧ R (.tup [ivD (a / ((Nat.gcd a.natAbs 1099511627776 : Nat) : Int), 1099511627776 / ((Nat.gcd a.natAbs 1099511627776 : Nat) : Int)), ivD (b / ((Nat.gcd b.natAbs 1099511627776 : Nat) : Int), 1099511627776 / ((Nat.gcd b.natAbs 1099511627776 : Nat) : Int))])
  | _ => False
set_option maxHeartbeats 0 in
theorem ok_ends_of (T : Txt K mg) (D0 : Dfn K mg "ends_of" "ends_of" s_ends_of ["interval"] []) (C_check_interval : Cal P w K mg base tabs "check_interval" 3 1 ["interval"] [] sp_check_interval) (C_ratio_of : Cal P w K mg base tabs "ratio_of" 1 2 ["number", "under"] [] sp_ratio_of) : Cal P w K mg base tabs "ends_of" 4 1 ["interval"] [] sp_ends_of := by
  refine cal_of D0 sc_ends_of fun f cdv A outer s H E p ht hg hk hr => ⟨_, (pdss_cons (pds_expr (pdcC (C_check_interval.cal ht) hg hr (pda_cons (pd_var 0) pda_nil)))
      (pdss_one (pds_ret (pd_tup (pda_cons (pdcC (C_ratio_of.cal ht) hg hr (pda_cons (pd_ix (pd_var 0) pd_int) (pda_cons (pd_gint rfl T.m_ONE) pda_nil))) (pda_cons (pdcC (C_ratio_of.cal ht) hg hr (pda_cons (pd_ix (pd_var 0) pd_int) (pda_cons (pd_gint rfl T.m_ONE) pda_nil))) pda_nil)))))), ?_⟩
  intro ds R hl h; unfold sp_ends_of at h; split at h
  all_goals (try exact False.elim h)
  all_goals clear hl hg hr hk ht
  simp (implicitDefEqProofs := false) (maxSteps := 3000000) only [xSeq, xIf, xRet, xRaise, xOf, xB, xBK, xAsg, xTry, xHeard, mD0, mD1, mD2, startD, List.map_cons, List.map_nil, List.length_cons, List.length_nil, List.replicate, List.cons_append, List.nil_append, Nat.reduceAdd, Nat.reduceSub, Nat.zero_add, dSeq, dIfS, dOr, dAnd, dNot, dTst, dOp, dUn, dVar, dC, dB, dBK, dCons, dNil, dTup, dLst, dRet, dRetN, dRetF, dRetO, dBO, dFr, dRepL, dCatL, dRev, dRevL, dSlO, dCatO, cSorted, SpO.sp, dNext, dNever, dAsg, dPar, dPar3, dParO, dIf, dAndV, dOrV, dNotV, dCh, dCt, cLast, cLink, tLast, tLink, dDrop, dFor, dBrk, dCnt, dOwn, dApp, dExt, dFree, gPutO, dIxO, dLend, dLendT, dLcF, gN, gTu, gCn, gNl, gP0, gP1, gII, gIIc, gAdd, gNeg, gIx, gEq, gNe, gIs, gIsNot, gIn, gNotIn, gSl, oNone, oSome, gMt, gIndex, cTuple, cList, cI1, cI2, cInt, cLen, cMax, cMin, cMaxT, cMinT, dAug, cAll, cAny, cRepr, cSqrt, cIsi, tyN, isNon, kb_tt, kb_ii, kb_ib, kb_bi, kb_bb, kb_it, kb_bt, kb_nt, kb_ni, kb_lt, kb_li, kb_ti, kb_si, kb_st, kb_ss, rd, dTru, dRgN, dEnum, gMulT, gDivN, gDivNB, gEqF, dCallV, spOf, atD, ordD, dSq, dZip, dZipM, dZip3, zipD3_map, gShl, dParOO, zipD_map, ivD, dRg1, dRg2, dLc, dYes, dLcGo, dGen, dGenGo, wipeD, boolsOf, intsOf, maxL, minL, noL, noLs, Option.map_some, Option.bind_some, List.all_cons, List.all_nil, List.any_cons, List.any_nil, id_eq, List.set_cons_zero, List.set_cons_succ, List.getElem?_cons_zero, List.getElem?_cons_succ, List.getElem?_nil, List.getD_cons_zero, List.getD_cons_succ, decide_eq_true_eq, decide_eq_false_iff_not, Bool.not_eq_true', Bool.not_true, Bool.not_false, Bool.and_true, Bool.true_and, Bool.and_false, Bool.false_and, Bool.false_eq_true, if_true, if_false, reduceIte, ite_true, ite_false, true_and, and_true, reduceCtorEq, Int.toNat_zero, Int.toNat_one, Int.cast_ofNat_Int, Int.reduceLT, Int.reduceLE, Int.reduceNeg, Int.reduceToNat, Int.reducePow, Int.reduceMul, Int.reduceAdd, Int.reduceSub, decide_true, decide_false, sp_check_interval, sp_ratio_of]
  exact ⟨h.1, h.2⟩
def sp_width : SpD :=
  fun ds R => match ds with
  | [.tup [.int a, .int b]] => Iv (a, b) ∧ R (.int (b - a))
  | _ => False
set_option maxHeartbeats 0 in
theorem ok_width (T : Txt K mg) (D0 : Dfn K mg "width" "width" s_width ["interval"] [(["interval"], 0, [0])]) (C_check_interval : Cal P w K mg base tabs "check_interval" 3 1 ["interval"] [] sp_check_interval) : Cal P w K mg base tabs "width" 4 1 ["interval"] [(["interval"], 0, [0])] sp_width := by
  refine cal_of D0 sc_width fun f cdv A outer s H E p ht hg hk hr => ⟨_, (pdss_cons (pds_expr (pdcC (C_check_interval.cal ht) hg hr (pda_cons (pd_var 0) pda_nil)))
      (pdss_one (pds_ret (pd_bin opd_sub (pd_ix (pd_var 0) pd_int) (pd_ix (pd_var 0) pd_int))))), ?_⟩
  intro ds R hl h; unfold sp_width at h; split at h
  all_goals (try exact False.elim h)
  all_goals clear hl hg hr hk ht
  simp (implicitDefEqProofs := false) (maxSteps := 3000000) only [xSeq, xIf, xRet, xRaise, xOf, xB, xBK, xAsg, xTry, xHeard, mD0, mD1, mD2, startD, List.map_cons, List.map_nil, List.length_cons, List.length_nil, List.replicate, List.cons_append, List.nil_append, Nat.reduceAdd, Nat.reduceSub, Nat.zero_add, dSeq, dIfS, dOr, dAnd, dNot, dTst, dOp, dUn, dVar, dC, dB, dBK, dCons, dNil, dTup, dLst, dRet, dRetN, dRetF, dRetO, dBO, dFr, dRepL, dCatL, dRev, dRevL, dSlO, dCatO, cSorted, SpO.sp, dNext, dNever, dAsg, dPar, dPar3, dParO, dIf, dAndV, dOrV, dNotV, dCh, dCt, cLast, cLink, tLast, tLink, dDrop, dFor, dBrk, dCnt, dOwn, dApp, dExt, dFree, gPutO, dIxO, dLend, dLendT, dLcF, gN, gTu, gCn, gNl, gP0, gP1, gII, gIIc, gAdd, gNeg, gIx, gEq, gNe, gIs, gIsNot, gIn, gNotIn, gSl, oNone, oSome, gMt, gIndex, cTuple, cList, cI1, cI2, cInt, cLen, cMax, cMin, cMaxT, cMinT, dAug, cAll, cAny, cRepr, cSqrt, cIsi, tyN, isNon, kb_tt, kb_ii, kb_ib, kb_bi, kb_bb, kb_it, kb_bt, kb_nt, kb_ni, kb_lt, kb_li, kb_ti, kb_si, kb_st, kb_ss, rd, dTru, dRgN, dEnum, gMulT, gDivN, gDivNB, gEqF, dCallV, spOf, atD, ordD, dSq, dZip, dZipM, dZip3, zipD3_map, gShl, dParOO, zipD_map, ivD, dRg1, dRg2, dLc, dYes, dLcGo, dGen, dGenGo, wipeD, boolsOf, intsOf, maxL, minL, noL, noLs, Option.map_some, Option.bind_some, List.all_cons, List.all_nil, List.any_cons, List.any_nil, id_eq, List.set_cons_zero, List.set_cons_succ, List.getElem?_cons_zero, List.getElem?_cons_succ, List.getElem?_nil, List.getD_cons_zero, List.getD_cons_succ, decide_eq_true_eq, decide_eq_false_iff_not, Bool.not_eq_true', Bool.not_true, Bool.not_false, Bool.and_true, Bool.true_and, Bool.and_false, Bool.false_and, Bool.false_eq_true, if_true, if_false, reduceIte, ite_true, ite_false, true_and, and_true, reduceCtorEq, Int.toNat_zero, Int.toNat_one, Int.cast_ofNat_Int, Int.reduceLT, Int.reduceLE, Int.reduceNeg, Int.reduceToNat, Int.reducePow, Int.reduceMul, Int.reduceAdd, Int.reduceSub, decide_true, decide_false, sp_check_interval]
  exact ⟨h.1, h.2⟩
def sp_middle : SpD :=
  fun ds R => match ds with
  | [.tup [.int a, .int b]] => Iv (a, b) ∧ R (.int ((a + b) / 2))
  | _ => False
set_option maxHeartbeats 0 in
theorem ok_middle (T : Txt K mg) (D0 : Dfn K mg "middle" "middle" s_middle ["interval"] [(["interval"], 0, [0])]) (C_check_interval : Cal P w K mg base tabs "check_interval" 3 1 ["interval"] [] sp_check_interval) (C_middle_of : Cal P w K mg base tabs "middle_of" 1 1 ["interval"] [] sp_middle_of) : Cal P w K mg base tabs "middle" 4 1 ["interval"] [(["interval"], 0, [0])] sp_middle := by
  refine cal_of D0 sc_middle fun f cdv A outer s H E p ht hg hk hr => ⟨_, (pdss_cons (pds_expr (pdcC (C_check_interval.cal ht) hg hr (pda_cons (pd_var 0) pda_nil)))
      (pdss_one (pds_ret (pdcC (C_middle_of.cal ht) hg hr (pda_cons (pd_var 0) pda_nil))))), ?_⟩
  intro ds R hl h; unfold sp_middle at h; split at h
  all_goals (try exact False.elim h)
  all_goals clear hl hg hr hk ht
  simp (implicitDefEqProofs := false) (maxSteps := 3000000) only [xSeq, xIf, xRet, xRaise, xOf, xB, xBK, xAsg, xTry, xHeard, mD0, mD1, mD2, startD, List.map_cons, List.map_nil, List.length_cons, List.length_nil, List.replicate, List.cons_append, List.nil_append, Nat.reduceAdd, Nat.reduceSub, Nat.zero_add, dSeq, dIfS, dOr, dAnd, dNot, dTst, dOp, dUn, dVar, dC, dB, dBK, dCons, dNil, dTup, dLst, dRet, dRetN, dRetF, dRetO, dBO, dFr, dRepL, dCatL, dRev, dRevL, dSlO, dCatO, cSorted, SpO.sp, dNext, dNever, dAsg, dPar, dPar3, dParO, dIf, dAndV, dOrV, dNotV, dCh, dCt, cLast, cLink, tLast, tLink, dDrop, dFor, dBrk, dCnt, dOwn, dApp, dExt, dFree, gPutO, dIxO, dLend, dLendT, dLcF, gN, gTu, gCn, gNl, gP0, gP1, gII, gIIc, gAdd, gNeg, gIx, gEq, gNe, gIs, gIsNot, gIn, gNotIn, gSl, oNone, oSome, gMt, gIndex, cTuple, cList, cI1, cI2, cInt, cLen, cMax, cMin, cMaxT, cMinT, dAug, cAll, cAny, cRepr, cSqrt, cIsi, tyN, isNon, kb_tt, kb_ii, kb_ib, kb_bi, kb_bb, kb_it, kb_bt, kb_nt, kb_ni, kb_lt, kb_li, kb_ti, kb_si, kb_st, kb_ss, rd, dTru, dRgN, dEnum, gMulT, gDivN, gDivNB, gEqF, dCallV, spOf, atD, ordD, dSq, dZip, dZipM, dZip3, zipD3_map, gShl, dParOO, zipD_map, ivD, dRg1, dRg2, dLc, dYes, dLcGo, dGen, dGenGo, wipeD, boolsOf, intsOf, maxL, minL, noL, noLs, Option.map_some, Option.bind_some, List.all_cons, List.all_nil, List.any_cons, List.any_nil, id_eq, List.set_cons_zero, List.set_cons_succ, List.getElem?_cons_zero, List.getElem?_cons_succ, List.getElem?_nil, List.getD_cons_zero, List.getD_cons_succ, decide_eq_true_eq, decide_eq_false_iff_not, Bool.not_eq_true', Bool.not_true, Bool.not_false, Bool.and_true, Bool.true_and, Bool.and_false, Bool.false_and, Bool.false_eq_true, if_true, if_false, reduceIte, ite_true, ite_false, true_and, and_true, reduceCtorEq, Int.toNat_zero, Int.toNat_one, Int.cast_ofNat_Int, Int.reduceLT, Int.reduceLE, Int.reduceNeg, Int.reduceToNat, Int.reducePow, Int.reduceMul, Int.reduceAdd, Int.reduceSub, decide_true, decide_false, sp_check_interval, sp_middle_of]
  exact ⟨h.1, h.2⟩
def sp__law_top : SpD :=
  fun ds R => match ds with
  | [] => R (.int 1180591620717411303424)
  | _ => False
set_option maxHeartbeats 0 in
theorem ok__law_top (T : Txt K mg) (D0 : Dfn K mg "_law_top" "_law_top" s__law_top [] [])  : Cal P w K mg base tabs "_law_top" 1 0 [] [] sp__law_top := by
  refine cal_of D0 sc__law_top fun f cdv A outer s H E p ht hg hk hr => ⟨_, (pdss_one (pds_ret (pd_bin opd_mul (pd_bin opd_pow pd_int pd_int) (pd_bin opd_pow pd_int pd_int)))), ?_⟩
  intro ds R hl h; unfold sp__law_top at h; split at h
  all_goals (try exact False.elim h)
  all_goals clear hl hg hr hk ht
  simp (implicitDefEqProofs := false) (maxSteps := 3000000) only [xSeq, xIf, xRet, xRaise, xOf, xB, xBK, xAsg, xTry, xHeard, mD0, mD1, mD2, startD, List.map_cons, List.map_nil, List.length_cons, List.length_nil, List.replicate, List.cons_append, List.nil_append, Nat.reduceAdd, Nat.reduceSub, Nat.zero_add, dSeq, dIfS, dOr, dAnd, dNot, dTst, dOp, dUn, dVar, dC, dB, dBK, dCons, dNil, dTup, dLst, dRet, dRetN, dRetF, dRetO, dBO, dFr, dRepL, dCatL, dRev, dRevL, dSlO, dCatO, cSorted, SpO.sp, dNext, dNever, dAsg, dPar, dPar3, dParO, dIf, dAndV, dOrV, dNotV, dCh, dCt, cLast, cLink, tLast, tLink, dDrop, dFor, dBrk, dCnt, dOwn, dApp, dExt, dFree, gPutO, dIxO, dLend, dLendT, dLcF, gN, gTu, gCn, gNl, gP0, gP1, gII, gIIc, gAdd, gNeg, gIx, gEq, gNe, gIs, gIsNot, gIn, gNotIn, gSl, oNone, oSome, gMt, gIndex, cTuple, cList, cI1, cI2, cInt, cLen, cMax, cMin, cMaxT, cMinT, dAug, cAll, cAny, cRepr, cSqrt, cIsi, tyN, isNon, kb_tt, kb_ii, kb_ib, kb_bi, kb_bb, kb_it, kb_bt, kb_nt, kb_ni, kb_lt, kb_li, kb_ti, kb_si, kb_st, kb_ss, rd, dTru, dRgN, dEnum, gMulT, gDivN, gDivNB, gEqF, dCallV, spOf, atD, ordD, dSq, dZip, dZipM, dZip3, zipD3_map, gShl, dParOO, zipD_map, ivD, dRg1, dRg2, dLc, dYes, dLcGo, dGen, dGenGo, wipeD, boolsOf, intsOf, maxL, minL, noL, noLs, Option.map_some, Option.bind_some, List.all_cons, List.all_nil, List.any_cons, List.any_nil, id_eq, List.set_cons_zero, List.set_cons_succ, List.getElem?_cons_zero, List.getElem?_cons_succ, List.getElem?_nil, List.getD_cons_zero, List.getD_cons_succ, decide_eq_true_eq, decide_eq_false_iff_not, Bool.not_eq_true', Bool.not_true, Bool.not_false, Bool.and_true, Bool.true_and, Bool.and_false, Bool.false_and, Bool.false_eq_true, if_true, if_false, reduceIte, ite_true, ite_false, true_and, and_true, reduceCtorEq, Int.toNat_zero, Int.toNat_one, Int.cast_ofNat_Int, Int.reduceLT, Int.reduceLE, Int.reduceNeg, Int.reduceToNat, Int.reducePow, Int.reduceMul, Int.reduceAdd, Int.reduceSub, decide_true, decide_false]
  exact ⟨.left (by decide) (by decide), h⟩
def sp__law_down : SpD :=
  fun ds R => match ds with
  | [.int n, .int u] => BD u ∧ R (.int (n / u))
  | _ => False
set_option maxHeartbeats 0 in
theorem ok__law_down (T : Txt K mg) (D0 : Dfn K mg "_law_down" "_law_down" s__law_down ["number", "under"] [])  : Cal P w K mg base tabs "_law_down" 1 2 ["number", "under"] [] sp__law_down := by
  refine cal_of D0 sc__law_down fun f cdv A outer s H E p ht hg hk hr => ⟨_, (pdss_one (pds_ret (pd_bin opd_div (pd_var 0) (pd_var 1)))), ?_⟩
  intro ds R hl h; unfold sp__law_down at h; split at h
  all_goals (try exact False.elim h)
  all_goals clear hl hg hr hk ht
  simp (implicitDefEqProofs := false) (maxSteps := 3000000) only [xSeq, xIf, xRet, xRaise, xOf, xB, xBK, xAsg, xTry, xHeard, mD0, mD1, mD2, startD, List.map_cons, List.map_nil, List.length_cons, List.length_nil, List.replicate, List.cons_append, List.nil_append, Nat.reduceAdd, Nat.reduceSub, Nat.zero_add, dSeq, dIfS, dOr, dAnd, dNot, dTst, dOp, dUn, dVar, dC, dB, dBK, dCons, dNil, dTup, dLst, dRet, dRetN, dRetF, dRetO, dBO, dFr, dRepL, dCatL, dRev, dRevL, dSlO, dCatO, cSorted, SpO.sp, dNext, dNever, dAsg, dPar, dPar3, dParO, dIf, dAndV, dOrV, dNotV, dCh, dCt, cLast, cLink, tLast, tLink, dDrop, dFor, dBrk, dCnt, dOwn, dApp, dExt, dFree, gPutO, dIxO, dLend, dLendT, dLcF, gN, gTu, gCn, gNl, gP0, gP1, gII, gIIc, gAdd, gNeg, gIx, gEq, gNe, gIs, gIsNot, gIn, gNotIn, gSl, oNone, oSome, gMt, gIndex, cTuple, cList, cI1, cI2, cInt, cLen, cMax, cMin, cMaxT, cMinT, dAug, cAll, cAny, cRepr, cSqrt, cIsi, tyN, isNon, kb_tt, kb_ii, kb_ib, kb_bi, kb_bb, kb_it, kb_bt, kb_nt, kb_ni, kb_lt, kb_li, kb_ti, kb_si, kb_st, kb_ss, rd, dTru, dRgN, dEnum, gMulT, gDivN, gDivNB, gEqF, dCallV, spOf, atD, ordD, dSq, dZip, dZipM, dZip3, zipD3_map, gShl, dParOO, zipD_map, ivD, dRg1, dRg2, dLc, dYes, dLcGo, dGen, dGenGo, wipeD, boolsOf, intsOf, maxL, minL, noL, noLs, Option.map_some, Option.bind_some, List.all_cons, List.all_nil, List.any_cons, List.any_nil, id_eq, List.set_cons_zero, List.set_cons_succ, List.getElem?_cons_zero, List.getElem?_cons_succ, List.getElem?_nil, List.getD_cons_zero, List.getD_cons_succ, decide_eq_true_eq, decide_eq_false_iff_not, Bool.not_eq_true', Bool.not_true, Bool.not_false, Bool.and_true, Bool.true_and, Bool.and_false, Bool.false_and, Bool.false_eq_true, if_true, if_false, reduceIte, ite_true, ite_false, true_and, and_true, reduceCtorEq, Int.toNat_zero, Int.toNat_one, Int.cast_ofNat_Int, Int.reduceLT, Int.reduceLE, Int.reduceNeg, Int.reduceToNat, Int.reducePow, Int.reduceMul, Int.reduceAdd, Int.reduceSub, decide_true, decide_false]
  exact ⟨h.1, h.2⟩
def sp__law_up : SpD :=
  fun ds R => match ds with
  | [.int n, .int u] => BD u ∧ R (.int (-(-n / u)))
  | _ => False
set_option maxHeartbeats 0 in
theorem ok__law_up (T : Txt K mg) (D0 : Dfn K mg "_law_up" "_law_up" s__law_up ["number", "under"] [])  : Cal P w K mg base tabs "_law_up" 1 2 ["number", "under"] [] sp__law_up := by
  refine cal_of D0 sc__law_up fun f cdv A outer s H E p ht hg hk hr => ⟨_, (pdss_one (pds_ret (pd_un und_neg (pd_bin opd_div (pd_un und_neg (pd_var 0)) (pd_var 1))))), ?_⟩
  intro ds R hl h; unfold sp__law_up at h; split at h
  all_goals (try exact False.elim h)
  all_goals clear hl hg hr hk ht
  simp (implicitDefEqProofs := false) (maxSteps := 3000000) only [xSeq, xIf, xRet, xRaise, xOf, xB, xBK, xAsg, xTry, xHeard, mD0, mD1, mD2, startD, List.map_cons, List.map_nil, List.length_cons, List.length_nil, List.replicate, List.cons_append, List.nil_append, Nat.reduceAdd, Nat.reduceSub, Nat.zero_add, dSeq, dIfS, dOr, dAnd, dNot, dTst, dOp, dUn, dVar, dC, dB, dBK, dCons, dNil, dTup, dLst, dRet, dRetN, dRetF, dRetO, dBO, dFr, dRepL, dCatL, dRev, dRevL, dSlO, dCatO, cSorted, SpO.sp, dNext, dNever, dAsg, dPar, dPar3, dParO, dIf, dAndV, dOrV, dNotV, dCh, dCt, cLast, cLink, tLast, tLink, dDrop, dFor, dBrk, dCnt, dOwn, dApp, dExt, dFree, gPutO, dIxO, dLend, dLendT, dLcF, gN, gTu, gCn, gNl, gP0, gP1, gII, gIIc, gAdd, gNeg, gIx, gEq, gNe, gIs, gIsNot, gIn, gNotIn, gSl, oNone, oSome, gMt, gIndex, cTuple, cList, cI1, cI2, cInt, cLen, cMax, cMin, cMaxT, cMinT, dAug, cAll, cAny, cRepr, cSqrt, cIsi, tyN, isNon, kb_tt, kb_ii, kb_ib, kb_bi, kb_bb, kb_it, kb_bt, kb_nt, kb_ni, kb_lt, kb_li, kb_ti, kb_si, kb_st, kb_ss, rd, dTru, dRgN, dEnum, gMulT, gDivN, gDivNB, gEqF, dCallV, spOf, atD, ordD, dSq, dZip, dZipM, dZip3, zipD3_map, gShl, dParOO, zipD_map, ivD, dRg1, dRg2, dLc, dYes, dLcGo, dGen, dGenGo, wipeD, boolsOf, intsOf, maxL, minL, noL, noLs, Option.map_some, Option.bind_some, List.all_cons, List.all_nil, List.any_cons, List.any_nil, id_eq, List.set_cons_zero, List.set_cons_succ, List.getElem?_cons_zero, List.getElem?_cons_succ, List.getElem?_nil, List.getD_cons_zero, List.getD_cons_succ, decide_eq_true_eq, decide_eq_false_iff_not, Bool.not_eq_true', Bool.not_true, Bool.not_false, Bool.and_true, Bool.true_and, Bool.and_false, Bool.false_and, Bool.false_eq_true, if_true, if_false, reduceIte, ite_true, ite_false, true_and, and_true, reduceCtorEq, Int.toNat_zero, Int.toNat_one, Int.cast_ofNat_Int, Int.reduceLT, Int.reduceLE, Int.reduceNeg, Int.reduceToNat, Int.reducePow, Int.reduceMul, Int.reduceAdd, Int.reduceSub, decide_true, decide_false]
  exact ⟨h.1, h.2⟩
def sp__law_size : SpD :=
  fun ds R => match ds with
  | [.pot] => ∀ n : Int, 0 ≤ n → n ≤ 1180591620717411303424 → R (.int n)
  | _ => False
set_option maxHeartbeats 0 in
theorem ok__law_size (T : Txt K mg) (D0 : Dfn K mg "_law_size" "_law_size" s__law_size ["pot"] []) (C__law_draw : Cal P w K mg base tabs "_law_draw" 1 2 ["pot", "room"] [] sp__law_draw) (C__law_pick : Cal P w K mg base tabs "_law_pick" 2 2 ["pot", "some"] [] sp__law_pick) (C__law_one : Cal P w K mg base tabs "_law_one" 1 0 [] [] sp__law_one) : Cal P w K mg base tabs "_law_size" 3 1 ["pot"] [] sp__law_size := by
  refine cal_of D0 sc__law_size fun f cdv A outer s H E p ht hg hk hr => ⟨_, (pdss_cons (pds_set (i := 1) sc__law_size.nd rfl (Or.inl rfl) (pdcC (C__law_draw.cal ht) hg hr (pda_cons (pd_var 0) (pda_cons pd_int pda_nil))))
      (pdss_cons (pds_if (pdt_cmp (opd_eq hr.units) (pd_var 1) pd_int) (pdss_one (pds_ret (pd_bin opd_mul (pdcC (C__law_draw.cal ht) hg hr (pda_cons (pd_var 0) (pda_cons (pd_bin opd_pow pd_int pd_int) pda_nil))) (pdcC (C__law_draw.cal ht) hg hr (pda_cons (pd_var 0) (pda_cons (pd_bin opd_add (pd_bin opd_pow pd_int pd_int) pd_int) pda_nil)))))) pdss_nil)
      (pdss_cons (pds_if (pdt_cmp (opd_eq hr.units) (pd_var 1) pd_int) (pdss_one (pds_ret (pdcC (C__law_pick.cal ht) hg hr (pda_cons (pd_var 0) (pda_cons (pd_lst (pda_cons pd_int (pda_cons pd_int (pda_cons pd_int (pda_cons pd_int pda_nil))))) pda_nil))))) pdss_nil)
      (pdss_cons (pds_if (pdt_cmp (opd_eq hr.units) (pd_var 1) pd_int) (pdss_one (pds_ret (pd_bin opd_div (pd_bin opd_mul (pdcC (C__law_pick.cal ht) hg hr (pda_cons (pd_var 0) (pda_cons (pd_lst (pda_cons pd_int (pda_cons pd_int (pda_cons pd_int (pda_cons pd_int pda_nil))))) pda_nil))) (pdcC0 (C__law_one.cal ht) hg hr)) (pdcC (C__law_pick.cal ht) hg hr (pda_cons (pd_var 0) (pda_cons (pd_lst (pda_cons pd_int (pda_cons pd_int (pda_cons pd_int (pda_cons pd_int pda_nil))))) pda_nil)))))) pdss_nil)
      (pdss_cons (pds_if (pdt_cmp (opd_eq hr.units) (pd_var 1) pd_int) (pdss_one (pds_ret (pd_bin opd_add pd_int (pdcC (C__law_draw.cal ht) hg hr (pda_cons (pd_var 0) (pda_cons pd_int pda_nil)))))) pdss_nil)
      (pdss_cons (pds_if (pdt_cmp (opd_eq hr.units) (pd_var 1) pd_int) (pdss_one (pds_ret (pd_bin opd_mul (pdcC (C__law_draw.cal ht) hg hr (pda_cons (pd_var 0) (pda_cons pd_int pda_nil))) (pdcC (C__law_draw.cal ht) hg hr (pda_cons (pd_var 0) (pda_cons pd_int pda_nil)))))) pdss_nil)
      (pdss_one (pds_ret (pd_bin opd_add (pd_bin opd_mul (pdcC (C__law_draw.cal ht) hg hr (pda_cons (pd_var 0) (pda_cons pd_int pda_nil))) pd_int) (pdcC (C__law_draw.cal ht) hg hr (pda_cons (pd_var 0) (pda_cons pd_int pda_nil)))))))))))), ?_⟩
  intro ds R hl h; unfold sp__law_size at h; split at h
  all_goals (try exact False.elim h)
  all_goals clear hl hg hr hk ht
  simp (implicitDefEqProofs := false) (maxSteps := 3000000) only [xSeq, xIf, xRet, xRaise, xOf, xB, xBK, xAsg, xTry, xHeard, mD0, mD1, mD2, startD, List.map_cons, List.map_nil, List.length_cons, List.length_nil, List.replicate, List.cons_append, List.nil_append, Nat.reduceAdd, Nat.reduceSub, Nat.zero_add, dSeq, dIfS, dOr, dAnd, dNot, dTst, dOp, dUn, dVar, dC, dB, dBK, dCons, dNil, dTup, dLst, dRet, dRetN, dRetF, dRetO, dBO, dFr, dRepL, dCatL, dRev, dRevL, dSlO, dCatO, cSorted, SpO.sp, dNext, dNever, dAsg, dPar, dPar3, dParO, dIf, dAndV, dOrV, dNotV, dCh, dCt, cLast, cLink, tLast, tLink, dDrop, dFor, dBrk, dCnt, dOwn, dApp, dExt, dFree, gPutO, dIxO, dLend, dLendT, dLcF, gN, gTu, gCn, gNl, gP0, gP1, gII, gIIc, gAdd, gNeg, gIx, gEq, gNe, gIs, gIsNot, gIn, gNotIn, gSl, oNone, oSome, gMt, gIndex, cTuple, cList, cI1, cI2, cInt, cLen, cMax, cMin, cMaxT, cMinT, dAug, cAll, cAny, cRepr, cSqrt, cIsi, tyN, isNon, kb_tt, kb_ii, kb_ib, kb_bi, kb_bb, kb_it, kb_bt, kb_nt, kb_ni, kb_lt, kb_li, kb_ti, kb_si, kb_st, kb_ss, rd, dTru, dRgN, dEnum, gMulT, gDivN, gDivNB, gEqF, dCallV, spOf, atD, ordD, dSq, dZip, dZipM, dZip3, zipD3_map, gShl, dParOO, zipD_map, ivD, dRg1, dRg2, dLc, dYes, dLcGo, dGen, dGenGo, wipeD, boolsOf, intsOf, maxL, minL, noL, noLs, Option.map_some, Option.bind_some, List.all_cons, List.all_nil, List.any_cons, List.any_nil, id_eq, List.set_cons_zero, List.set_cons_succ, List.getElem?_cons_zero, List.getElem?_cons_succ, List.getElem?_nil, List.getD_cons_zero, List.getD_cons_succ, decide_eq_true_eq, decide_eq_false_iff_not, Bool.not_eq_true', Bool.not_true, Bool.not_false, Bool.and_true, Bool.true_and, Bool.and_false, Bool.false_and, Bool.false_eq_true, if_true, if_false, reduceIte, ite_true, ite_false, true_and, and_true, reduceCtorEq, Int.toNat_zero, Int.toNat_one, Int.cast_ofNat_Int, Int.reduceLT, Int.reduceLE, Int.reduceNeg, Int.reduceToNat, Int.reducePow, Int.reduceMul, Int.reduceAdd, Int.reduceSub, decide_true, decide_false, sp__law_draw, sp__law_pick, sp__law_one]
  intro w w0 w1
  refine ite2P (fun e => ?_) fun e => ?_
  · intro a a0 a1 b b0 b1
    have m1 := Int.mul_nonneg a0 b0
    have m2 := Int.mul_le_mul (show a ≤ 34359738368 by omega) (show b ≤ 34359738368 by omega) b0 (by omega)
    exact ⟨by (first | assumption | omega | (exact BD.of (by omega) (by omega)) | (exact BS.of (by omega) (by omega)) | (exact MulC.left (by omega) (by omega)) | (exact MulC.right (by omega) (by omega)) | (exact MulC.wide (by omega) (by omega) (by omega) (by omega)) | (exact em0 (by omega)) | (exact em1 (by omega)) | (exact ed0 (by omega) (by omega))), h _ (by omega) (by omega)⟩
  refine ite2P (fun e => ?_) fun e => ?_
  · refine ⟨⟨by omega, by omega⟩, fun x hx => ?_⟩
    have : x = .int 0 ∨ x = .int 1 ∨ x = .int 2 ∨ x = .int 3 := by simpa using hx
    rcases this with rfl | rfl | rfl | rfl <;> exact h _ (by omega) (by omega)
  refine ite2P (fun e => ?_) fun e => ?_
  · refine ⟨⟨by omega, by omega⟩, fun x hx => ?_⟩
    have : x = .int 1 ∨ x = .int 2 ∨ x = .int 3 ∨ x = .int 5 := by simpa using hx
    rcases this with rfl | rfl | rfl | rfl
    all_goals
      refine ⟨by (first | assumption | omega | (exact BD.of (by omega) (by omega)) | (exact BS.of (by omega) (by omega)) | (exact MulC.left (by omega) (by omega)) | (exact MulC.right (by omega) (by omega)) | (exact MulC.wide (by omega) (by omega) (by omega) (by omega)) | (exact em0 (by omega)) | (exact em1 (by omega)) | (exact ed0 (by omega) (by omega))), ⟨by omega, by omega⟩, fun y hy => ?_⟩
      have : y = .int 1 ∨ y = .int 2 ∨ y = .int 4 ∨ y = .int 3 := by simpa using hy
      rcases this with rfl | rfl | rfl | rfl <;> exact ⟨by (first | assumption | omega | (exact BD.of (by omega) (by omega)) | (exact BS.of (by omega) (by omega)) | (exact MulC.left (by omega) (by omega)) | (exact MulC.right (by omega) (by omega)) | (exact MulC.wide (by omega) (by omega) (by omega) (by omega)) | (exact em0 (by omega)) | (exact em1 (by omega)) | (exact ed0 (by omega) (by omega))), h _ (by omega) (by omega)⟩
  refine ite2P (fun e => ?_) fun e => ?_
  · intro a a0 a1
    exact h _ (by omega) (by omega)
  refine ite2P (fun e => ?_) fun e => ?_
  · intro a a0 a1 b b0 b1
    have m1 := Int.mul_nonneg a0 b0
    have m2 := Int.mul_le_mul (show a ≤ 1000000 by omega) (show b ≤ 1000000 by omega) b0 (by omega)
    exact ⟨by (first | assumption | omega | (exact BD.of (by omega) (by omega)) | (exact BS.of (by omega) (by omega)) | (exact MulC.left (by omega) (by omega)) | (exact MulC.right (by omega) (by omega)) | (exact MulC.wide (by omega) (by omega) (by omega) (by omega)) | (exact em0 (by omega)) | (exact em1 (by omega)) | (exact ed0 (by omega) (by omega))), h _ (by omega) (by omega)⟩
  · intro a a0 a1
    refine ⟨by (first | assumption | omega | (exact BD.of (by omega) (by omega)) | (exact BS.of (by omega) (by omega)) | (exact MulC.left (by omega) (by omega)) | (exact MulC.right (by omega) (by omega)) | (exact MulC.wide (by omega) (by omega) (by omega) (by omega)) | (exact em0 (by omega)) | (exact em1 (by omega)) | (exact ed0 (by omega) (by omega))), fun b b0 b1 => h _ (by omega) (by omega)⟩
def sp__law_number : SpD :=
  fun ds R => match ds with
  | [.pot] => ∀ n : Int, -1180591620717411303424 ≤ n → n ≤ 1180591620717411303424 → R (.int n)
  | _ => False
set_option maxHeartbeats 0 in
theorem ok__law_number (T : Txt K mg) (D0 : Dfn K mg "_law_number" "_law_number" s__law_number ["pot"] []) (C__law_size : Cal P w K mg base tabs "_law_size" 3 1 ["pot"] [] sp__law_size) (C__law_draw : Cal P w K mg base tabs "_law_draw" 1 2 ["pot", "room"] [] sp__law_draw) : Cal P w K mg base tabs "_law_number" 4 1 ["pot"] [] sp__law_number := by
  refine cal_of D0 sc__law_number fun f cdv A outer s H E p ht hg hk hr => ⟨_, (pdss_cons (pds_set (i := 1) sc__law_number.nd rfl (Or.inl rfl) (pdcC (C__law_size.cal ht) hg hr (pda_cons (pd_var 0) pda_nil)))
      (pdss_one (pds_ret (pd_ifx (pdt_cmp (opd_eq hr.units) (pdcC (C__law_draw.cal ht) hg hr (pda_cons (pd_var 0) (pda_cons pd_int pda_nil))) pd_int) (pd_un und_neg (pd_var 1)) (pd_var 1))))), ?_⟩
  intro ds R hl h; unfold sp__law_number at h; split at h
  all_goals (try exact False.elim h)
  all_goals clear hl hg hr hk ht
  simp (implicitDefEqProofs := false) (maxSteps := 3000000) only [xSeq, xIf, xRet, xRaise, xOf, xB, xBK, xAsg, xTry, xHeard, mD0, mD1, mD2, startD, List.map_cons, List.map_nil, List.length_cons, List.length_nil, List.replicate, List.cons_append, List.nil_append, Nat.reduceAdd, Nat.reduceSub, Nat.zero_add, dSeq, dIfS, dOr, dAnd, dNot, dTst, dOp, dUn, dVar, dC, dB, dBK, dCons, dNil, dTup, dLst, dRet, dRetN, dRetF, dRetO, dBO, dFr, dRepL, dCatL, dRev, dRevL, dSlO, dCatO, cSorted, SpO.sp, dNext, dNever, dAsg, dPar, dPar3, dParO, dIf, dAndV, dOrV, dNotV, dCh, dCt, cLast, cLink, tLast, tLink, dDrop, dFor, dBrk, dCnt, dOwn, dApp, dExt, dFree, gPutO, dIxO, dLend, dLendT, dLcF, gN, gTu, gCn, gNl, gP0, gP1, gII, gIIc, gAdd, gNeg, gIx, gEq, gNe, gIs, gIsNot, gIn, gNotIn, gSl, oNone, oSome, gMt, gIndex, cTuple, cList, cI1, cI2, cInt, cLen, cMax, cMin, cMaxT, cMinT, dAug, cAll, cAny, cRepr, cSqrt, cIsi, tyN, isNon, kb_tt, kb_ii, kb_ib, kb_bi, kb_bb, kb_it, kb_bt, kb_nt, kb_ni, kb_lt, kb_li, kb_ti, kb_si, kb_st, kb_ss, rd, dTru, dRgN, dEnum, gMulT, gDivN, gDivNB, gEqF, dCallV, spOf, atD, ordD, dSq, dZip, dZipM, dZip3, zipD3_map, gShl, dParOO, zipD_map, ivD, dRg1, dRg2, dLc, dYes, dLcGo, dGen, dGenGo, wipeD, boolsOf, intsOf, maxL, minL, noL, noLs, Option.map_some, Option.bind_some, List.all_cons, List.all_nil, List.any_cons, List.any_nil, id_eq, List.set_cons_zero, List.set_cons_succ, List.getElem?_cons_zero, List.getElem?_cons_succ, List.getElem?_nil, List.getD_cons_zero, List.getD_cons_succ, decide_eq_true_eq, decide_eq_false_iff_not, Bool.not_eq_true', Bool.not_true, Bool.not_false, Bool.and_true, Bool.true_and, Bool.and_false, Bool.false_and, Bool.false_eq_true, if_true, if_false, reduceIte, ite_true, ite_false, true_and, and_true, reduceCtorEq, Int.toNat_zero, Int.toNat_one, Int.cast_ofNat_Int, Int.reduceLT, Int.reduceLE, Int.reduceNeg, Int.reduceToNat, Int.reducePow, Int.reduceMul, Int.reduceAdd, Int.reduceSub, decide_true, decide_false, sp__law_size, sp__law_draw]
  intro n n0 n1 w w0 w1
  by_cases e : w = 0
  · rw [if_pos e]
    exact h _ (by omega) (by omega)
  · rw [if_neg e]
    exact h _ (by omega) (by omega)
def sp__law_interval : SpD :=
  fun ds R => match ds with
  | [.pot] => ∀ q, Iv q → R (ivD q)
  | _ => False
set_option maxHeartbeats 0 in
theorem ok__law_interval (T : Txt K mg) (D0 : Dfn K mg "_law_interval" "_law_interval" s__law_interval ["pot"] []) (C__law_number : Cal P w K mg base tabs "_law_number" 4 1 ["pot"] [] sp__law_number) (C__law_draw : Cal P w K mg base tabs "_law_draw" 1 2 ["pot", "room"] [] sp__law_draw) : Cal P w K mg base tabs "_law_interval" 5 1 ["pot"] [] sp__law_interval := by
  refine cal_of D0 sc__law_interval fun f cdv A outer s H E p ht hg hk hr => ⟨_, (pdss_cons (pds_par (i := 1) (j := 2) rfl sc__law_interval.nd rfl rfl (by decide) rfl rfl (pda_cons (pdcC (C__law_number.cal ht) hg hr (pda_cons (pd_var 0) pda_nil)) (pda_cons (pdcC (C__law_number.cal ht) hg hr (pda_cons (pd_var 0) pda_nil)) pda_nil)) (by rfl))
      (pdss_cons (pds_if (pdt_cmp (opd_eq hr.units) (pdcC (C__law_draw.cal ht) hg hr (pda_cons (pd_var 0) (pda_cons pd_int pda_nil))) pd_int) (pdss_one (pds_set (i := 2) sc__law_interval.nd rfl (Or.inl rfl) (pd_var 1))) pdss_nil)
      (pdss_one (pds_ret (pd_tup (pda_cons (pd_callB (cd_minT rfl hr.u65) rfl T.b_min PyProof.Rows.boot_min (pda_cons (pd_var 1) (pda_cons (pd_var 2) pda_nil))) (pda_cons (pd_callB (cd_maxT rfl hr.u65) rfl T.b_max PyProof.Rows.boot_max (pda_cons (pd_var 1) (pda_cons (pd_var 2) pda_nil))) pda_nil))))))), ?_⟩
  intro ds R hl h; unfold sp__law_interval at h; split at h
  all_goals (try exact False.elim h)
  all_goals clear hl hg hr hk ht
  simp (implicitDefEqProofs := false) (maxSteps := 3000000) only [xSeq, xIf, xRet, xRaise, xOf, xB, xBK, xAsg, xTry, xHeard, mD0, mD1, mD2, startD, List.map_cons, List.map_nil, List.length_cons, List.length_nil, List.replicate, List.cons_append, List.nil_append, Nat.reduceAdd, Nat.reduceSub, Nat.zero_add, dSeq, dIfS, dOr, dAnd, dNot, dTst, dOp, dUn, dVar, dC, dB, dBK, dCons, dNil, dTup, dLst, dRet, dRetN, dRetF, dRetO, dBO, dFr, dRepL, dCatL, dRev, dRevL, dSlO, dCatO, cSorted, SpO.sp, dNext, dNever, dAsg, dPar, dPar3, dParO, dIf, dAndV, dOrV, dNotV, dCh, dCt, cLast, cLink, tLast, tLink, dDrop, dFor, dBrk, dCnt, dOwn, dApp, dExt, dFree, gPutO, dIxO, dLend, dLendT, dLcF, gN, gTu, gCn, gNl, gP0, gP1, gII, gIIc, gAdd, gNeg, gIx, gEq, gNe, gIs, gIsNot, gIn, gNotIn, gSl, oNone, oSome, gMt, gIndex, cTuple, cList, cI1, cI2, cInt, cLen, cMax, cMin, cMaxT, cMinT, dAug, cAll, cAny, cRepr, cSqrt, cIsi, tyN, isNon, kb_tt, kb_ii, kb_ib, kb_bi, kb_bb, kb_it, kb_bt, kb_nt, kb_ni, kb_lt, kb_li, kb_ti, kb_si, kb_st, kb_ss, rd, dTru, dRgN, dEnum, gMulT, gDivN, gDivNB, gEqF, dCallV, spOf, atD, ordD, dSq, dZip, dZipM, dZip3, zipD3_map, gShl, dParOO, zipD_map, ivD, dRg1, dRg2, dLc, dYes, dLcGo, dGen, dGenGo, wipeD, boolsOf, intsOf, maxL, minL, noL, noLs, Option.map_some, Option.bind_some, List.all_cons, List.all_nil, List.any_cons, List.any_nil, id_eq, List.set_cons_zero, List.set_cons_succ, List.getElem?_cons_zero, List.getElem?_cons_succ, List.getElem?_nil, List.getD_cons_zero, List.getD_cons_succ, decide_eq_true_eq, decide_eq_false_iff_not, Bool.not_eq_true', Bool.not_true, Bool.not_false, Bool.and_true, Bool.true_and, Bool.and_false, Bool.false_and, Bool.false_eq_true, if_true, if_false, reduceIte, ite_true, ite_false, true_and, and_true, reduceCtorEq, Int.toNat_zero, Int.toNat_one, Int.cast_ofNat_Int, Int.reduceLT, Int.reduceLE, Int.reduceNeg, Int.reduceToNat, Int.reducePow, Int.reduceMul, Int.reduceAdd, Int.reduceSub, decide_true, decide_false, sp__law_number, sp__law_draw]
  intro a a0 a1 b b0 b1 w w0 w1
  refine ite2P (fun e => ?_) fun e => ?_
  · exact h (_, _) ⟨by show _ ≤ min _ _; omega, by show min _ _ ≤ max _ _; omega, by show max _ _ ≤ _; omega⟩
  · exact h (_, _) ⟨by show _ ≤ min _ _; omega, by show min _ _ ≤ max _ _; omega, by show max _ _ ≤ _; omega⟩
def sp__law_within : SpD :=
  fun ds R => match ds with
  | [.pot, .tup [.int a, .int b]] => Iv (a, b) ∧ ∀ q, Rt q → In (a, b) q → R (ivD q)
  | _ => False
set_option maxHeartbeats 0 in
theorem ok__law_within (T : Txt K mg) (D0 : Dfn K mg "_law_within" "_law_within" s__law_within ["pot", "interval"] []) (C__law_draw : Cal P w K mg base tabs "_law_draw" 1 2 ["pot", "room"] [] sp__law_draw) (C__law_ratio : Cal P w K mg base tabs "_law_ratio" 2 2 ["number", "under"] [] sp__law_ratio) (C__law_one : Cal P w K mg base tabs "_law_one" 1 0 [] [] sp__law_one) : Cal P w K mg base tabs "_law_within" 3 2 ["pot", "interval"] [] sp__law_within := by
  refine cal_of D0 sc__law_within fun f cdv A outer s H E p ht hg hk hr => ⟨_, (pdss_cons (pds_asg (pd_var 1) (pdg_tup (n := 2) rfl (pdgs_cons (pdg_name (i := 2) sc__law_within.nd rfl (Or.inl rfl)) (pdgs_cons (pdg_name (i := 3) sc__law_within.nd rfl (Or.inl rfl)) pdgs_nil))))
      (pdss_cons (pds_set (i := 4) sc__law_within.nd rfl (Or.inl rfl) (pd_bin opd_add pd_int (pdcC (C__law_draw.cal ht) hg hr (pda_cons (pd_var 0) (pda_cons pd_int pda_nil)))))
      (pdss_cons (pds_set (i := 5) sc__law_within.nd rfl (Or.inl rfl) (pdcC (C__law_draw.cal ht) hg hr (pda_cons (pd_var 0) (pda_cons (pd_bin opd_add (pd_var 4) pd_int) pda_nil))))
      (pdss_one (pds_ret (pdcC (C__law_ratio.cal ht) hg hr (pda_cons (pd_bin opd_add (pd_bin opd_mul (pd_var 2) (pd_bin opd_sub (pd_var 4) (pd_var 5))) (pd_bin opd_mul (pd_var 3) (pd_var 5))) (pda_cons (pd_bin opd_mul (pd_var 4) (pdcC0 (C__law_one.cal ht) hg hr)) pda_nil)))))))), ?_⟩
  intro ds R hl h; unfold sp__law_within at h; split at h
  all_goals (try exact False.elim h)
  all_goals clear hl hg hr hk ht
  rename_i a b
  obtain ⟨⟨h1, h2, h3⟩, h⟩ := h
  simp only [] at h1 h2 h3
  simp (implicitDefEqProofs := false) (maxSteps := 3000000) only [xSeq, xIf, xRet, xRaise, xOf, xB, xBK, xAsg, xTry, xHeard, mD0, mD1, mD2, startD, List.map_cons, List.map_nil, List.length_cons, List.length_nil, List.replicate, List.cons_append, List.nil_append, Nat.reduceAdd, Nat.reduceSub, Nat.zero_add, dSeq, dIfS, dOr, dAnd, dNot, dTst, dOp, dUn, dVar, dC, dB, dBK, dCons, dNil, dTup, dLst, dRet, dRetN, dRetF, dRetO, dBO, dFr, dRepL, dCatL, dRev, dRevL, dSlO, dCatO, cSorted, SpO.sp, dNext, dNever, dAsg, dPar, dPar3, dParO, dIf, dAndV, dOrV, dNotV, dCh, dCt, cLast, cLink, tLast, tLink, dDrop, dFor, dBrk, dCnt, dOwn, dApp, dExt, dFree, gPutO, dIxO, dLend, dLendT, dLcF, gN, gTu, gCn, gNl, gP0, gP1, gII, gIIc, gAdd, gNeg, gIx, gEq, gNe, gIs, gIsNot, gIn, gNotIn, gSl, oNone, oSome, gMt, gIndex, cTuple, cList, cI1, cI2, cInt, cLen, cMax, cMin, cMaxT, cMinT, dAug, cAll, cAny, cRepr, cSqrt, cIsi, tyN, isNon, kb_tt, kb_ii, kb_ib, kb_bi, kb_bb, kb_it, kb_bt, kb_nt, kb_ni, kb_lt, kb_li, kb_ti, kb_si, kb_st, kb_ss, rd, dTru, dRgN, dEnum, gMulT, gDivN, gDivNB, gEqF, dCallV, spOf, atD, ordD, dSq, dZip, dZipM, dZip3, zipD3_map, gShl, dParOO, zipD_map, ivD, dRg1, dRg2, dLc, dYes, dLcGo, dGen, dGenGo, wipeD, boolsOf, intsOf, maxL, minL, noL, noLs, Option.map_some, Option.bind_some, List.all_cons, List.all_nil, List.any_cons, List.any_nil, id_eq, List.set_cons_zero, List.set_cons_succ, List.getElem?_cons_zero, List.getElem?_cons_succ, List.getElem?_nil, List.getD_cons_zero, List.getD_cons_succ, decide_eq_true_eq, decide_eq_false_iff_not, Bool.not_eq_true', Bool.not_true, Bool.not_false, Bool.and_true, Bool.true_and, Bool.and_false, Bool.false_and, Bool.false_eq_true, if_true, if_false, reduceIte, ite_true, ite_false, true_and, and_true, reduceCtorEq, Int.toNat_zero, Int.toNat_one, Int.cast_ofNat_Int, Int.reduceLT, Int.reduceLE, Int.reduceNeg, Int.reduceToNat, Int.reducePow, Int.reduceMul, Int.reduceAdd, Int.reduceSub, decide_true, decide_false, sp__law_draw, sp__law_ratio, sp__law_one]
  intro u u0 u1
  refine ⟨⟨by omega, by omega⟩, fun r r0 r1 => ⟨.right (by omega) (by omega), .right (by omega) (by omega), .left (by omega) (by omega), ⟨by omega, by omega, by omega⟩, fun q hq e _ _ => h q hq ?_⟩⟩
  have q0 : 1 ≤ q.2 := hq.pos
  have m1 := Int.mul_le_mul_of_nonneg_right h2 r0
  have m2 := Int.mul_le_mul_of_nonneg_right h2 (show 0 ≤ 1 + u - r by omega)
  have s1 : a * (1 + u) = a * (1 + u - r) + a * r := by rw [← Int.mul_add]; congr 1; omega
  have s2 : b * (1 + u) = b * (1 + u - r) + b * r := by rw [← Int.mul_add]; congr 1; omega
  have g1 := Int.mul_le_mul_of_nonneg_right (show a * (1 + u) ≤ a * (1 + u - r) + b * r by omega) (show 0 ≤ q.2 by omega)
  have g2 := Int.mul_le_mul_of_nonneg_right (show a * (1 + u - r) + b * r ≤ b * (1 + u) by omega) (show 0 ≤ q.2 by omega)
  have e1 : q.1 * ((1 + u) * 1099511627776) = q.1 * 1099511627776 * (1 + u) := by grind
  have e2 : a * (1 + u) * q.2 = a * q.2 * (1 + u) := by grind
  have e3 : b * (1 + u) * q.2 = b * q.2 * (1 + u) := by grind
  exact ⟨Int.le_of_mul_le_mul_right (by show a * q.2 * (1 + u) ≤ q.1 * 1099511627776 * (1 + u); omega) (show 0 < 1 + u by omega), Int.le_of_mul_le_mul_right (by show q.1 * 1099511627776 * (1 + u) ≤ b * q.2 * (1 + u); omega) (show 0 < 1 + u by omega)⟩
def sp__law_rounded : SpD :=
  fun ds R => ∃ (x : Int) (l : List Int) (u : Int), ds = [.lst ((x :: l).map .int), .int u] ∧ (BD u) ∧ R (roundD (minL x l / u, -(-maxL x l / u)))
set_option maxHeartbeats 0 in
theorem ok__law_rounded (T : Txt K mg) (D0 : Dfn K mg "_law_rounded" "_law_rounded" s__law_rounded ["numbers", "under"] []) (C__law_up : Cal P w K mg base tabs "_law_up" 1 2 ["number", "under"] [] sp__law_up) (C__law_down : Cal P w K mg base tabs "_law_down" 1 2 ["number", "under"] [] sp__law_down) (C__law_top : Cal P w K mg base tabs "_law_top" 1 0 [] [] sp__law_top) : Cal P w K mg base tabs "_law_rounded" 2 2 ["numbers", "under"] [] sp__law_rounded := by
  refine cal_of D0 sc__law_rounded fun f cdv A outer s H E p ht hg hk hr => ⟨_, (pdss_cons (pds_par (i := 2) (j := 3) rfl sc__law_rounded.nd rfl rfl (by decide) rfl rfl (pda_cons (pdcC (C__law_down.cal ht) hg hr (pda_cons (pd_callB (cd_minT rfl hr.u65) rfl T.b_min PyProof.Rows.boot_min (pda_cons (pd_var 0) pda_nil)) (pda_cons (pd_var 1) pda_nil))) (pda_cons (pdcC (C__law_up.cal ht) hg hr (pda_cons (pd_callB (cd_maxT rfl hr.u65) rfl T.b_max PyProof.Rows.boot_max (pda_cons (pd_var 0) pda_nil)) (pda_cons (pd_var 1) pda_nil))) pda_nil)) (by rfl))
      (pdss_one (pds_ret (pd_ifx (pdw_t (pdw_and (pdt_cmp opd_le (pd_un und_neg (pdcC0 (C__law_top.cal ht) hg hr)) (pd_var 2)) (pdw_and1 (pdt_cmp opd_le (pd_var 3) (pdcC0 (C__law_top.cal ht) hg hr))))) (pd_tup (pda_cons (pd_var 2) (pda_cons (pd_var 3) pda_nil))) pd_non)))), ?_⟩
  intro ds R hl h; unfold sp__law_rounded at h
  clear hl hg hr hk ht
  obtain ⟨x, l, u, rfl, hu, h⟩ := h
  rw [List.map_cons]
  simp (implicitDefEqProofs := false) (maxSteps := 3000000) only [xSeq, xIf, xRet, xRaise, xOf, xB, xBK, xAsg, xTry, xHeard, mD0, mD1, mD2, startD, List.map_cons, List.map_nil, List.length_cons, List.length_nil, List.replicate, List.cons_append, List.nil_append, Nat.reduceAdd, Nat.reduceSub, Nat.zero_add, dSeq, dIfS, dOr, dAnd, dNot, dTst, dOp, dUn, dVar, dC, dB, dBK, dCons, dNil, dTup, dLst, dRet, dRetN, dRetF, dRetO, dBO, dFr, dRepL, dCatL, dRev, dRevL, dSlO, dCatO, cSorted, SpO.sp, dNext, dNever, dAsg, dPar, dPar3, dParO, dIf, dAndV, dOrV, dNotV, dCh, dCt, cLast, cLink, tLast, tLink, dDrop, dFor, dBrk, dCnt, dOwn, dApp, dExt, dFree, gPutO, dIxO, dLend, dLendT, dLcF, gN, gTu, gCn, gNl, gP0, gP1, gII, gIIc, gAdd, gNeg, gIx, gEq, gNe, gIs, gIsNot, gIn, gNotIn, gSl, oNone, oSome, gMt, gIndex, cTuple, cList, cI1, cI2, cInt, cLen, cMax, cMin, cMaxT, cMinT, dAug, cAll, cAny, cRepr, cSqrt, cIsi, tyN, isNon, kb_tt, kb_ii, kb_ib, kb_bi, kb_bb, kb_it, kb_bt, kb_nt, kb_ni, kb_lt, kb_li, kb_ti, kb_si, kb_st, kb_ss, rd, dTru, dRgN, dEnum, gMulT, gDivN, gDivNB, gEqF, dCallV, spOf, atD, ordD, dSq, dZip, dZipM, dZip3, zipD3_map, gShl, dParOO, zipD_map, ivD, dRg1, dRg2, dLc, dYes, dLcGo, dGen, dGenGo, wipeD, boolsOf, intsOf, maxL, minL, noL, noLs, Option.map_some, Option.bind_some, List.all_cons, List.all_nil, List.any_cons, List.any_nil, id_eq, List.set_cons_zero, List.set_cons_succ, List.getElem?_cons_zero, List.getElem?_cons_succ, List.getElem?_nil, List.getD_cons_zero, List.getD_cons_succ, decide_eq_true_eq, decide_eq_false_iff_not, Bool.not_eq_true', Bool.not_true, Bool.not_false, Bool.and_true, Bool.true_and, Bool.and_false, Bool.false_and, Bool.false_eq_true, if_true, if_false, reduceIte, ite_true, ite_false, true_and, and_true, reduceCtorEq, Int.toNat_zero, Int.toNat_one, Int.cast_ofNat_Int, Int.reduceLT, Int.reduceLE, Int.reduceNeg, Int.reduceToNat, Int.reducePow, Int.reduceMul, Int.reduceAdd, Int.reduceSub, decide_true, decide_false, sp__law_up, sp__law_down, sp__law_top]
  rw [ints_id]
  simp only [Option.map_some]
  refine ⟨hu, hu, ?_⟩
  unfold roundD at h
  simp only [] at h
  by_cases c1 : -1180591620717411303424 ≤ minL x l / u
  · rw [if_pos c1]
    by_cases c2 : -(-maxL x l / u) ≤ 1180591620717411303424
    · rw [if_pos c2]
      rw [if_pos ⟨c1, c2⟩] at h
      exact h
    · rw [if_neg c2]
      rw [if_neg (fun z => c2 z.2)] at h
      exact h
  · rw [if_neg c1]
    rw [if_neg (fun z => c1 z.1)] at h
    exact h
def sp__law_product_of : SpD :=
  fun ds R => match ds with
  | [.tup [.int a, .int b], .tup [.int c, .int d]] => (Iv (a, b) ∧ Iv (c, d)) ∧ R (.lst [.int (a * c), .int (a * d), .int (b * c), .int (b * d)])
  | _ => False
set_option maxHeartbeats 0 in
theorem ok__law_product_of (T : Txt K mg) (D0 : Dfn K mg "_law_product_of" "_law_product_of" s__law_product_of ["one", "other"] [])  : Cal P w K mg base tabs "_law_product_of" 1 2 ["one", "other"] [] sp__law_product_of := by
  refine cal_of D0 sc__law_product_of fun f cdv A outer s H E p ht hg hk hr => ⟨_, (pdss_cons (pds_own (i := 2) sc__law_product_of.nd rfl (Or.inl rfl) (pdf_lst pda_nil))
      (pdss_cons (pds_for rfl PassesOwn.never (pdi_sq (pd_var 0)) (pdg_name (i := 3) sc__law_product_of.nd rfl (Or.inr rfl)) (pdss_one (pds_ext (i := 2) (pdf_lc (own := [("far", 4)]) (t := (L2.gName 4)) rfl sc__law_product_of.nd (pdi_sq (pd_var 1)) (show blkC ["one", "other", "found", "near", "far"] (defScope s__law_product_of) _ _ = true by decide +kernel) (fun _ _ _ _ _ => (pgw_name (i := 4) (vs := [4]) sc__law_product_of.nd rfl (Or.inl rfl))) (fun _ _ _ _ _ => (pd_bin opd_mul (pd_var 3) (pd_var 4))) (sh := s)))))
      (pdss_one (pds_free 2 (pds_ret (pd_var 2)))))), ?_⟩
  intro ds R hl h; unfold sp__law_product_of at h; split at h
  all_goals (try exact False.elim h)
  all_goals clear hl hg hr hk ht
  rename_i a b c d
  obtain ⟨⟨⟨h1, h2, h3⟩, ⟨k1, k2, k3⟩⟩, h⟩ := h
  simp only [] at h1 h2 h3 k1 k2 k3
  simp (implicitDefEqProofs := false) (maxSteps := 3000000) only [xSeq, xIf, xRet, xRaise, xOf, xB, xBK, xAsg, xTry, xHeard, mD0, mD1, mD2, startD, List.map_cons, List.map_nil, List.length_cons, List.length_nil, List.replicate, List.cons_append, List.nil_append, Nat.reduceAdd, Nat.reduceSub, Nat.zero_add, dSeq, dIfS, dOr, dAnd, dNot, dTst, dOp, dUn, dVar, dC, dB, dBK, dCons, dNil, dTup, dLst, dRet, dRetN, dRetF, dRetO, dBO, dFr, dRepL, dCatL, dRev, dRevL, dSlO, dCatO, cSorted, SpO.sp, dNext, dNever, dAsg, dPar, dPar3, dParO, dIf, dAndV, dOrV, dNotV, dCh, dCt, cLast, cLink, tLast, tLink, dDrop, dFor, dBrk, dCnt, dOwn, dApp, dExt, dFree, gPutO, dIxO, dLend, dLendT, dLcF, gN, gTu, gCn, gNl, gP0, gP1, gII, gIIc, gAdd, gNeg, gIx, gEq, gNe, gIs, gIsNot, gIn, gNotIn, gSl, oNone, oSome, gMt, gIndex, cTuple, cList, cI1, cI2, cInt, cLen, cMax, cMin, cMaxT, cMinT, dAug, cAll, cAny, cRepr, cSqrt, cIsi, tyN, isNon, kb_tt, kb_ii, kb_ib, kb_bi, kb_bb, kb_it, kb_bt, kb_nt, kb_ni, kb_lt, kb_li, kb_ti, kb_si, kb_st, kb_ss, rd, dTru, dRgN, dEnum, gMulT, gDivN, gDivNB, gEqF, dCallV, spOf, atD, ordD, dSq, dZip, dZipM, dZip3, zipD3_map, gShl, dParOO, zipD_map, ivD, dRg1, dRg2, dLc, dYes, dLcGo, dGen, dGenGo, wipeD, boolsOf, intsOf, maxL, minL, noL, noLs, Option.map_some, Option.bind_some, List.all_cons, List.all_nil, List.any_cons, List.any_nil, id_eq, List.set_cons_zero, List.set_cons_succ, List.getElem?_cons_zero, List.getElem?_cons_succ, List.getElem?_nil, List.getD_cons_zero, List.getD_cons_succ, decide_eq_true_eq, decide_eq_false_iff_not, Bool.not_eq_true', Bool.not_true, Bool.not_false, Bool.and_true, Bool.true_and, Bool.and_false, Bool.false_and, Bool.false_eq_true, if_true, if_false, reduceIte, ite_true, ite_false, true_and, and_true, reduceCtorEq, Int.toNat_zero, Int.toNat_one, Int.cast_ofNat_Int, Int.reduceLT, Int.reduceLE, Int.reduceNeg, Int.reduceToNat, Int.reducePow, Int.reduceMul, Int.reduceAdd, Int.reduceSub, decide_true, decide_false, dForGo]
  exact ⟨.of 2 rfl (by omega), .wide (by omega) (by omega) (by omega) (by omega), .wide (by omega) (by omega) (by omega) (by omega), by decide, .of 2 rfl (by omega), .wide (by omega) (by omega) (by omega) (by omega), .wide (by omega) (by omega) (by omega) (by omega), by decide, h⟩
def sp__law_power : SpD :=
  fun ds R => match ds with
  | [.int b, .int m] => (Big 71 b ∧ 0 ≤ m ∧ m ≤ 41) ∧ R (.int (b ^ m.toNat))
  | _ => False
set_option maxHeartbeats 0 in
theorem ok__law_power (T : Txt K mg) (D0 : Dfn K mg "_law_power" "_law_power" s__law_power ["number", "many"] [])  : Cal P w K mg base tabs "_law_power" 1 2 ["number", "many"] [] sp__law_power := by
  refine cal_of D0 sc__law_power fun f cdv A outer s H E p ht hg hk hr => ⟨_, (pdss_cons (pds_set (i := 2) sc__law_power.nd rfl (Or.inl rfl) pd_int)
      (pdss_cons (pds_for rfl PassesOwn.never (pdi_rg1 T.b_range (pda_cons (pd_var 1) pda_nil)) (pdg_name (i := 3) sc__law_power.nd rfl (Or.inl rfl)) (pdss_one (pds_set (i := 2) sc__law_power.nd rfl (Or.inl rfl) (pd_bin opd_mul (pd_var 2) (pd_var 0)))))
      (pdss_one (pds_ret (pd_var 2))))), ?_⟩
  intro ds R hl h; unfold sp__law_power at h; split at h
  all_goals (try exact False.elim h)
  all_goals clear hl hg hr hk ht
  rename_i b m
  obtain ⟨⟨h1, h3, h4⟩, h⟩ := h
  simp (implicitDefEqProofs := false) (maxSteps := 3000000) only [xSeq, xIf, xRet, xRaise, xOf, xB, xBK, xAsg, xTry, xHeard, mD0, mD1, mD2, startD, List.map_cons, List.map_nil, List.length_cons, List.length_nil, List.replicate, List.cons_append, List.nil_append, Nat.reduceAdd, Nat.reduceSub, Nat.zero_add, dSeq, dIfS, dOr, dAnd, dNot, dTst, dOp, dUn, dVar, dC, dB, dBK, dCons, dNil, dTup, dLst, dRet, dRetN, dRetF, dRetO, dBO, dFr, dRepL, dCatL, dRev, dRevL, dSlO, dCatO, cSorted, SpO.sp, dNext, dNever, dAsg, dPar, dPar3, dParO, dIf, dAndV, dOrV, dNotV, dCh, dCt, cLast, cLink, tLast, tLink, dDrop, dFor, dBrk, dCnt, dOwn, dApp, dExt, dFree, gPutO, dIxO, dLend, dLendT, dLcF, gN, gTu, gCn, gNl, gP0, gP1, gII, gIIc, gAdd, gNeg, gIx, gEq, gNe, gIs, gIsNot, gIn, gNotIn, gSl, oNone, oSome, gMt, gIndex, cTuple, cList, cI1, cI2, cInt, cLen, cMax, cMin, cMaxT, cMinT, dAug, cAll, cAny, cRepr, cSqrt, cIsi, tyN, isNon, kb_tt, kb_ii, kb_ib, kb_bi, kb_bb, kb_it, kb_bt, kb_nt, kb_ni, kb_lt, kb_li, kb_ti, kb_si, kb_st, kb_ss, rd, dTru, dRgN, dEnum, gMulT, gDivN, gDivNB, gEqF, dCallV, spOf, atD, ordD, dSq, dZip, dZipM, dZip3, zipD3_map, gShl, dParOO, zipD_map, ivD, dRg1, dRg2, dLc, dYes, dLcGo, dGen, dGenGo, wipeD, boolsOf, intsOf, maxL, minL, noL, noLs, Option.map_some, Option.bind_some, List.all_cons, List.all_nil, List.any_cons, List.any_nil, id_eq, List.set_cons_zero, List.set_cons_succ, List.getElem?_cons_zero, List.getElem?_cons_succ, List.getElem?_nil, List.getD_cons_zero, List.getD_cons_succ, decide_eq_true_eq, decide_eq_false_iff_not, Bool.not_eq_true', Bool.not_true, Bool.not_false, Bool.and_true, Bool.true_and, Bool.and_false, Bool.false_and, Bool.false_eq_true, if_true, if_false, reduceIte, ite_true, ite_false, true_and, and_true, reduceCtorEq, Int.toNat_zero, Int.toNat_one, Int.cast_ofNat_Int, Int.reduceLT, Int.reduceLE, Int.reduceNeg, Int.reduceToNat, Int.reducePow, Int.reduceMul, Int.reduceAdd, Int.reduceSub, decide_true, decide_false]
  refine ⟨⟨by omega, by omega⟩, ?_⟩
  refine forInv (fun i τ => ∃ o, τ = [some (.int b), some (.int m), some (.int (b ^ i)), o]) _ _ ⟨none, by rw [Int.pow_zero]⟩ ?_ ?_
  · rintro k i x τ hx hk ⟨o, rfl⟩
    simp (implicitDefEqProofs := false) (maxSteps := 3000000) only [xSeq, xIf, xRet, xRaise, xOf, xB, xBK, xAsg, xTry, xHeard, mD0, mD1, mD2, startD, List.map_cons, List.map_nil, List.length_cons, List.length_nil, List.replicate, List.cons_append, List.nil_append, Nat.reduceAdd, Nat.reduceSub, Nat.zero_add, dSeq, dIfS, dOr, dAnd, dNot, dTst, dOp, dUn, dVar, dC, dB, dBK, dCons, dNil, dTup, dLst, dRet, dRetN, dRetF, dRetO, dBO, dFr, dRepL, dCatL, dRev, dRevL, dSlO, dCatO, cSorted, SpO.sp, dNext, dNever, dAsg, dPar, dPar3, dParO, dIf, dAndV, dOrV, dNotV, dCh, dCt, cLast, cLink, tLast, tLink, dDrop, dFor, dBrk, dCnt, dOwn, dApp, dExt, dFree, gPutO, dIxO, dLend, dLendT, dLcF, gN, gTu, gCn, gNl, gP0, gP1, gII, gIIc, gAdd, gNeg, gIx, gEq, gNe, gIs, gIsNot, gIn, gNotIn, gSl, oNone, oSome, gMt, gIndex, cTuple, cList, cI1, cI2, cInt, cLen, cMax, cMin, cMaxT, cMinT, dAug, cAll, cAny, cRepr, cSqrt, cIsi, tyN, isNon, kb_tt, kb_ii, kb_ib, kb_bi, kb_bb, kb_it, kb_bt, kb_nt, kb_ni, kb_lt, kb_li, kb_ti, kb_si, kb_st, kb_ss, rd, dTru, dRgN, dEnum, gMulT, gDivN, gDivNB, gEqF, dCallV, spOf, atD, ordD, dSq, dZip, dZipM, dZip3, zipD3_map, gShl, dParOO, zipD_map, ivD, dRg1, dRg2, dLc, dYes, dLcGo, dGen, dGenGo, wipeD, boolsOf, intsOf, maxL, minL, noL, noLs, Option.map_some, Option.bind_some, List.all_cons, List.all_nil, List.any_cons, List.any_nil, id_eq, List.set_cons_zero, List.set_cons_succ, List.getElem?_cons_zero, List.getElem?_cons_succ, List.getElem?_nil, List.getD_cons_zero, List.getD_cons_succ, decide_eq_true_eq, decide_eq_false_iff_not, Bool.not_eq_true', Bool.not_true, Bool.not_false, Bool.and_true, Bool.true_and, Bool.and_false, Bool.false_and, Bool.false_eq_true, if_true, if_false, reduceIte, ite_true, ite_false, true_and, and_true, reduceCtorEq, Int.toNat_zero, Int.toNat_one, Int.cast_ofNat_Int, Int.reduceLT, Int.reduceLE, Int.reduceNeg, Int.reduceToNat, Int.reducePow, Int.reduceMul, Int.reduceAdd, Int.reduceSub, decide_true, decide_false]
    have hi : i < m.toNat := by
      have := (List.getElem?_eq_some_iff.mp hx).1
      rw [rng_len] at this
      omega
    exact ⟨.big (Big_powr h1 i) h1 (by omega), hk _ ⟨_, by rw [Int.pow_succ]⟩⟩
  · rintro τ ⟨o, rfl⟩
    rw [rng_len]
    simp (implicitDefEqProofs := false) (maxSteps := 3000000) only [xSeq, xIf, xRet, xRaise, xOf, xB, xBK, xAsg, xTry, xHeard, mD0, mD1, mD2, startD, List.map_cons, List.map_nil, List.length_cons, List.length_nil, List.replicate, List.cons_append, List.nil_append, Nat.reduceAdd, Nat.reduceSub, Nat.zero_add, dSeq, dIfS, dOr, dAnd, dNot, dTst, dOp, dUn, dVar, dC, dB, dBK, dCons, dNil, dTup, dLst, dRet, dRetN, dRetF, dRetO, dBO, dFr, dRepL, dCatL, dRev, dRevL, dSlO, dCatO, cSorted, SpO.sp, dNext, dNever, dAsg, dPar, dPar3, dParO, dIf, dAndV, dOrV, dNotV, dCh, dCt, cLast, cLink, tLast, tLink, dDrop, dFor, dBrk, dCnt, dOwn, dApp, dExt, dFree, gPutO, dIxO, dLend, dLendT, dLcF, gN, gTu, gCn, gNl, gP0, gP1, gII, gIIc, gAdd, gNeg, gIx, gEq, gNe, gIs, gIsNot, gIn, gNotIn, gSl, oNone, oSome, gMt, gIndex, cTuple, cList, cI1, cI2, cInt, cLen, cMax, cMin, cMaxT, cMinT, dAug, cAll, cAny, cRepr, cSqrt, cIsi, tyN, isNon, kb_tt, kb_ii, kb_ib, kb_bi, kb_bb, kb_it, kb_bt, kb_nt, kb_ni, kb_lt, kb_li, kb_ti, kb_si, kb_st, kb_ss, rd, dTru, dRgN, dEnum, gMulT, gDivN, gDivNB, gEqF, dCallV, spOf, atD, ordD, dSq, dZip, dZipM, dZip3, zipD3_map, gShl, dParOO, zipD_map, ivD, dRg1, dRg2, dLc, dYes, dLcGo, dGen, dGenGo, wipeD, boolsOf, intsOf, maxL, minL, noL, noLs, Option.map_some, Option.bind_some, List.all_cons, List.all_nil, List.any_cons, List.any_nil, id_eq, List.set_cons_zero, List.set_cons_succ, List.getElem?_cons_zero, List.getElem?_cons_succ, List.getElem?_nil, List.getD_cons_zero, List.getD_cons_succ, decide_eq_true_eq, decide_eq_false_iff_not, Bool.not_eq_true', Bool.not_true, Bool.not_false, Bool.and_true, Bool.true_and, Bool.and_false, Bool.false_and, Bool.false_eq_true, if_true, if_false, reduceIte, ite_true, ite_false, true_and, and_true, reduceCtorEq, Int.toNat_zero, Int.toNat_one, Int.cast_ofNat_Int, Int.reduceLT, Int.reduceLE, Int.reduceNeg, Int.reduceToNat, Int.reducePow, Int.reduceMul, Int.reduceAdd, Int.reduceSub, decide_true, decide_false]
    exact h
def sp__law_powered : SpD :=
  fun ds R => match ds with
  | [.tup [.int a, .int b], .int m] => (Iv (a, b) ∧ 0 ≤ m ∧ m ≤ 40) ∧ R (if m = 0 then ivD (1099511627776, 1099511627776) else roundD (wG (a, b) m.toNat))
  | _ => False
set_option maxHeartbeats 0 in
theorem ok__law_powered (T : Txt K mg) (D0 : Dfn K mg "_law_powered" "_law_powered" s__law_powered ["interval", "many"] []) (C__law_one : Cal P w K mg base tabs "_law_one" 1 0 [] [] sp__law_one) (C__law_power : Cal P w K mg base tabs "_law_power" 1 2 ["number", "many"] [] sp__law_power) (C__law_rounded : Cal P w K mg base tabs "_law_rounded" 2 2 ["numbers", "under"] [] sp__law_rounded) : Cal P w K mg base tabs "_law_powered" 3 2 ["interval", "many"] [] sp__law_powered := by
  refine cal_of D0 sc__law_powered fun f cdv A outer s H E p ht hg hk hr => ⟨_, (pdss_cons (pds_if (pdt_cmp (opd_eq hr.units) (pd_var 1) pd_int) (pdss_one (pds_ret (pd_tup (pda_cons (pdcC0 (C__law_one.cal ht) hg hr) (pda_cons (pdcC0 (C__law_one.cal ht) hg hr) pda_nil))))) pdss_nil)
      (pdss_cons (pds_ownLc (i := 2) (own := [("end", 3)]) (t := (L2.gName 3)) rfl sc__law_powered.nd rfl rfl (pdi_sq (pd_var 0)) (show blkC ["interval", "many", "numbers", "end"] (defScope s__law_powered) _ _ = true by decide +kernel) (fun _ _ _ _ _ => (pgw_name (i := 3) (vs := [3]) sc__law_powered.nd rfl (Or.inl rfl))) (fun _ _ _ _ _ => (pdcC (C__law_power.cal ht) hg hr (pda_cons (pd_var 3) (pda_cons (pd_var 1) pda_nil)))) (sh := s))
      (pdss_cons (pds_if (pdw_t (pdw_and (pdt_cmp (opd_eq hr.units) (pd_bin opd_mod (pd_var 1) pd_int) pd_int) (pdw_and1 (pdt_chainN (pd_ix (pd_var 0) pd_int) (pct_cons opd_le pd_int (pct_last opd_le (pd_ix (pd_var 0) pd_int))))))) (pdss_one (pds_app (i := 2) pd_int)) pdss_nil)
      (pdss_one (pds_free 2 (pds_ret (pdcC (C__law_rounded.cal ht) hg hr (pda_cons (pd_var 2) (pda_cons (pdcC (C__law_power.cal ht) hg hr (pda_cons (pdcC0 (C__law_one.cal ht) hg hr) (pda_cons (pd_bin opd_sub (pd_var 1) pd_int) pda_nil))) pda_nil))))))))), ?_⟩
  intro ds R hl h; unfold sp__law_powered at h; split at h
  all_goals (try exact False.elim h)
  all_goals clear hl hg hr hk ht
  rename_i a b m
  obtain ⟨⟨hi, h3, h4⟩, h⟩ := h
  have h1 : -1180591620717411303424 ≤ a := hi.lo
  have h2 : a ≤ b := hi.le
  have h5 : b ≤ 1180591620717411303424 := hi.hi
  have e0 : (m - 1).toNat = m.toNat - 1 := by omega
  simp (implicitDefEqProofs := false) (maxSteps := 3000000) only [xSeq, xIf, xRet, xRaise, xOf, xB, xBK, xAsg, xTry, xHeard, mD0, mD1, mD2, startD, List.map_cons, List.map_nil, List.length_cons, List.length_nil, List.replicate, List.cons_append, List.nil_append, Nat.reduceAdd, Nat.reduceSub, Nat.zero_add, dSeq, dIfS, dOr, dAnd, dNot, dTst, dOp, dUn, dVar, dC, dB, dBK, dCons, dNil, dTup, dLst, dRet, dRetN, dRetF, dRetO, dBO, dFr, dRepL, dCatL, dRev, dRevL, dSlO, dCatO, cSorted, SpO.sp, dNext, dNever, dAsg, dPar, dPar3, dParO, dIf, dAndV, dOrV, dNotV, dCh, dCt, cLast, cLink, tLast, tLink, dDrop, dFor, dBrk, dCnt, dOwn, dApp, dExt, dFree, gPutO, dIxO, dLend, dLendT, dLcF, gN, gTu, gCn, gNl, gP0, gP1, gII, gIIc, gAdd, gNeg, gIx, gEq, gNe, gIs, gIsNot, gIn, gNotIn, gSl, oNone, oSome, gMt, gIndex, cTuple, cList, cI1, cI2, cInt, cLen, cMax, cMin, cMaxT, cMinT, dAug, cAll, cAny, cRepr, cSqrt, cIsi, tyN, isNon, kb_tt, kb_ii, kb_ib, kb_bi, kb_bb, kb_it, kb_bt, kb_nt, kb_ni, kb_lt, kb_li, kb_ti, kb_si, kb_st, kb_ss, rd, dTru, dRgN, dEnum, gMulT, gDivN, gDivNB, gEqF, dCallV, spOf, atD, ordD, dSq, dZip, dZipM, dZip3, zipD3_map, gShl, dParOO, zipD_map, ivD, dRg1, dRg2, dLc, dYes, dLcGo, dGen, dGenGo, wipeD, boolsOf, intsOf, maxL, minL, noL, noLs, Option.map_some, Option.bind_some, List.all_cons, List.all_nil, List.any_cons, List.any_nil, id_eq, List.set_cons_zero, List.set_cons_succ, List.getElem?_cons_zero, List.getElem?_cons_succ, List.getElem?_nil, List.getD_cons_zero, List.getD_cons_succ, decide_eq_true_eq, decide_eq_false_iff_not, Bool.not_eq_true', Bool.not_true, Bool.not_false, Bool.and_true, Bool.true_and, Bool.and_false, Bool.false_and, Bool.false_eq_true, if_true, if_false, reduceIte, ite_true, ite_false, true_and, and_true, reduceCtorEq, Int.toNat_zero, Int.toNat_one, Int.cast_ofNat_Int, Int.reduceLT, Int.reduceLE, Int.reduceNeg, Int.reduceToNat, Int.reducePow, Int.reduceMul, Int.reduceAdd, Int.reduceSub, decide_true, decide_false, sp__law_one, sp__law_power, sp__law_rounded]
  by_cases m0 : m = 0
  · subst m0
    rw [if_pos rfl] at h ⊢
    exact h
  rw [if_neg m0] at h ⊢
  rw [e0]
  have bd := bd_one (n := m.toNat - 1) (by omega)
  rw [wG_of (by omega)] at h
  have ba : Big 71 a ∧ 0 ≤ m ∧ m ≤ 41 := ⟨big71 (by omega) (by omega), by omega, by omega⟩
  have bb : Big 71 b ∧ 0 ≤ m ∧ m ≤ 41 := ⟨big71 (by omega) (by omega), by omega, by omega⟩
  have bo : Big 71 1099511627776 ∧ 0 ≤ m - 1 ∧ m - 1 ≤ 41 := ⟨big71 (by decide) (by decide), by omega, by omega⟩
  refine ⟨.of 2 rfl (by omega), ba, bb, ?_⟩
  by_cases c : m % 2 = 0
  · rw [if_pos c]
    by_cases a0 : a ≤ 0
    · rw [if_pos a0]
      by_cases b0 : 0 ≤ b
      · rw [if_pos b0]
        rw [if_pos ⟨by omega, a0, b0⟩] at h
        refine ⟨by decide, bo, _, [b ^ m.toNat, 0], _, rfl, bd, ?_⟩
        have p1 := ev_nn (n := m.toNat) (by omega) a
        have p2 := ev_nn (n := m.toNat) (by omega) b
        rw [show minL (a ^ m.toNat) [b ^ m.toNat, 0] = 0 by simp only [minL]; omega, show maxL (a ^ m.toNat) [b ^ m.toNat, 0] = max (a ^ m.toNat) (b ^ m.toNat) by simp only [maxL]; omega]
        exact h
      · rw [if_neg b0]
        rw [if_neg (fun z => b0 z.2.2)] at h
        exact ⟨bo, _, [b ^ m.toNat], _, rfl, bd, h⟩
    · rw [if_neg a0]
      rw [if_neg (fun z => a0 z.2.1)] at h
      exact ⟨bo, _, [b ^ m.toNat], _, rfl, bd, h⟩
  · rw [if_neg c]
    rw [if_neg (fun z => c (by omega))] at h
    exact ⟨bo, _, [b ^ m.toNat], _, rfl, bd, h⟩
def sp__law_over : SpD :=
  fun ds R => match ds with
  | [.tup [.int a, .int b], .tup [.int c, .int d]] => (Iv (a, b) ∧ Iv (c, d) ∧ (0 < c ∨ d < 0)) ∧ R (roundD (oI (a, b) (c, d)))
  | _ => False
set_option maxHeartbeats 0 in
theorem ok__law_over (T : Txt K mg) (D0 : Dfn K mg "_law_over" "_law_over" s__law_over ["one", "other"] []) (C__law_one : Cal P w K mg base tabs "_law_one" 1 0 [] [] sp__law_one) (C__law_rounded : Cal P w K mg base tabs "_law_rounded" 2 2 ["numbers", "under"] [] sp__law_rounded) : Cal P w K mg base tabs "_law_over" 3 2 ["one", "other"] [] sp__law_over := by
  refine cal_of D0 sc__law_over fun f cdv A outer s H E p ht hg hk hr => ⟨_, (pdss_cons (pds_set (i := 2) sc__law_over.nd rfl (Or.inl rfl) (pd_callB cd_abs rfl T.b_abs PyProof.Rows.boot_abs (pda_cons (pd_bin opd_mul (pd_ix (pd_var 1) pd_int) (pd_ix (pd_var 1) pd_int)) pda_nil)))
      (pdss_cons (pds_set (i := 3) sc__law_over.nd rfl (Or.inr rfl) (pd_ifx (pdt_cmp opd_gt (pd_ix (pd_var 1) pd_int) pd_int) pd_int (pd_un und_neg pd_int)))
      (pdss_cons (pds_own (i := 4) sc__law_over.nd rfl (Or.inl rfl) (pdf_lst pda_nil))
      (pdss_cons (pds_for rfl PassesOwn.never (pdi_sq (pd_var 0)) (pdg_name (i := 5) sc__law_over.nd rfl (Or.inr rfl)) (pdss_one (pds_ext (i := 4) (pdf_lc (own := [("far", 6)]) (t := (L2.gName 6)) rfl sc__law_over.nd (pdi_sq (pd_var 1)) (show blkC ["one", "other", "under", "sign", "numbers", "near", "far"] (defScope s__law_over) _ _ = true by decide +kernel) (fun _ _ _ _ _ => (pgw_name (i := 6) (vs := [6]) sc__law_over.nd rfl (Or.inl rfl))) (fun _ _ _ _ _ => (pd_bin opd_mul (pd_bin opd_mul (pd_bin opd_mul (pd_var 3) (pd_var 5)) (pdcC0 (C__law_one.cal ht) hg hr)) (pd_callB cd_abs rfl T.b_abs PyProof.Rows.boot_abs (pda_cons (pd_var 6) pda_nil)))) (sh := s)))))
      (pdss_one (pds_free 4 (pds_ret (pdcC (C__law_rounded.cal ht) hg hr (pda_cons (pd_var 4) (pda_cons (pd_var 2) pda_nil)))))))))), ?_⟩
  intro ds R hl h; unfold sp__law_over at h; split at h
  all_goals (try exact False.elim h)
  all_goals clear hl hg hr hk ht
  rename_i a b c d
  obtain ⟨⟨⟨h1, h2, h3⟩, ⟨k1, k2, k3⟩, h0⟩, h⟩ := h
  simp only [] at h1 h2 h3 k1 k2 k3
  have bc := big71 (a := c) (by omega) (by omega)
  have bd := big71 (a := d) (by omega) (by omega)
  unfold oI at h
  simp only [] at h
  simp (implicitDefEqProofs := false) (maxSteps := 3000000) only [xSeq, xIf, xRet, xRaise, xOf, xB, xBK, xAsg, xTry, xHeard, mD0, mD1, mD2, startD, List.map_cons, List.map_nil, List.length_cons, List.length_nil, List.replicate, List.cons_append, List.nil_append, Nat.reduceAdd, Nat.reduceSub, Nat.zero_add, dSeq, dIfS, dOr, dAnd, dNot, dTst, dOp, dUn, dVar, dC, dB, dBK, dCons, dNil, dTup, dLst, dRet, dRetN, dRetF, dRetO, dBO, dFr, dRepL, dCatL, dRev, dRevL, dSlO, dCatO, cSorted, SpO.sp, dNext, dNever, dAsg, dPar, dPar3, dParO, dIf, dAndV, dOrV, dNotV, dCh, dCt, cLast, cLink, tLast, tLink, dDrop, dFor, dBrk, dCnt, dOwn, dApp, dExt, dFree, gPutO, dIxO, dLend, dLendT, dLcF, gN, gTu, gCn, gNl, gP0, gP1, gII, gIIc, gAdd, gNeg, gIx, gEq, gNe, gIs, gIsNot, gIn, gNotIn, gSl, oNone, oSome, gMt, gIndex, cTuple, cList, cI1, cI2, cInt, cLen, cMax, cMin, cMaxT, cMinT, dAug, cAll, cAny, cRepr, cSqrt, cIsi, tyN, isNon, kb_tt, kb_ii, kb_ib, kb_bi, kb_bb, kb_it, kb_bt, kb_nt, kb_ni, kb_lt, kb_li, kb_ti, kb_si, kb_st, kb_ss, rd, dTru, dRgN, dEnum, gMulT, gDivN, gDivNB, gEqF, dCallV, spOf, atD, ordD, dSq, dZip, dZipM, dZip3, zipD3_map, gShl, dParOO, zipD_map, ivD, dRg1, dRg2, dLc, dYes, dLcGo, dGen, dGenGo, wipeD, boolsOf, intsOf, maxL, minL, noL, noLs, Option.map_some, Option.bind_some, List.all_cons, List.all_nil, List.any_cons, List.any_nil, id_eq, List.set_cons_zero, List.set_cons_succ, List.getElem?_cons_zero, List.getElem?_cons_succ, List.getElem?_nil, List.getD_cons_zero, List.getD_cons_succ, decide_eq_true_eq, decide_eq_false_iff_not, Bool.not_eq_true', Bool.not_true, Bool.not_false, Bool.and_true, Bool.true_and, Bool.and_false, Bool.false_and, Bool.false_eq_true, if_true, if_false, reduceIte, ite_true, ite_false, true_and, and_true, reduceCtorEq, Int.toNat_zero, Int.toNat_one, Int.cast_ofNat_Int, Int.reduceLT, Int.reduceLE, Int.reduceNeg, Int.reduceToNat, Int.reducePow, Int.reduceMul, Int.reduceAdd, Int.reduceSub, decide_true, decide_false, sp__law_one, sp__law_rounded, dForGo]
  refine ⟨.big bc bd (by decide), ?_⟩
  by_cases c0 : 0 < c
  · have pp := Int.mul_pos c0 (show 0 < d by omega)
    rw [if_pos c0, show ((c.natAbs : Nat) : Int) = c by omega, show ((d.natAbs : Nat) : Int) = d by omega, show (((c * d).natAbs : Nat) : Int) = c * d by omega]
    rw [if_neg (by omega), ← ov_pos h2 c0 k2] at h
    simp only [Int.one_mul]
    exact ⟨.of 2 rfl (by omega), .left (by omega) (by omega), .right (by omega) (by omega), .wide (by omega) (by omega) (by omega) (by omega), .left (by omega) (by omega), .right (by omega) (by omega), .wide (by omega) (by omega) (by omega) (by omega), by decide, .of 2 rfl (by omega), .left (by omega) (by omega), .right (by omega) (by omega), .wide (by omega) (by omega) (by omega) (by omega), .left (by omega) (by omega), .right (by omega) (by omega), .wide (by omega) (by omega) (by omega) (by omega), by decide, _, [a * 1099511627776 * d, b * 1099511627776 * c, b * 1099511627776 * d], _, rfl, .big pp (bc.mul bd) (by decide), h⟩
  · have pp := Int.mul_pos_of_neg_of_neg (show c < 0 by omega) (show d < 0 by omega)
    rw [if_neg c0, show ((c.natAbs : Nat) : Int) = -c by omega, show ((d.natAbs : Nat) : Int) = -d by omega, show (((c * d).natAbs : Nat) : Int) = c * d by omega]
    rw [if_pos (by omega), ← ov_pos (a := -b) (b := -a) (c := -d) (d := -c) (by omega) (by omega) (by omega)] at h
    simp only [Int.neg_one_mul]
    refine ⟨.of 2 rfl (by omega), .left (by omega) (by omega), .right (by omega) (by omega), .wide (by omega) (by omega) (by omega) (by omega), .left (by omega) (by omega), .right (by omega) (by omega), .wide (by omega) (by omega) (by omega) (by omega), by decide, .of 2 rfl (by omega), .left (by omega) (by omega), .right (by omega) (by omega), .wide (by omega) (by omega) (by omega) (by omega), .left (by omega) (by omega), .right (by omega) (by omega), .wide (by omega) (by omega) (by omega) (by omega), by decide, _, [-a * 1099511627776 * -d, -b * 1099511627776 * -c, -b * 1099511627776 * -d], _, rfl, .big pp (bc.mul bd) (by decide), ?_⟩
    have e1 : minL (-a * 1099511627776 * -c) [-a * 1099511627776 * -d, -b * 1099511627776 * -c, -b * 1099511627776 * -d] = minL (-b * 1099511627776 * -d) [-b * 1099511627776 * -c, -a * 1099511627776 * -d, -a * 1099511627776 * -c] := by
      simp only [minL]
      omega
    have e2 : maxL (-a * 1099511627776 * -c) [-a * 1099511627776 * -d, -b * 1099511627776 * -c, -b * 1099511627776 * -d] = maxL (-b * 1099511627776 * -d) [-b * 1099511627776 * -c, -a * 1099511627776 * -d, -a * 1099511627776 * -c] := by
      simp only [maxL]
      omega
    rw [show -d * -c = c * d by rw [Int.neg_mul_neg, Int.mul_comm]] at h
    rw [e1, e2]
    exact h
def sp__law_pair_right : SpD :=
  fun ds R => match ds with
  | [.pot] => R (.bl true)
  | _ => False
set_option maxHeartbeats 0 in
theorem ok__law_pair_right (T : Txt K mg) (D0 : Dfn K mg "_law_pair_right" "_law_pair_right" s__law_pair_right ["pot"] []) (hF : tabs.fns = mg) (hT0 : tabs.tabs = []) (TA : LamAt K mg base tabs "_law_pair_right" (("_law_pair_right" ++ ".<locals>." : Str) ++ "<lambda>")) (C__law_interval : Cal P w K mg base tabs "_law_interval" 5 1 ["pot"] [] sp__law_interval) (C_plus : CalX P w K mg base tabs "plus" 5 2 ["one", "other"] [(["other", "one"], 0, [1, 0])] sp_plus) (C__law_rounded : Cal P w K mg base tabs "_law_rounded" 2 2 ["numbers", "under"] [] sp__law_rounded) (C_minus : CalX P w K mg base tabs "minus" 5 2 ["one", "other"] [(["other", "one"], 0, [1, 0])] sp_minus) (C_times : CalX P w K mg base tabs "times" 5 2 ["one", "other"] [(["other", "one"], 0, [1, 0])] sp_times) (C__law_one : Cal P w K mg base tabs "_law_one" 1 0 [] [] sp__law_one) (C__law_product_of : Cal P w K mg base tabs "_law_product_of" 1 2 ["one", "other"] [] sp__law_product_of) (C__law_over : Cal P w K mg base tabs "_law_over" 3 2 ["one", "other"] [] sp__law_over) (C_over : CalX P w K mg base tabs "over" 6 2 ["one", "other"] [(["other", "one"], 0, [1, 0])] sp_over) (C_hull : Cal P w K mg base tabs "hull" 5 2 ["one", "other"] [(["other", "one"], 0, [1, 0])] sp_hull) (C_meet : Cal P w K mg base tabs "meet" 5 2 ["one", "other"] [] sp_meet) (C_within : Cal P w K mg base tabs "within" 5 2 ["one", "other"] [(["other", "one"], 0, [1, 0])] sp_within) (HE__law_heard : Hears P w K mg base tabs "_law_heard" "call" "TooMany" "what" "limit" "grains" "wrong" 1180591620717411303424 ["NoQuotient", "TooMany"] 1) (CC_NoQuotient : Catch K mg "NoQuotient" ["NoQuotient", "TooMany"]) : Cal P w K mg base tabs "_law_pair_right" 9 1 ["pot"] [] sp__law_pair_right := by
  refine cal_ofL D0 sc__law_pair_right TA fun f cdv A outer s H E p ht TL hg hk hr => ⟨_, (pdss_cons (pds_asg (pd_tup (pda_cons (pdcC (C__law_interval.cal ht) hg hr (pda_cons (pd_var 0) pda_nil)) (pda_cons (pdcC (C__law_interval.cal ht) hg hr (pda_cons (pd_var 0) pda_nil)) pda_nil))) (pdg_tup (n := 2) rfl (pdgs_cons (pdg_name (i := 6) sc__law_pair_right.nd rfl (Or.inr rfl)) (pdgs_cons (pdg_name (i := 7) sc__law_pair_right.nd rfl (Or.inr rfl)) pdgs_nil))))
      (pdss_cons (pds_if (pdt_cmp (opd_ne hr.units) (pd_ofX (pd_heard (HE__law_heard.at ht) TL (by rw [ht]; exact hT0) (by rw [ht]; exact hF) LamX.takes0 hr (fun A outer s H E f c1 hA hR => (pdxCK0 (ks := ["other", "one"]) (perm := [1, 0]) (C_plus.cal ht) (takes_of rfl rfl rfl rfl) (hA.trans hg) hR (by decide) (pdk_cons (pd_var 7) (pdk_cons (pd_var 6) pdk_nil)))))) (pdcC (C__law_rounded.cal ht) hg hr (pda_cons (pd_lst (pda_cons (pd_bin opd_add (pd_ix (pd_var 6) pd_int) (pd_ix (pd_var 7) pd_int)) (pda_cons (pd_bin opd_add (pd_ix (pd_var 6) pd_int) (pd_ix (pd_var 7) pd_int)) pda_nil))) (pda_cons pd_int pda_nil)))) (pdss_one (pds_ret pd_bl)) pdss_nil)
      (pdss_cons (pds_if (pdt_cmp (opd_ne hr.units) (pd_ofX (pd_heard (HE__law_heard.at ht) TL (by rw [ht]; exact hT0) (by rw [ht]; exact hF) LamX.takes0 hr (fun A outer s H E f c1 hA hR => (pdxCK0 (ks := ["other", "one"]) (perm := [1, 0]) (C_minus.cal ht) (takes_of rfl rfl rfl rfl) (hA.trans hg) hR (by decide) (pdk_cons (pd_var 7) (pdk_cons (pd_var 6) pdk_nil)))))) (pdcC (C__law_rounded.cal ht) hg hr (pda_cons (pd_lst (pda_cons (pd_bin opd_sub (pd_ix (pd_var 6) pd_int) (pd_ix (pd_var 7) pd_int)) (pda_cons (pd_bin opd_sub (pd_ix (pd_var 6) pd_int) (pd_ix (pd_var 7) pd_int)) pda_nil))) (pda_cons pd_int pda_nil)))) (pdss_one (pds_ret pd_bl)) pdss_nil)
      (pdss_cons (pds_if (pdt_cmp (opd_ne hr.units) (pd_ofX (pd_heard (HE__law_heard.at ht) TL (by rw [ht]; exact hT0) (by rw [ht]; exact hF) LamX.takes0 hr (fun A outer s H E f c1 hA hR => (pdxCK0 (ks := ["other", "one"]) (perm := [1, 0]) (C_times.cal ht) (takes_of rfl rfl rfl rfl) (hA.trans hg) hR (by decide) (pdk_cons (pd_var 7) (pdk_cons (pd_var 6) pdk_nil)))))) (pdcC (C__law_rounded.cal ht) hg hr (pda_cons (pdcC (C__law_product_of.cal ht) hg hr (pda_cons (pd_var 6) (pda_cons (pd_var 7) pda_nil))) (pda_cons (pdcC0 (C__law_one.cal ht) hg hr) pda_nil)))) (pdss_one (pds_ret pd_bl)) pdss_nil)
      (pdss_cons (pds_set (i := 1) sc__law_pair_right.nd rfl (Or.inl rfl) (pd_ifx (pdt_chainN (pd_ix (pd_var 7) pd_int) (pct_cons opd_le pd_int (pct_last opd_le (pd_ix (pd_var 7) pd_int)))) pd_non (pd_lst (pda_cons (pdcC (C__law_over.cal ht) hg hr (pda_cons (pd_var 6) (pda_cons (pd_var 7) pda_nil))) pda_nil))))
      (pdss_cons (pds_set (i := 2) sc__law_pair_right.nd rfl (Or.inl rfl) pd_non)
      (pdss_cons (pds_ofX (pd_try CC_NoQuotient (by rw [ht]; exact hF) LamX.takes0 (fun E1 pn xe tk => (pdsxs_one (pdsx_set (i := 2) sc__law_pair_right.nd rfl (Or.inl rfl) (pdx_lst1 (pd_heard (HE__law_heard.at ht) TL (by rw [ht]; exact hT0) (by rw [ht]; exact hF) tk hr (fun A outer s H E f c1 hA hR => (pdxCK0 (ks := ["other", "one"]) (perm := [1, 0]) (C_over.cal ht) (takes_of rfl rfl rfl rfl) (hA.trans hg) hR (by decide) (pdk_cons (pd_var 7) (pdk_cons (pd_var 6) pdk_nil))))))))) (fun a pn => (pdss_one (pds_set (i := 2) sc__law_pair_right.nd rfl (Or.inl rfl) pd_non)))))
      (pdss_cons (pds_if (pdw_t (pdw_or (pdt_cmp (opd_ne hr.units) (pd_var 2) (pd_var 1)) (pdw_or1 (pdt_cmp (opd_ne hr.units) (pdcCK0 (ks := ["other", "one"]) (perm := [1, 0]) (C_hull.cal ht) hg hr (by decide) (pdk_cons (pd_var 7) (pdk_cons (pd_var 6) pdk_nil))) (pd_tup (pda_cons (pd_callB (cd_minT rfl hr.u65) rfl T.b_min PyProof.Rows.boot_min (pda_cons (pd_ix (pd_var 6) pd_int) (pda_cons (pd_ix (pd_var 7) pd_int) pda_nil))) (pda_cons (pd_callB (cd_maxT rfl hr.u65) rfl T.b_max PyProof.Rows.boot_max (pda_cons (pd_ix (pd_var 6) pd_int) (pda_cons (pd_ix (pd_var 7) pd_int) pda_nil))) pda_nil))))))) (pdss_one (pds_ret pd_bl)) pdss_nil)
      (pdss_cons (pds_par (i := 3) (j := 4) rfl sc__law_pair_right.nd rfl rfl (by decide) rfl rfl (pda_cons (pd_callB (cd_maxT rfl hr.u65) rfl T.b_max PyProof.Rows.boot_max (pda_cons (pd_ix (pd_var 6) pd_int) (pda_cons (pd_ix (pd_var 7) pd_int) pda_nil))) (pda_cons (pd_callB (cd_minT rfl hr.u65) rfl T.b_min PyProof.Rows.boot_min (pda_cons (pd_ix (pd_var 6) pd_int) (pda_cons (pd_ix (pd_var 7) pd_int) pda_nil))) pda_nil)) (by rfl))
      (pdss_cons (pds_if (pdt_cmp (opd_ne hr.units) (pd_callB (cd_repr hg hr.units) rfl T.b_repr PyProof.Rows.boot_repr (pda_cons (pdcC (C_meet.cal ht) hg hr (pda_cons (pd_var 6) (pda_cons (pd_var 7) pda_nil))) pda_nil)) (pd_callB (cd_repr hg hr.units) rfl T.b_repr PyProof.Rows.boot_repr (pda_cons (pd_ifx (pdt_cmp opd_le (pd_var 3) (pd_var 4)) (pd_tup (pda_cons (pd_var 3) (pda_cons (pd_var 4) pda_nil))) pd_non) pda_nil))) (pdss_one (pds_ret pd_bl)) pdss_nil)
      (pdss_cons (pds_set (i := 5) sc__law_pair_right.nd rfl (Or.inl rfl) (pd_and (pd_cmp opd_le (pd_ix (pd_var 7) pd_int) (pd_ix (pd_var 6) pd_int)) (pd_one (pd_cmp opd_le (pd_ix (pd_var 6) pd_int) (pd_ix (pd_var 7) pd_int)))))
      (pdss_one (pds_ret (pd_cmp (opd_eq hr.units) (pd_callB (cd_repr hg hr.units) rfl T.b_repr PyProof.Rows.boot_repr (pda_cons (pd_lst (pda_cons (pdcC (C_within.cal ht) hg hr (pda_cons (pd_var 6) (pda_cons (pd_var 7) pda_nil))) (pda_cons (pdcCK0 (ks := ["other", "one"]) (perm := [1, 0]) (C_within.cal ht) hg hr (by decide) (pdk_cons (pd_var 6) (pdk_cons (pd_var 6) pdk_nil))) pda_nil))) pda_nil)) (pd_callB (cd_repr hg hr.units) rfl T.b_repr PyProof.Rows.boot_repr (pda_cons (pd_lst (pda_cons (pd_var 5) (pda_cons pd_bl pda_nil))) pda_nil)))))))))))))))), ?_⟩
  intro ds R hl h; unfold sp__law_pair_right at h; split at h
  all_goals (try exact False.elim h)
  all_goals clear hl hg hr hk ht TL
  refine seqTo' (fun τ => ∃ (x y : Int × Int), Iv x ∧ Iv y ∧ τ = [some .pot, none, none, none, none, none, some (.tup [.int x.1, .int x.2]), some (.tup [.int y.1, .int y.2])]) (fun k hk => ?_) ?_
  · simp (implicitDefEqProofs := false) (maxSteps := 3000000) only [xSeq, xIf, xRet, xRaise, xOf, xB, xBK, xAsg, xTry, xHeard, mD0, mD1, mD2, startD, List.map_cons, List.map_nil, List.length_cons, List.length_nil, List.replicate, List.cons_append, List.nil_append, Nat.reduceAdd, Nat.reduceSub, Nat.zero_add, dSeq, dIfS, dOr, dAnd, dNot, dTst, dOp, dUn, dVar, dC, dB, dBK, dCons, dNil, dTup, dLst, dRet, dRetN, dRetF, dRetO, dBO, dFr, dRepL, dCatL, dRev, dRevL, dSlO, dCatO, cSorted, SpO.sp, dNext, dNever, dAsg, dPar, dPar3, dParO, dIf, dAndV, dOrV, dNotV, dCh, dCt, cLast, cLink, tLast, tLink, dDrop, dFor, dBrk, dCnt, dOwn, dApp, dExt, dFree, gPutO, dIxO, dLend, dLendT, dLcF, gN, gTu, gCn, gNl, gP0, gP1, gII, gIIc, gAdd, gNeg, gIx, gEq, gNe, gIs, gIsNot, gIn, gNotIn, gSl, oNone, oSome, gMt, gIndex, cTuple, cList, cI1, cI2, cInt, cLen, cMax, cMin, cMaxT, cMinT, dAug, cAll, cAny, cRepr, cSqrt, cIsi, tyN, isNon, kb_tt, kb_ii, kb_ib, kb_bi, kb_bb, kb_it, kb_bt, kb_nt, kb_ni, kb_lt, kb_li, kb_ti, kb_si, kb_st, kb_ss, rd, dTru, dRgN, dEnum, gMulT, gDivN, gDivNB, gEqF, dCallV, spOf, atD, ordD, dSq, dZip, dZipM, dZip3, zipD3_map, gShl, dParOO, zipD_map, ivD, dRg1, dRg2, dLc, dYes, dLcGo, dGen, dGenGo, wipeD, boolsOf, intsOf, maxL, minL, noL, noLs, Option.map_some, Option.bind_some, List.all_cons, List.all_nil, List.any_cons, List.any_nil, id_eq, List.set_cons_zero, List.set_cons_succ, List.getElem?_cons_zero, List.getElem?_cons_succ, List.getElem?_nil, List.getD_cons_zero, List.getD_cons_succ, decide_eq_true_eq, decide_eq_false_iff_not, Bool.not_eq_true', Bool.not_true, Bool.not_false, Bool.and_true, Bool.true_and, Bool.and_false, Bool.false_and, Bool.false_eq_true, if_true, if_false, reduceIte, ite_true, ite_false, true_and, and_true, reduceCtorEq, Int.toNat_zero, Int.toNat_one, Int.cast_ofNat_Int, Int.reduceLT, Int.reduceLE, Int.reduceNeg, Int.reduceToNat, Int.reducePow, Int.reduceMul, Int.reduceAdd, Int.reduceSub, decide_true, decide_false, sp__law_interval, sp_plus, sp__law_rounded, sp_minus, sp_times, sp__law_one, sp__law_product_of, sp__law_over, sp_over, sp_hull, sp_meet, sp_within]
    intro x hx y hy
    exact hk _ ⟨x, y, hx, hy, rfl⟩
  rintro τ ⟨⟨a, b⟩, ⟨c, d⟩, hx, hy, rfl⟩
  have h2 : a ≤ b := hx.le
  have k2 : c ≤ d := hy.le
  refine hearIf (q := pI (a, b) (c, d)) (fun R' Rx h' => ?_) (fun R' h' => ?_) ?_
  · simp (implicitDefEqProofs := false) (maxSteps := 3000000) only [xSeq, xIf, xRet, xRaise, xOf, xB, xBK, xAsg, xTry, xHeard, mD0, mD1, mD2, startD, List.map_cons, List.map_nil, List.length_cons, List.length_nil, List.replicate, List.cons_append, List.nil_append, Nat.reduceAdd, Nat.reduceSub, Nat.zero_add, dSeq, dIfS, dOr, dAnd, dNot, dTst, dOp, dUn, dVar, dC, dB, dBK, dCons, dNil, dTup, dLst, dRet, dRetN, dRetF, dRetO, dBO, dFr, dRepL, dCatL, dRev, dRevL, dSlO, dCatO, cSorted, SpO.sp, dNext, dNever, dAsg, dPar, dPar3, dParO, dIf, dAndV, dOrV, dNotV, dCh, dCt, cLast, cLink, tLast, tLink, dDrop, dFor, dBrk, dCnt, dOwn, dApp, dExt, dFree, gPutO, dIxO, dLend, dLendT, dLcF, gN, gTu, gCn, gNl, gP0, gP1, gII, gIIc, gAdd, gNeg, gIx, gEq, gNe, gIs, gIsNot, gIn, gNotIn, gSl, oNone, oSome, gMt, gIndex, cTuple, cList, cI1, cI2, cInt, cLen, cMax, cMin, cMaxT, cMinT, dAug, cAll, cAny, cRepr, cSqrt, cIsi, tyN, isNon, kb_tt, kb_ii, kb_ib, kb_bi, kb_bb, kb_it, kb_bt, kb_nt, kb_ni, kb_lt, kb_li, kb_ti, kb_si, kb_st, kb_ss, rd, dTru, dRgN, dEnum, gMulT, gDivN, gDivNB, gEqF, dCallV, spOf, atD, ordD, dSq, dZip, dZipM, dZip3, zipD3_map, gShl, dParOO, zipD_map, ivD, dRg1, dRg2, dLc, dYes, dLcGo, dGen, dGenGo, wipeD, boolsOf, intsOf, maxL, minL, noL, noLs, Option.map_some, Option.bind_some, List.all_cons, List.all_nil, List.any_cons, List.any_nil, id_eq, List.set_cons_zero, List.set_cons_succ, List.getElem?_cons_zero, List.getElem?_cons_succ, List.getElem?_nil, List.getD_cons_zero, List.getD_cons_succ, decide_eq_true_eq, decide_eq_false_iff_not, Bool.not_eq_true', Bool.not_true, Bool.not_false, Bool.and_true, Bool.true_and, Bool.and_false, Bool.false_and, Bool.false_eq_true, if_true, if_false, reduceIte, ite_true, ite_false, true_and, and_true, reduceCtorEq, Int.toNat_zero, Int.toNat_one, Int.cast_ofNat_Int, Int.reduceLT, Int.reduceLE, Int.reduceNeg, Int.reduceToNat, Int.reducePow, Int.reduceMul, Int.reduceAdd, Int.reduceSub, decide_true, decide_false, sp__law_interval, sp_plus, sp__law_rounded, sp_minus, sp_times, sp__law_one, sp__law_product_of, sp__law_over, sp_over, sp_hull, sp_meet, sp_within]
    exact ⟨⟨hx, hy⟩, h'⟩
  · simp (implicitDefEqProofs := false) (maxSteps := 3000000) only [xSeq, xIf, xRet, xRaise, xOf, xB, xBK, xAsg, xTry, xHeard, mD0, mD1, mD2, startD, List.map_cons, List.map_nil, List.length_cons, List.length_nil, List.replicate, List.cons_append, List.nil_append, Nat.reduceAdd, Nat.reduceSub, Nat.zero_add, dSeq, dIfS, dOr, dAnd, dNot, dTst, dOp, dUn, dVar, dC, dB, dBK, dCons, dNil, dTup, dLst, dRet, dRetN, dRetF, dRetO, dBO, dFr, dRepL, dCatL, dRev, dRevL, dSlO, dCatO, cSorted, SpO.sp, dNext, dNever, dAsg, dPar, dPar3, dParO, dIf, dAndV, dOrV, dNotV, dCh, dCt, cLast, cLink, tLast, tLink, dDrop, dFor, dBrk, dCnt, dOwn, dApp, dExt, dFree, gPutO, dIxO, dLend, dLendT, dLcF, gN, gTu, gCn, gNl, gP0, gP1, gII, gIIc, gAdd, gNeg, gIx, gEq, gNe, gIs, gIsNot, gIn, gNotIn, gSl, oNone, oSome, gMt, gIndex, cTuple, cList, cI1, cI2, cInt, cLen, cMax, cMin, cMaxT, cMinT, dAug, cAll, cAny, cRepr, cSqrt, cIsi, tyN, isNon, kb_tt, kb_ii, kb_ib, kb_bi, kb_bb, kb_it, kb_bt, kb_nt, kb_ni, kb_lt, kb_li, kb_ti, kb_si, kb_st, kb_ss, rd, dTru, dRgN, dEnum, gMulT, gDivN, gDivNB, gEqF, dCallV, spOf, atD, ordD, dSq, dZip, dZipM, dZip3, zipD3_map, gShl, dParOO, zipD_map, ivD, dRg1, dRg2, dLc, dYes, dLcGo, dGen, dGenGo, wipeD, boolsOf, intsOf, maxL, minL, noL, noLs, Option.map_some, Option.bind_some, List.all_cons, List.all_nil, List.any_cons, List.any_nil, id_eq, List.set_cons_zero, List.set_cons_succ, List.getElem?_cons_zero, List.getElem?_cons_succ, List.getElem?_nil, List.getD_cons_zero, List.getD_cons_succ, decide_eq_true_eq, decide_eq_false_iff_not, Bool.not_eq_true', Bool.not_true, Bool.not_false, Bool.and_true, Bool.true_and, Bool.and_false, Bool.false_and, Bool.false_eq_true, if_true, if_false, reduceIte, ite_true, ite_false, true_and, and_true, reduceCtorEq, Int.toNat_zero, Int.toNat_one, Int.cast_ofNat_Int, Int.reduceLT, Int.reduceLE, Int.reduceNeg, Int.reduceToNat, Int.reducePow, Int.reduceMul, Int.reduceAdd, Int.reduceSub, decide_true, decide_false, sp__law_interval, sp_plus, sp__law_rounded, sp_minus, sp_times, sp__law_one, sp__law_product_of, sp__law_over, sp_over, sp_hull, sp_meet, sp_within]
    rw [← pI_rd h2 k2] at h'
    exact ⟨a + c, [b + d], 1, rfl, .of (by decide) (by decide), h'⟩
  refine hearIf (q := mI (a, b) (c, d)) (fun R' Rx h' => ?_) (fun R' h' => ?_) ?_
  · simp (implicitDefEqProofs := false) (maxSteps := 3000000) only [xSeq, xIf, xRet, xRaise, xOf, xB, xBK, xAsg, xTry, xHeard, mD0, mD1, mD2, startD, List.map_cons, List.map_nil, List.length_cons, List.length_nil, List.replicate, List.cons_append, List.nil_append, Nat.reduceAdd, Nat.reduceSub, Nat.zero_add, dSeq, dIfS, dOr, dAnd, dNot, dTst, dOp, dUn, dVar, dC, dB, dBK, dCons, dNil, dTup, dLst, dRet, dRetN, dRetF, dRetO, dBO, dFr, dRepL, dCatL, dRev, dRevL, dSlO, dCatO, cSorted, SpO.sp, dNext, dNever, dAsg, dPar, dPar3, dParO, dIf, dAndV, dOrV, dNotV, dCh, dCt, cLast, cLink, tLast, tLink, dDrop, dFor, dBrk, dCnt, dOwn, dApp, dExt, dFree, gPutO, dIxO, dLend, dLendT, dLcF, gN, gTu, gCn, gNl, gP0, gP1, gII, gIIc, gAdd, gNeg, gIx, gEq, gNe, gIs, gIsNot, gIn, gNotIn, gSl, oNone, oSome, gMt, gIndex, cTuple, cList, cI1, cI2, cInt, cLen, cMax, cMin, cMaxT, cMinT, dAug, cAll, cAny, cRepr, cSqrt, cIsi, tyN, isNon, kb_tt, kb_ii, kb_ib, kb_bi, kb_bb, kb_it, kb_bt, kb_nt, kb_ni, kb_lt, kb_li, kb_ti, kb_si, kb_st, kb_ss, rd, dTru, dRgN, dEnum, gMulT, gDivN, gDivNB, gEqF, dCallV, spOf, atD, ordD, dSq, dZip, dZipM, dZip3, zipD3_map, gShl, dParOO, zipD_map, ivD, dRg1, dRg2, dLc, dYes, dLcGo, dGen, dGenGo, wipeD, boolsOf, intsOf, maxL, minL, noL, noLs, Option.map_some, Option.bind_some, List.all_cons, List.all_nil, List.any_cons, List.any_nil, id_eq, List.set_cons_zero, List.set_cons_succ, List.getElem?_cons_zero, List.getElem?_cons_succ, List.getElem?_nil, List.getD_cons_zero, List.getD_cons_succ, decide_eq_true_eq, decide_eq_false_iff_not, Bool.not_eq_true', Bool.not_true, Bool.not_false, Bool.and_true, Bool.true_and, Bool.and_false, Bool.false_and, Bool.false_eq_true, if_true, if_false, reduceIte, ite_true, ite_false, true_and, and_true, reduceCtorEq, Int.toNat_zero, Int.toNat_one, Int.cast_ofNat_Int, Int.reduceLT, Int.reduceLE, Int.reduceNeg, Int.reduceToNat, Int.reducePow, Int.reduceMul, Int.reduceAdd, Int.reduceSub, decide_true, decide_false, sp__law_interval, sp_plus, sp__law_rounded, sp_minus, sp_times, sp__law_one, sp__law_product_of, sp__law_over, sp_over, sp_hull, sp_meet, sp_within]
    exact ⟨⟨hx, hy⟩, h'⟩
  · simp (implicitDefEqProofs := false) (maxSteps := 3000000) only [xSeq, xIf, xRet, xRaise, xOf, xB, xBK, xAsg, xTry, xHeard, mD0, mD1, mD2, startD, List.map_cons, List.map_nil, List.length_cons, List.length_nil, List.replicate, List.cons_append, List.nil_append, Nat.reduceAdd, Nat.reduceSub, Nat.zero_add, dSeq, dIfS, dOr, dAnd, dNot, dTst, dOp, dUn, dVar, dC, dB, dBK, dCons, dNil, dTup, dLst, dRet, dRetN, dRetF, dRetO, dBO, dFr, dRepL, dCatL, dRev, dRevL, dSlO, dCatO, cSorted, SpO.sp, dNext, dNever, dAsg, dPar, dPar3, dParO, dIf, dAndV, dOrV, dNotV, dCh, dCt, cLast, cLink, tLast, tLink, dDrop, dFor, dBrk, dCnt, dOwn, dApp, dExt, dFree, gPutO, dIxO, dLend, dLendT, dLcF, gN, gTu, gCn, gNl, gP0, gP1, gII, gIIc, gAdd, gNeg, gIx, gEq, gNe, gIs, gIsNot, gIn, gNotIn, gSl, oNone, oSome, gMt, gIndex, cTuple, cList, cI1, cI2, cInt, cLen, cMax, cMin, cMaxT, cMinT, dAug, cAll, cAny, cRepr, cSqrt, cIsi, tyN, isNon, kb_tt, kb_ii, kb_ib, kb_bi, kb_bb, kb_it, kb_bt, kb_nt, kb_ni, kb_lt, kb_li, kb_ti, kb_si, kb_st, kb_ss, rd, dTru, dRgN, dEnum, gMulT, gDivN, gDivNB, gEqF, dCallV, spOf, atD, ordD, dSq, dZip, dZipM, dZip3, zipD3_map, gShl, dParOO, zipD_map, ivD, dRg1, dRg2, dLc, dYes, dLcGo, dGen, dGenGo, wipeD, boolsOf, intsOf, maxL, minL, noL, noLs, Option.map_some, Option.bind_some, List.all_cons, List.all_nil, List.any_cons, List.any_nil, id_eq, List.set_cons_zero, List.set_cons_succ, List.getElem?_cons_zero, List.getElem?_cons_succ, List.getElem?_nil, List.getD_cons_zero, List.getD_cons_succ, decide_eq_true_eq, decide_eq_false_iff_not, Bool.not_eq_true', Bool.not_true, Bool.not_false, Bool.and_true, Bool.true_and, Bool.and_false, Bool.false_and, Bool.false_eq_true, if_true, if_false, reduceIte, ite_true, ite_false, true_and, and_true, reduceCtorEq, Int.toNat_zero, Int.toNat_one, Int.cast_ofNat_Int, Int.reduceLT, Int.reduceLE, Int.reduceNeg, Int.reduceToNat, Int.reducePow, Int.reduceMul, Int.reduceAdd, Int.reduceSub, decide_true, decide_false, sp__law_interval, sp_plus, sp__law_rounded, sp_minus, sp_times, sp__law_one, sp__law_product_of, sp__law_over, sp_over, sp_hull, sp_meet, sp_within]
    rw [← mI_rd h2 k2] at h'
    exact ⟨a - d, [b - c], 1, rfl, .of (by decide) (by decide), h'⟩
  refine hearIf (q := tI (a, b) (c, d)) (fun R' Rx h' => ?_) (fun R' h' => ?_) ?_
  · simp (implicitDefEqProofs := false) (maxSteps := 3000000) only [xSeq, xIf, xRet, xRaise, xOf, xB, xBK, xAsg, xTry, xHeard, mD0, mD1, mD2, startD, List.map_cons, List.map_nil, List.length_cons, List.length_nil, List.replicate, List.cons_append, List.nil_append, Nat.reduceAdd, Nat.reduceSub, Nat.zero_add, dSeq, dIfS, dOr, dAnd, dNot, dTst, dOp, dUn, dVar, dC, dB, dBK, dCons, dNil, dTup, dLst, dRet, dRetN, dRetF, dRetO, dBO, dFr, dRepL, dCatL, dRev, dRevL, dSlO, dCatO, cSorted, SpO.sp, dNext, dNever, dAsg, dPar, dPar3, dParO, dIf, dAndV, dOrV, dNotV, dCh, dCt, cLast, cLink, tLast, tLink, dDrop, dFor, dBrk, dCnt, dOwn, dApp, dExt, dFree, gPutO, dIxO, dLend, dLendT, dLcF, gN, gTu, gCn, gNl, gP0, gP1, gII, gIIc, gAdd, gNeg, gIx, gEq, gNe, gIs, gIsNot, gIn, gNotIn, gSl, oNone, oSome, gMt, gIndex, cTuple, cList, cI1, cI2, cInt, cLen, cMax, cMin, cMaxT, cMinT, dAug, cAll, cAny, cRepr, cSqrt, cIsi, tyN, isNon, kb_tt, kb_ii, kb_ib, kb_bi, kb_bb, kb_it, kb_bt, kb_nt, kb_ni, kb_lt, kb_li, kb_ti, kb_si, kb_st, kb_ss, rd, dTru, dRgN, dEnum, gMulT, gDivN, gDivNB, gEqF, dCallV, spOf, atD, ordD, dSq, dZip, dZipM, dZip3, zipD3_map, gShl, dParOO, zipD_map, ivD, dRg1, dRg2, dLc, dYes, dLcGo, dGen, dGenGo, wipeD, boolsOf, intsOf, maxL, minL, noL, noLs, Option.map_some, Option.bind_some, List.all_cons, List.all_nil, List.any_cons, List.any_nil, id_eq, List.set_cons_zero, List.set_cons_succ, List.getElem?_cons_zero, List.getElem?_cons_succ, List.getElem?_nil, List.getD_cons_zero, List.getD_cons_succ, decide_eq_true_eq, decide_eq_false_iff_not, Bool.not_eq_true', Bool.not_true, Bool.not_false, Bool.and_true, Bool.true_and, Bool.and_false, Bool.false_and, Bool.false_eq_true, if_true, if_false, reduceIte, ite_true, ite_false, true_and, and_true, reduceCtorEq, Int.toNat_zero, Int.toNat_one, Int.cast_ofNat_Int, Int.reduceLT, Int.reduceLE, Int.reduceNeg, Int.reduceToNat, Int.reducePow, Int.reduceMul, Int.reduceAdd, Int.reduceSub, decide_true, decide_false, sp__law_interval, sp_plus, sp__law_rounded, sp_minus, sp_times, sp__law_one, sp__law_product_of, sp__law_over, sp_over, sp_hull, sp_meet, sp_within]
    exact ⟨⟨hx, hy⟩, h'⟩
  · simp (implicitDefEqProofs := false) (maxSteps := 3000000) only [xSeq, xIf, xRet, xRaise, xOf, xB, xBK, xAsg, xTry, xHeard, mD0, mD1, mD2, startD, List.map_cons, List.map_nil, List.length_cons, List.length_nil, List.replicate, List.cons_append, List.nil_append, Nat.reduceAdd, Nat.reduceSub, Nat.zero_add, dSeq, dIfS, dOr, dAnd, dNot, dTst, dOp, dUn, dVar, dC, dB, dBK, dCons, dNil, dTup, dLst, dRet, dRetN, dRetF, dRetO, dBO, dFr, dRepL, dCatL, dRev, dRevL, dSlO, dCatO, cSorted, SpO.sp, dNext, dNever, dAsg, dPar, dPar3, dParO, dIf, dAndV, dOrV, dNotV, dCh, dCt, cLast, cLink, tLast, tLink, dDrop, dFor, dBrk, dCnt, dOwn, dApp, dExt, dFree, gPutO, dIxO, dLend, dLendT, dLcF, gN, gTu, gCn, gNl, gP0, gP1, gII, gIIc, gAdd, gNeg, gIx, gEq, gNe, gIs, gIsNot, gIn, gNotIn, gSl, oNone, oSome, gMt, gIndex, cTuple, cList, cI1, cI2, cInt, cLen, cMax, cMin, cMaxT, cMinT, dAug, cAll, cAny, cRepr, cSqrt, cIsi, tyN, isNon, kb_tt, kb_ii, kb_ib, kb_bi, kb_bb, kb_it, kb_bt, kb_nt, kb_ni, kb_lt, kb_li, kb_ti, kb_si, kb_st, kb_ss, rd, dTru, dRgN, dEnum, gMulT, gDivN, gDivNB, gEqF, dCallV, spOf, atD, ordD, dSq, dZip, dZipM, dZip3, zipD3_map, gShl, dParOO, zipD_map, ivD, dRg1, dRg2, dLc, dYes, dLcGo, dGen, dGenGo, wipeD, boolsOf, intsOf, maxL, minL, noL, noLs, Option.map_some, Option.bind_some, List.all_cons, List.all_nil, List.any_cons, List.any_nil, id_eq, List.set_cons_zero, List.set_cons_succ, List.getElem?_cons_zero, List.getElem?_cons_succ, List.getElem?_nil, List.getD_cons_zero, List.getD_cons_succ, decide_eq_true_eq, decide_eq_false_iff_not, Bool.not_eq_true', Bool.not_true, Bool.not_false, Bool.and_true, Bool.true_and, Bool.and_false, Bool.false_and, Bool.false_eq_true, if_true, if_false, reduceIte, ite_true, ite_false, true_and, and_true, reduceCtorEq, Int.toNat_zero, Int.toNat_one, Int.cast_ofNat_Int, Int.reduceLT, Int.reduceLE, Int.reduceNeg, Int.reduceToNat, Int.reducePow, Int.reduceMul, Int.reduceAdd, Int.reduceSub, decide_true, decide_false, sp__law_interval, sp_plus, sp__law_rounded, sp_minus, sp_times, sp__law_one, sp__law_product_of, sp__law_over, sp_over, sp_hull, sp_meet, sp_within]
    exact ⟨⟨hx, hy⟩, a * c, [a * d, b * c, b * d], 1099511627776, rfl, .of (by decide) (by decide), h'⟩
  have hs : shp 60 (if c ≤ 0 ∧ 0 ≤ d then D.non else .lst [roundD (oI (a, b) (c, d))]) = true ∧ isOwn (if c ≤ 0 ∧ 0 ≤ d then D.non else .lst [roundD (oI (a, b) (c, d))]) = false := by
    unfold roundD
    split
    · exact ⟨rfl, rfl⟩
    · split <;> exact ⟨rfl, rfl⟩
  generalize hx0 : (if c ≤ 0 ∧ 0 ≤ d then D.non else .lst [roundD (oI (a, b) (c, d))]) = x at hs
  refine seqAsg x (fun Q hQ => ?_) (seqAsg .non (fun Q hQ => hQ) (seqTo [some .pot, some x, some x, none, none, none, some (.tup [.int a, .int b]), some (.tup [.int c, .int d])] (fun k hk => ?_) ?_))
  · simp (implicitDefEqProofs := false) (maxSteps := 3000000) only [xSeq, xIf, xRet, xRaise, xOf, xB, xBK, xAsg, xTry, xHeard, mD0, mD1, mD2, startD, List.map_cons, List.map_nil, List.length_cons, List.length_nil, List.replicate, List.cons_append, List.nil_append, Nat.reduceAdd, Nat.reduceSub, Nat.zero_add, dSeq, dIfS, dOr, dAnd, dNot, dTst, dOp, dUn, dVar, dC, dB, dBK, dCons, dNil, dTup, dLst, dRet, dRetN, dRetF, dRetO, dBO, dFr, dRepL, dCatL, dRev, dRevL, dSlO, dCatO, cSorted, SpO.sp, dNext, dNever, dAsg, dPar, dPar3, dParO, dIf, dAndV, dOrV, dNotV, dCh, dCt, cLast, cLink, tLast, tLink, dDrop, dFor, dBrk, dCnt, dOwn, dApp, dExt, dFree, gPutO, dIxO, dLend, dLendT, dLcF, gN, gTu, gCn, gNl, gP0, gP1, gII, gIIc, gAdd, gNeg, gIx, gEq, gNe, gIs, gIsNot, gIn, gNotIn, gSl, oNone, oSome, gMt, gIndex, cTuple, cList, cI1, cI2, cInt, cLen, cMax, cMin, cMaxT, cMinT, dAug, cAll, cAny, cRepr, cSqrt, cIsi, tyN, isNon, kb_tt, kb_ii, kb_ib, kb_bi, kb_bb, kb_it, kb_bt, kb_nt, kb_ni, kb_lt, kb_li, kb_ti, kb_si, kb_st, kb_ss, rd, dTru, dRgN, dEnum, gMulT, gDivN, gDivNB, gEqF, dCallV, spOf, atD, ordD, dSq, dZip, dZipM, dZip3, zipD3_map, gShl, dParOO, zipD_map, ivD, dRg1, dRg2, dLc, dYes, dLcGo, dGen, dGenGo, wipeD, boolsOf, intsOf, maxL, minL, noL, noLs, Option.map_some, Option.bind_some, List.all_cons, List.all_nil, List.any_cons, List.any_nil, id_eq, List.set_cons_zero, List.set_cons_succ, List.getElem?_cons_zero, List.getElem?_cons_succ, List.getElem?_nil, List.getD_cons_zero, List.getD_cons_succ, decide_eq_true_eq, decide_eq_false_iff_not, Bool.not_eq_true', Bool.not_true, Bool.not_false, Bool.and_true, Bool.true_and, Bool.and_false, Bool.false_and, Bool.false_eq_true, if_true, if_false, reduceIte, ite_true, ite_false, true_and, and_true, reduceCtorEq, Int.toNat_zero, Int.toNat_one, Int.cast_ofNat_Int, Int.reduceLT, Int.reduceLE, Int.reduceNeg, Int.reduceToNat, Int.reducePow, Int.reduceMul, Int.reduceAdd, Int.reduceSub, decide_true, decide_false, sp__law_interval, sp_plus, sp__law_rounded, sp_minus, sp_times, sp__law_one, sp__law_product_of, sp__law_over, sp_over, sp_hull, sp_meet, sp_within]
    rw [← hx0] at hQ
    by_cases c0 : c ≤ 0
    · rw [if_pos c0]
      by_cases d0 : 0 ≤ d
      · rw [if_pos ⟨c0, d0⟩] at hQ
        rw [if_pos d0]
        exact hQ
      · rw [if_neg (fun z => d0 z.2)] at hQ
        rw [if_neg d0]
        exact ⟨⟨hx, hy, .inr (by omega)⟩, hQ⟩
    · rw [if_neg (fun z => c0 z.1)] at hQ
      rw [if_neg c0]
      exact ⟨⟨hx, hy, .inl (by omega)⟩, hQ⟩
  · have ov : ∀ (R' : D → Prop) (Rx : XD → Prop), (if c ≤ 0 ∧ 0 ≤ d then Rx noqX else outX (oI (a, b) (c, d)) R' Rx) → xBK sp_over [1, 0] dNil (dCons (dVar 7) (dCons (dVar 6) dNil)) [some .pot, some x, some .non, none, none, none, some (.tup [.int a, .int b]), some (.tup [.int c, .int d])] R' Rx := fun R' Rx h' => by
      simp (implicitDefEqProofs := false) (maxSteps := 3000000) only [xSeq, xIf, xRet, xRaise, xOf, xB, xBK, xAsg, xTry, xHeard, mD0, mD1, mD2, startD, List.map_cons, List.map_nil, List.length_cons, List.length_nil, List.replicate, List.cons_append, List.nil_append, Nat.reduceAdd, Nat.reduceSub, Nat.zero_add, dSeq, dIfS, dOr, dAnd, dNot, dTst, dOp, dUn, dVar, dC, dB, dBK, dCons, dNil, dTup, dLst, dRet, dRetN, dRetF, dRetO, dBO, dFr, dRepL, dCatL, dRev, dRevL, dSlO, dCatO, cSorted, SpO.sp, dNext, dNever, dAsg, dPar, dPar3, dParO, dIf, dAndV, dOrV, dNotV, dCh, dCt, cLast, cLink, tLast, tLink, dDrop, dFor, dBrk, dCnt, dOwn, dApp, dExt, dFree, gPutO, dIxO, dLend, dLendT, dLcF, gN, gTu, gCn, gNl, gP0, gP1, gII, gIIc, gAdd, gNeg, gIx, gEq, gNe, gIs, gIsNot, gIn, gNotIn, gSl, oNone, oSome, gMt, gIndex, cTuple, cList, cI1, cI2, cInt, cLen, cMax, cMin, cMaxT, cMinT, dAug, cAll, cAny, cRepr, cSqrt, cIsi, tyN, isNon, kb_tt, kb_ii, kb_ib, kb_bi, kb_bb, kb_it, kb_bt, kb_nt, kb_ni, kb_lt, kb_li, kb_ti, kb_si, kb_st, kb_ss, rd, dTru, dRgN, dEnum, gMulT, gDivN, gDivNB, gEqF, dCallV, spOf, atD, ordD, dSq, dZip, dZipM, dZip3, zipD3_map, gShl, dParOO, zipD_map, ivD, dRg1, dRg2, dLc, dYes, dLcGo, dGen, dGenGo, wipeD, boolsOf, intsOf, maxL, minL, noL, noLs, Option.map_some, Option.bind_some, List.all_cons, List.all_nil, List.any_cons, List.any_nil, id_eq, List.set_cons_zero, List.set_cons_succ, List.getElem?_cons_zero, List.getElem?_cons_succ, List.getElem?_nil, List.getD_cons_zero, List.getD_cons_succ, decide_eq_true_eq, decide_eq_false_iff_not, Bool.not_eq_true', Bool.not_true, Bool.not_false, Bool.and_true, Bool.true_and, Bool.and_false, Bool.false_and, Bool.false_eq_true, if_true, if_false, reduceIte, ite_true, ite_false, true_and, and_true, reduceCtorEq, Int.toNat_zero, Int.toNat_one, Int.cast_ofNat_Int, Int.reduceLT, Int.reduceLE, Int.reduceNeg, Int.reduceToNat, Int.reducePow, Int.reduceMul, Int.reduceAdd, Int.reduceSub, decide_true, decide_false, sp__law_interval, sp_plus, sp__law_rounded, sp_minus, sp_times, sp__law_one, sp__law_product_of, sp__law_over, sp_over, sp_hull, sp_meet, sp_within]
      exact ⟨⟨hx, hy⟩, h'⟩
    refine ov _ _ ?_
    by_cases c0 : c ≤ 0 ∧ 0 ≤ d
    · rw [if_pos c0] at hx0
      subst hx0
      rw [if_pos c0]
      refine ⟨by simp [noqX], ?_⟩
      rw [if_neg (by decide)]
      refine ⟨by simp [noqX], ?_⟩
      exact ifT rfl hk
    · rw [if_neg c0] at hx0
      subst hx0
      rw [if_neg c0]
      exact he_out hk
  refine seqIf false (fun Q hQ => ?_) (ofNext ?_)
  · unfold dOr dTst dOp
    refine dv hs.2 rfl (dv hs.2 rfl (gNe_self hs.1 ?_))
    simp (implicitDefEqProofs := false) (maxSteps := 3000000) only [xSeq, xIf, xRet, xRaise, xOf, xB, xBK, xAsg, xTry, xHeard, mD0, mD1, mD2, startD, List.map_cons, List.map_nil, List.length_cons, List.length_nil, List.replicate, List.cons_append, List.nil_append, Nat.reduceAdd, Nat.reduceSub, Nat.zero_add, dSeq, dIfS, dOr, dAnd, dNot, dTst, dOp, dUn, dVar, dC, dB, dBK, dCons, dNil, dTup, dLst, dRet, dRetN, dRetF, dRetO, dBO, dFr, dRepL, dCatL, dRev, dRevL, dSlO, dCatO, cSorted, SpO.sp, dNext, dNever, dAsg, dPar, dPar3, dParO, dIf, dAndV, dOrV, dNotV, dCh, dCt, cLast, cLink, tLast, tLink, dDrop, dFor, dBrk, dCnt, dOwn, dApp, dExt, dFree, gPutO, dIxO, dLend, dLendT, dLcF, gN, gTu, gCn, gNl, gP0, gP1, gII, gIIc, gAdd, gNeg, gIx, gEq, gNe, gIs, gIsNot, gIn, gNotIn, gSl, oNone, oSome, gMt, gIndex, cTuple, cList, cI1, cI2, cInt, cLen, cMax, cMin, cMaxT, cMinT, dAug, cAll, cAny, cRepr, cSqrt, cIsi, tyN, isNon, kb_tt, kb_ii, kb_ib, kb_bi, kb_bb, kb_it, kb_bt, kb_nt, kb_ni, kb_lt, kb_li, kb_ti, kb_si, kb_st, kb_ss, rd, dTru, dRgN, dEnum, gMulT, gDivN, gDivNB, gEqF, dCallV, spOf, atD, ordD, dSq, dZip, dZipM, dZip3, zipD3_map, gShl, dParOO, zipD_map, ivD, dRg1, dRg2, dLc, dYes, dLcGo, dGen, dGenGo, wipeD, boolsOf, intsOf, maxL, minL, noL, noLs, Option.map_some, Option.bind_some, List.all_cons, List.all_nil, List.any_cons, List.any_nil, id_eq, List.set_cons_zero, List.set_cons_succ, List.getElem?_cons_zero, List.getElem?_cons_succ, List.getElem?_nil, List.getD_cons_zero, List.getD_cons_succ, decide_eq_true_eq, decide_eq_false_iff_not, Bool.not_eq_true', Bool.not_true, Bool.not_false, Bool.and_true, Bool.true_and, Bool.and_false, Bool.false_and, Bool.false_eq_true, if_true, if_false, reduceIte, ite_true, ite_false, true_and, and_true, reduceCtorEq, Int.toNat_zero, Int.toNat_one, Int.cast_ofNat_Int, Int.reduceLT, Int.reduceLE, Int.reduceNeg, Int.reduceToNat, Int.reducePow, Int.reduceMul, Int.reduceAdd, Int.reduceSub, decide_true, decide_false, sp__law_interval, sp_plus, sp__law_rounded, sp_minus, sp_times, sp__law_one, sp__law_product_of, sp__law_over, sp_over, sp_hull, sp_meet, sp_within]
    refine ⟨⟨hx, hy⟩, ⟨rfl, rfl⟩, ?_⟩
    rw [eqv_self (d := .tup [.int (min a c), .int (max b d)]) rfl]
    exact hQ
  refine seqPar (.int (max a c)) (.int (min b d)) (fun Q hQ => by simp (implicitDefEqProofs := false) (maxSteps := 3000000) only [xSeq, xIf, xRet, xRaise, xOf, xB, xBK, xAsg, xTry, xHeard, mD0, mD1, mD2, startD, List.map_cons, List.map_nil, List.length_cons, List.length_nil, List.replicate, List.cons_append, List.nil_append, Nat.reduceAdd, Nat.reduceSub, Nat.zero_add, dSeq, dIfS, dOr, dAnd, dNot, dTst, dOp, dUn, dVar, dC, dB, dBK, dCons, dNil, dTup, dLst, dRet, dRetN, dRetF, dRetO, dBO, dFr, dRepL, dCatL, dRev, dRevL, dSlO, dCatO, cSorted, SpO.sp, dNext, dNever, dAsg, dPar, dPar3, dParO, dIf, dAndV, dOrV, dNotV, dCh, dCt, cLast, cLink, tLast, tLink, dDrop, dFor, dBrk, dCnt, dOwn, dApp, dExt, dFree, gPutO, dIxO, dLend, dLendT, dLcF, gN, gTu, gCn, gNl, gP0, gP1, gII, gIIc, gAdd, gNeg, gIx, gEq, gNe, gIs, gIsNot, gIn, gNotIn, gSl, oNone, oSome, gMt, gIndex, cTuple, cList, cI1, cI2, cInt, cLen, cMax, cMin, cMaxT, cMinT, dAug, cAll, cAny, cRepr, cSqrt, cIsi, tyN, isNon, kb_tt, kb_ii, kb_ib, kb_bi, kb_bb, kb_it, kb_bt, kb_nt, kb_ni, kb_lt, kb_li, kb_ti, kb_si, kb_st, kb_ss, rd, dTru, dRgN, dEnum, gMulT, gDivN, gDivNB, gEqF, dCallV, spOf, atD, ordD, dSq, dZip, dZipM, dZip3, zipD3_map, gShl, dParOO, zipD_map, ivD, dRg1, dRg2, dLc, dYes, dLcGo, dGen, dGenGo, wipeD, boolsOf, intsOf, maxL, minL, noL, noLs, Option.map_some, Option.bind_some, List.all_cons, List.all_nil, List.any_cons, List.any_nil, id_eq, List.set_cons_zero, List.set_cons_succ, List.getElem?_cons_zero, List.getElem?_cons_succ, List.getElem?_nil, List.getD_cons_zero, List.getD_cons_succ, decide_eq_true_eq, decide_eq_false_iff_not, Bool.not_eq_true', Bool.not_true, Bool.not_false, Bool.and_true, Bool.true_and, Bool.and_false, Bool.false_and, Bool.false_eq_true, if_true, if_false, reduceIte, ite_true, ite_false, true_and, and_true, reduceCtorEq, Int.toNat_zero, Int.toNat_one, Int.cast_ofNat_Int, Int.reduceLT, Int.reduceLE, Int.reduceNeg, Int.reduceToNat, Int.reducePow, Int.reduceMul, Int.reduceAdd, Int.reduceSub, decide_true, decide_false, sp__law_interval, sp_plus, sp__law_rounded, sp_minus, sp_times, sp__law_one, sp__law_product_of, sp__law_over, sp_over, sp_hull, sp_meet, sp_within]; exact hQ) ?_
  refine seqIf false (fun Q hQ => ?_) (ofNext ?_)
  · simp (implicitDefEqProofs := false) (maxSteps := 3000000) only [xSeq, xIf, xRet, xRaise, xOf, xB, xBK, xAsg, xTry, xHeard, mD0, mD1, mD2, startD, List.map_cons, List.map_nil, List.length_cons, List.length_nil, List.replicate, List.cons_append, List.nil_append, Nat.reduceAdd, Nat.reduceSub, Nat.zero_add, dSeq, dIfS, dOr, dAnd, dNot, dTst, dOp, dUn, dVar, dC, dB, dBK, dCons, dNil, dTup, dLst, dRet, dRetN, dRetF, dRetO, dBO, dFr, dRepL, dCatL, dRev, dRevL, dSlO, dCatO, cSorted, SpO.sp, dNext, dNever, dAsg, dPar, dPar3, dParO, dIf, dAndV, dOrV, dNotV, dCh, dCt, cLast, cLink, tLast, tLink, dDrop, dFor, dBrk, dCnt, dOwn, dApp, dExt, dFree, gPutO, dIxO, dLend, dLendT, dLcF, gN, gTu, gCn, gNl, gP0, gP1, gII, gIIc, gAdd, gNeg, gIx, gEq, gNe, gIs, gIsNot, gIn, gNotIn, gSl, oNone, oSome, gMt, gIndex, cTuple, cList, cI1, cI2, cInt, cLen, cMax, cMin, cMaxT, cMinT, dAug, cAll, cAny, cRepr, cSqrt, cIsi, tyN, isNon, kb_tt, kb_ii, kb_ib, kb_bi, kb_bb, kb_it, kb_bt, kb_nt, kb_ni, kb_lt, kb_li, kb_ti, kb_si, kb_st, kb_ss, rd, dTru, dRgN, dEnum, gMulT, gDivN, gDivNB, gEqF, dCallV, spOf, atD, ordD, dSq, dZip, dZipM, dZip3, zipD3_map, gShl, dParOO, zipD_map, ivD, dRg1, dRg2, dLc, dYes, dLcGo, dGen, dGenGo, wipeD, boolsOf, intsOf, maxL, minL, noL, noLs, Option.map_some, Option.bind_some, List.all_cons, List.all_nil, List.any_cons, List.any_nil, id_eq, List.set_cons_zero, List.set_cons_succ, List.getElem?_cons_zero, List.getElem?_cons_succ, List.getElem?_nil, List.getD_cons_zero, List.getD_cons_succ, decide_eq_true_eq, decide_eq_false_iff_not, Bool.not_eq_true', Bool.not_true, Bool.not_false, Bool.and_true, Bool.true_and, Bool.and_false, Bool.false_and, Bool.false_eq_true, if_true, if_false, reduceIte, ite_true, ite_false, true_and, and_true, reduceCtorEq, Int.toNat_zero, Int.toNat_one, Int.cast_ofNat_Int, Int.reduceLT, Int.reduceLE, Int.reduceNeg, Int.reduceToNat, Int.reducePow, Int.reduceMul, Int.reduceAdd, Int.reduceSub, decide_true, decide_false, sp__law_interval, sp_plus, sp__law_rounded, sp_minus, sp_times, sp__law_one, sp__law_product_of, sp__law_over, sp_over, sp_hull, sp_meet, sp_within]
    refine ⟨⟨hx, hy⟩, ?_⟩
    by_cases m : max a c ≤ min b d
    · have l1 : -1180591620717411303424 ≤ a := hx.lo
      have l2 : -1180591620717411303424 ≤ c := hy.lo
      have u1 : b ≤ 1180591620717411303424 := hx.hi
      have u2 : d ≤ 1180591620717411303424 := hy.hi
      have ok : okR (.tup [.int (max a c), .int (min b d)]) := ⟨rfl, (ivD_ok (q := (max a c, min b d)) ⟨by show _ ≤ max a c; omega, m, by show min b d ≤ _; omega⟩).2.1, (show 1 + (1 + 0) + 1 ≤ 5000 by omega)⟩
      simp only [if_pos m]
      exact ⟨ok, ok, by rw [decide_eq_true (p := True) trivial]; exact hQ⟩
    · have ok : okR .non := ⟨rfl, trivial, (show 1 ≤ 5000 by omega)⟩
      simp only [if_neg m]
      exact ⟨ok, ok, by rw [decide_eq_true (p := True) trivial]; exact hQ⟩
  refine seqAsg (.bl (decide (c ≤ a) && decide (b ≤ d))) (fun Q hQ => ?_) ?_
  · simp (implicitDefEqProofs := false) (maxSteps := 3000000) only [xSeq, xIf, xRet, xRaise, xOf, xB, xBK, xAsg, xTry, xHeard, mD0, mD1, mD2, startD, List.map_cons, List.map_nil, List.length_cons, List.length_nil, List.replicate, List.cons_append, List.nil_append, Nat.reduceAdd, Nat.reduceSub, Nat.zero_add, dSeq, dIfS, dOr, dAnd, dNot, dTst, dOp, dUn, dVar, dC, dB, dBK, dCons, dNil, dTup, dLst, dRet, dRetN, dRetF, dRetO, dBO, dFr, dRepL, dCatL, dRev, dRevL, dSlO, dCatO, cSorted, SpO.sp, dNext, dNever, dAsg, dPar, dPar3, dParO, dIf, dAndV, dOrV, dNotV, dCh, dCt, cLast, cLink, tLast, tLink, dDrop, dFor, dBrk, dCnt, dOwn, dApp, dExt, dFree, gPutO, dIxO, dLend, dLendT, dLcF, gN, gTu, gCn, gNl, gP0, gP1, gII, gIIc, gAdd, gNeg, gIx, gEq, gNe, gIs, gIsNot, gIn, gNotIn, gSl, oNone, oSome, gMt, gIndex, cTuple, cList, cI1, cI2, cInt, cLen, cMax, cMin, cMaxT, cMinT, dAug, cAll, cAny, cRepr, cSqrt, cIsi, tyN, isNon, kb_tt, kb_ii, kb_ib, kb_bi, kb_bb, kb_it, kb_bt, kb_nt, kb_ni, kb_lt, kb_li, kb_ti, kb_si, kb_st, kb_ss, rd, dTru, dRgN, dEnum, gMulT, gDivN, gDivNB, gEqF, dCallV, spOf, atD, ordD, dSq, dZip, dZipM, dZip3, zipD3_map, gShl, dParOO, zipD_map, ivD, dRg1, dRg2, dLc, dYes, dLcGo, dGen, dGenGo, wipeD, boolsOf, intsOf, maxL, minL, noL, noLs, Option.map_some, Option.bind_some, List.all_cons, List.all_nil, List.any_cons, List.any_nil, id_eq, List.set_cons_zero, List.set_cons_succ, List.getElem?_cons_zero, List.getElem?_cons_succ, List.getElem?_nil, List.getD_cons_zero, List.getD_cons_succ, decide_eq_true_eq, decide_eq_false_iff_not, Bool.not_eq_true', Bool.not_true, Bool.not_false, Bool.and_true, Bool.true_and, Bool.and_false, Bool.false_and, Bool.false_eq_true, if_true, if_false, reduceIte, ite_true, ite_false, true_and, and_true, reduceCtorEq, Int.toNat_zero, Int.toNat_one, Int.cast_ofNat_Int, Int.reduceLT, Int.reduceLE, Int.reduceNeg, Int.reduceToNat, Int.reducePow, Int.reduceMul, Int.reduceAdd, Int.reduceSub, decide_true, decide_false, sp__law_interval, sp_plus, sp__law_rounded, sp_minus, sp_times, sp__law_one, sp__law_product_of, sp__law_over, sp_over, sp_hull, sp_meet, sp_within]
    by_cases e : c ≤ a
    · rw [if_pos e]
      rw [decide_eq_true e, Bool.true_and] at hQ
      exact hQ
    · rw [if_neg e]
      rw [decide_eq_false e, Bool.false_and] at hQ
      exact hQ
  simp (implicitDefEqProofs := false) (maxSteps := 3000000) only [xSeq, xIf, xRet, xRaise, xOf, xB, xBK, xAsg, xTry, xHeard, mD0, mD1, mD2, startD, List.map_cons, List.map_nil, List.length_cons, List.length_nil, List.replicate, List.cons_append, List.nil_append, Nat.reduceAdd, Nat.reduceSub, Nat.zero_add, dSeq, dIfS, dOr, dAnd, dNot, dTst, dOp, dUn, dVar, dC, dB, dBK, dCons, dNil, dTup, dLst, dRet, dRetN, dRetF, dRetO, dBO, dFr, dRepL, dCatL, dRev, dRevL, dSlO, dCatO, cSorted, SpO.sp, dNext, dNever, dAsg, dPar, dPar3, dParO, dIf, dAndV, dOrV, dNotV, dCh, dCt, cLast, cLink, tLast, tLink, dDrop, dFor, dBrk, dCnt, dOwn, dApp, dExt, dFree, gPutO, dIxO, dLend, dLendT, dLcF, gN, gTu, gCn, gNl, gP0, gP1, gII, gIIc, gAdd, gNeg, gIx, gEq, gNe, gIs, gIsNot, gIn, gNotIn, gSl, oNone, oSome, gMt, gIndex, cTuple, cList, cI1, cI2, cInt, cLen, cMax, cMin, cMaxT, cMinT, dAug, cAll, cAny, cRepr, cSqrt, cIsi, tyN, isNon, kb_tt, kb_ii, kb_ib, kb_bi, kb_bb, kb_it, kb_bt, kb_nt, kb_ni, kb_lt, kb_li, kb_ti, kb_si, kb_st, kb_ss, rd, dTru, dRgN, dEnum, gMulT, gDivN, gDivNB, gEqF, dCallV, spOf, atD, ordD, dSq, dZip, dZipM, dZip3, zipD3_map, gShl, dParOO, zipD_map, ivD, dRg1, dRg2, dLc, dYes, dLcGo, dGen, dGenGo, wipeD, boolsOf, intsOf, maxL, minL, noL, noLs, Option.map_some, Option.bind_some, List.all_cons, List.all_nil, List.any_cons, List.any_nil, id_eq, List.set_cons_zero, List.set_cons_succ, List.getElem?_cons_zero, List.getElem?_cons_succ, List.getElem?_nil, List.getD_cons_zero, List.getD_cons_succ, decide_eq_true_eq, decide_eq_false_iff_not, Bool.not_eq_true', Bool.not_true, Bool.not_false, Bool.and_true, Bool.true_and, Bool.and_false, Bool.false_and, Bool.false_eq_true, if_true, if_false, reduceIte, ite_true, ite_false, true_and, and_true, reduceCtorEq, Int.toNat_zero, Int.toNat_one, Int.cast_ofNat_Int, Int.reduceLT, Int.reduceLE, Int.reduceNeg, Int.reduceToNat, Int.reducePow, Int.reduceMul, Int.reduceAdd, Int.reduceSub, decide_true, decide_false, sp__law_interval, sp_plus, sp__law_rounded, sp_minus, sp_times, sp__law_one, sp__law_product_of, sp__law_over, sp_over, sp_hull, sp_meet, sp_within]
  have e1 : (decide (a ≤ a) && decide (b ≤ b)) = true := by simp
  rw [e1]
  exact ⟨⟨hx, hy⟩, ⟨hx, hx⟩, ok2 _ _, ok2 _ _, by rw [decide_eq_true rfl]; exact h⟩
def sp__law_single_right : SpD :=
  fun ds R => match ds with
  | [.pot] => R (.bl true)
  | _ => False
set_option maxHeartbeats 0 in
theorem ok__law_single_right (T : Txt K mg) (D0 : Dfn K mg "_law_single_right" "_law_single_right" s__law_single_right ["pot"] []) (hF : tabs.fns = mg) (hT0 : tabs.tabs = []) (TA : LamAt K mg base tabs "_law_single_right" (("_law_single_right" ++ ".<locals>." : Str) ++ "<lambda>")) (C__law_draw : Cal P w K mg base tabs "_law_draw" 1 2 ["pot", "room"] [] sp__law_draw) (C__law_small_ratio : Cal P w K mg base tabs "_law_small_ratio" 3 1 ["pot"] [] sp__law_small_ratio) (C__law_interval : Cal P w K mg base tabs "_law_interval" 5 1 ["pot"] [] sp__law_interval) (C_scaled : CalX P w K mg base tabs "scaled" 5 2 ["interval", "ratio"] [(["interval", "ratio"], 0, [0, 1])] sp_scaled) (C__law_rounded : Cal P w K mg base tabs "_law_rounded" 2 2 ["numbers", "under"] [] sp__law_rounded) (C_powered : CalX P w K mg base tabs "powered" 5 2 ["interval", "many"] [(["interval", "many"], 0, [0, 1])] sp_powered) (C__law_powered : Cal P w K mg base tabs "_law_powered" 3 2 ["interval", "many"] [] sp__law_powered) (C_around : CalX P w K mg base tabs "around" 5 1 ["ratio"] [] sp_around) (C__law_one : Cal P w K mg base tabs "_law_one" 1 0 [] [] sp__law_one) (C__law_ratio : Cal P w K mg base tabs "_law_ratio" 2 2 ["number", "under"] [] sp__law_ratio) (C_halves : Cal P w K mg base tabs "halves" 4 1 ["interval"] [(["interval"], 0, [0])] sp_halves) (C_middle : Cal P w K mg base tabs "middle" 4 1 ["interval"] [(["interval"], 0, [0])] sp_middle) (C_width : Cal P w K mg base tabs "width" 4 1 ["interval"] [(["interval"], 0, [0])] sp_width) (C_ends_of : Cal P w K mg base tabs "ends_of" 4 1 ["interval"] [] sp_ends_of) (C__law_within : Cal P w K mg base tabs "_law_within" 3 2 ["pot", "interval"] [] sp__law_within) (C_holds_ratio : Cal P w K mg base tabs "holds_ratio" 4 2 ["interval", "ratio"] [(["ratio", "interval"], 0, [1, 0])] sp_holds_ratio) (HE__law_heard : Hears P w K mg base tabs "_law_heard" "call" "TooMany" "what" "limit" "grains" "wrong" 1180591620717411303424 ["NoQuotient", "TooMany"] 1) : Cal P w K mg base tabs "_law_single_right" 8 1 ["pot"] [] sp__law_single_right := by
  refine cal_ofL D0 sc__law_single_right TA fun f cdv A outer s H E p ht TL hg hk hr => ⟨_, (pdss_cons (pds_asg (pd_tup (pda_cons (pdcC (C__law_interval.cal ht) hg hr (pda_cons (pd_var 0) pda_nil)) (pda_cons (pdcC (C__law_small_ratio.cal ht) hg hr (pda_cons (pd_var 0) pda_nil)) (pda_cons (pdcC (C__law_draw.cal ht) hg hr (pda_cons (pd_var 0) (pda_cons pd_int pda_nil))) pda_nil)))) (pdg_tup (n := 3) rfl (pdgs_cons (pdg_name (i := 8) sc__law_single_right.nd rfl (Or.inr rfl)) (pdgs_cons (pdg_name (i := 9) sc__law_single_right.nd rfl (Or.inr rfl)) (pdgs_cons (pdg_name (i := 7) sc__law_single_right.nd rfl (Or.inr rfl)) pdgs_nil)))))
      (pdss_cons (pds_set (i := 7) sc__law_single_right.nd rfl (Or.inr rfl) (pd_ifx (pdt_cmp (opd_eq hr.units) (pdcC (C__law_draw.cal ht) hg hr (pda_cons (pd_var 0) (pda_cons pd_int pda_nil))) pd_int) (pd_bin opd_add pd_int (pdcC (C__law_draw.cal ht) hg hr (pda_cons (pd_var 0) (pda_cons pd_int pda_nil)))) (pd_var 7)))
      (pdss_cons (pds_setLc (i := 1) (own := [("end", 10)]) (t := (L2.gName 10)) rfl sc__law_single_right.nd rfl rfl (pdi_sq (pd_var 8)) (show blkC ["pot", "numbers", "low", "high", "half", "some", "fine", "many", "one", "told", "end", "late"] (defScope s__law_single_right) _ _ = true by decide +kernel) (fun _ _ _ _ _ => (pgw_name (i := 10) (vs := [10]) sc__law_single_right.nd rfl (Or.inl rfl))) (fun _ _ _ _ _ => (pd_bin opd_mul (pd_var 10) (pd_ix (pd_var 9) pd_int))) (sh := s))
      (pdss_cons (pds_if (pdt_cmp (opd_ne hr.units) (pd_ofX (pd_heard (HE__law_heard.at ht) TL (by rw [ht]; exact hT0) (by rw [ht]; exact hF) LamX.takes0 hr (fun A outer s H E f c1 hA hR => (pdxCK0 (ks := ["interval", "ratio"]) (perm := [0, 1]) (C_scaled.cal ht) (takes_of rfl rfl rfl rfl) (hA.trans hg) hR (by decide) (pdk_cons (pd_var 8) (pdk_cons (pd_var 9) pdk_nil)))))) (pdcC (C__law_rounded.cal ht) hg hr (pda_cons (pd_var 1) (pda_cons (pd_ix (pd_var 9) pd_int) pda_nil)))) (pdss_one (pds_ret pd_bl)) pdss_nil)
      (pdss_cons (pds_if (pdt_cmp (opd_ne hr.units) (pd_ofX (pd_heard (HE__law_heard.at ht) TL (by rw [ht]; exact hT0) (by rw [ht]; exact hF) LamX.takes0 hr (fun A outer s H E f c1 hA hR => (pdxCK0 (ks := ["interval", "many"]) (perm := [0, 1]) (C_powered.cal ht) (takes_of rfl rfl rfl rfl) (hA.trans hg) hR (by decide) (pdk_cons (pd_var 8) (pdk_cons (pd_var 7) pdk_nil)))))) (pdcC (C__law_powered.cal ht) hg hr (pda_cons (pd_var 8) (pda_cons (pd_var 7) pda_nil)))) (pdss_one (pds_ret pd_bl)) pdss_nil)
      (pdss_cons (pds_if (pdt_cmp (opd_ne hr.units) (pd_ofX (pdxC (C_around.cal ht) LamX.takes0 hg hr (pda_cons (pd_var 9) pda_nil))) (pdcC (C__law_rounded.cal ht) hg hr (pda_cons (pd_lst (pda_cons (pd_bin opd_mul (pd_ix (pd_var 9) pd_int) (pdcC0 (C__law_one.cal ht) hg hr)) pda_nil)) (pda_cons (pd_ix (pd_var 9) pd_int) pda_nil)))) (pdss_one (pds_ret pd_bl)) pdss_nil)
      (pdss_cons (pds_set (i := 6) sc__law_single_right.nd rfl (Or.inr rfl) (pdcC (C__law_ratio.cal ht) hg hr (pda_cons (pdcC (C__law_draw.cal ht) hg hr (pda_cons (pd_var 0) (pda_cons (pd_bin opd_pow pd_int pd_int) pda_nil))) (pda_cons (pd_bin opd_mul pd_int (pd_bin opd_pow pd_int pd_int)) pda_nil))))
      (pdss_cons (pds_if (pdt_cmp (opd_ne hr.units) (pd_ofX (pd_heard (HE__law_heard.at ht) TL (by rw [ht]; exact hT0) (by rw [ht]; exact hF) LamX.takes0 hr (fun A outer s H E f c1 hA hR => (pdxC (C_around.cal ht) (takes_of rfl rfl rfl rfl) (hA.trans hg) hR (pda_cons (pd_var 6) pda_nil))))) (pdcC (C__law_rounded.cal ht) hg hr (pda_cons (pd_lst (pda_cons (pd_bin opd_mul (pd_ix (pd_var 6) pd_int) (pdcC0 (C__law_one.cal ht) hg hr)) pda_nil)) (pda_cons (pd_ix (pd_var 6) pd_int) pda_nil)))) (pdss_one (pds_ret pd_bl)) pdss_nil)
      (pdss_cons (pds_setLc (i := 1) (own := [("end", 10)]) (t := (L2.gName 10)) rfl sc__law_single_right.nd rfl rfl (pdi_sq (pd_var 8)) (show blkC ["pot", "numbers", "low", "high", "half", "some", "fine", "many", "one", "told", "end", "late"] (defScope s__law_single_right) _ _ = true by decide +kernel) (fun _ _ _ _ _ => (pgw_name (i := 10) (vs := [10]) sc__law_single_right.nd rfl (Or.inl rfl))) (fun _ _ _ _ _ => (pd_bin opd_mul (pd_var 10) (pd_ix (pd_var 6) pd_int))) (sh := s))
      (pdss_cons (pds_if (pdt_cmp (opd_ne hr.units) (pd_ofX (pd_heard (HE__law_heard.at ht) TL (by rw [ht]; exact hT0) (by rw [ht]; exact hF) LamX.takes0 hr (fun A outer s H E f c1 hA hR => (pdxC (C_scaled.cal ht) (takes_of rfl rfl rfl rfl) (hA.trans hg) hR (pda_cons (pd_var 8) (pda_cons (pd_var 6) pda_nil)))))) (pdcC (C__law_rounded.cal ht) hg hr (pda_cons (pd_var 1) (pda_cons (pd_ix (pd_var 6) pd_int) pda_nil)))) (pdss_one (pds_ret pd_bl)) pdss_nil)
      (pdss_cons (pds_asg (pd_var 8) (pdg_tup (n := 2) rfl (pdgs_cons (pdg_name (i := 2) sc__law_single_right.nd rfl (Or.inl rfl)) (pdgs_cons (pdg_name (i := 3) sc__law_single_right.nd rfl (Or.inl rfl)) pdgs_nil))))
      (pdss_cons (pds_set (i := 4) sc__law_single_right.nd rfl (Or.inl rfl) (pd_bin opd_div (pd_bin opd_add (pd_var 2) (pd_var 3)) pd_int))
      (pdss_cons (pds_if (pdt_cmp (opd_ne hr.units) (pd_lst (pda_cons (pdcCK0 (ks := ["interval"]) (perm := [0]) (C_width.cal ht) hg hr (by decide) (pdk_cons (pd_var 8) pdk_nil)) (pda_cons (pdcCK0 (ks := ["interval"]) (perm := [0]) (C_middle.cal ht) hg hr (by decide) (pdk_cons (pd_var 8) pdk_nil)) (pda_cons (pdcCK0 (ks := ["interval"]) (perm := [0]) (C_halves.cal ht) hg hr (by decide) (pdk_cons (pd_var 8) pdk_nil)) pda_nil)))) (pd_lst (pda_cons (pd_bin opd_sub (pd_var 3) (pd_var 2)) (pda_cons (pd_var 4) (pda_cons (pd_tup (pda_cons (pd_tup (pda_cons (pd_var 2) (pda_cons (pd_var 4) pda_nil))) (pda_cons (pd_tup (pda_cons (pd_var 4) (pda_cons (pd_var 3) pda_nil))) pda_nil))) pda_nil))))) (pdss_one (pds_ret pd_bl)) pdss_nil)
      (pdss_cons (pds_if (pdt_cmp (opd_ne hr.units) (pdcC (C_ends_of.cal ht) hg hr (pda_cons (pd_var 8) pda_nil)) (pd_tup (pda_cons (pdcC (C__law_ratio.cal ht) hg hr (pda_cons (pd_var 2) (pda_cons (pdcC0 (C__law_one.cal ht) hg hr) pda_nil))) (pda_cons (pdcC (C__law_ratio.cal ht) hg hr (pda_cons (pd_var 3) (pda_cons (pdcC0 (C__law_one.cal ht) hg hr) pda_nil))) pda_nil)))) (pdss_one (pds_ret pd_bl)) pdss_nil)
      (pdss_cons (pds_own (i := 5) sc__law_single_right.nd rfl (Or.inl rfl) (pdf_lst (pda_cons (pdcC (C__law_within.cal ht) hg hr (pda_cons (pd_var 0) (pda_cons (pd_var 8) pda_nil))) (pda_cons (pdcC (C__law_ratio.cal ht) hg hr (pda_cons (pd_bin opd_add (pd_var 3) pd_int) (pda_cons (pdcC0 (C__law_one.cal ht) hg hr) pda_nil))) pda_nil))))
      (pdss_cons (pds_ext (i := 5) (pdf_lst (pda_cons (pdcC (C__law_ratio.cal ht) hg hr (pda_cons (pd_bin opd_sub (pd_var 2) pd_int) (pda_cons (pdcC0 (C__law_one.cal ht) hg hr) pda_nil))) (pda_cons (pdcC (C__law_ratio.cal ht) hg hr (pda_cons (pd_bin opd_add (pd_bin opd_mul pd_int (pd_var 3)) pd_int) (pda_cons (pd_bin opd_mul pd_int (pdcC0 (C__law_one.cal ht) hg hr)) pda_nil))) pda_nil))))
      (pdss_cons (pds_app (i := 5) (pdcC (C__law_ratio.cal ht) hg hr (pda_cons (pd_bin opd_sub (pd_bin opd_mul pd_int (pd_var 2)) pd_int) (pda_cons (pd_bin opd_mul pd_int (pdcC0 (C__law_one.cal ht) hg hr)) pda_nil))))
      (pdss_cons (pds_set (i := 9) sc__law_single_right.nd rfl (Or.inr rfl) (pd_of (pdf_cat (pdf_lst (pda_cons (pdcC (C_holds_ratio.cal ht) hg hr (pda_cons (pd_var 8) (pda_cons (pd_ixO (i := 5) pd_int) pda_nil))) pda_nil)) (pdf_lc (own := [("late", 11)]) (t := (L2.gName 11)) rfl sc__law_single_right.nd (pdi_sq (pd_of (pdf_slO (i := 5) (pdo_some pd_int) pdo_none))) (show blkC ["pot", "numbers", "low", "high", "half", "some", "fine", "many", "one", "told", "end", "late"] (defScope s__law_single_right) _ _ = true by decide +kernel) (fun _ _ _ _ _ => (pgw_name (i := 11) (vs := [11]) sc__law_single_right.nd rfl (Or.inl rfl))) (fun _ _ _ _ _ => (pdcCK0 (ks := ["ratio", "interval"]) (perm := [1, 0]) (C_holds_ratio.cal ht) hg hr (by decide) (pdk_cons (pd_var 11) (pdk_cons (pd_var 8) pdk_nil)))) (sh := s)))))
      (pdss_one (pds_ret (pd_cmp (opd_eq hr.units) (pd_callB (cd_repr hg hr.units) rfl T.b_repr PyProof.Rows.boot_repr (pda_cons (pd_var 9) pda_nil)) (pd_callB (cd_repr hg hr.units) rfl T.b_repr PyProof.Rows.boot_repr (pda_cons (pd_lst (pda_cons pd_bl (pda_cons pd_bl (pda_cons pd_bl (pda_cons pd_bl (pda_cons pd_bl pda_nil)))))) pda_nil))))))))))))))))))))))), ?_⟩
  intro ds R hl h; unfold sp__law_single_right at h; split at h
  all_goals (try exact False.elim h)
  all_goals clear hl hg hr hk ht TL
  refine seqTo' (fun τ => ∃ (x t : Int × Int) (m : Int), Iv x ∧ Rw 60 t ∧ 0 ≤ m ∧ m < 8 ∧ τ = [some .pot, none, none, none, none, none, none, some (.int m), some (.tup [.int x.1, .int x.2]), some (.tup [.int t.1, .int t.2]), none, none]) (fun k hk => ?_) ?_
  · simp (implicitDefEqProofs := false) (maxSteps := 3000000) only [xSeq, xIf, xRet, xRaise, xOf, xB, xBK, xAsg, xTry, xHeard, mD0, mD1, mD2, startD, List.map_cons, List.map_nil, List.length_cons, List.length_nil, List.replicate, List.cons_append, List.nil_append, Nat.reduceAdd, Nat.reduceSub, Nat.zero_add, dSeq, dIfS, dOr, dAnd, dNot, dTst, dOp, dUn, dVar, dC, dB, dBK, dCons, dNil, dTup, dLst, dRet, dRetN, dRetF, dRetO, dBO, dFr, dRepL, dCatL, dRev, dRevL, dSlO, dCatO, cSorted, SpO.sp, dNext, dNever, dAsg, dPar, dPar3, dParO, dIf, dAndV, dOrV, dNotV, dCh, dCt, cLast, cLink, tLast, tLink, dDrop, dFor, dBrk, dCnt, dOwn, dApp, dExt, dFree, gPutO, dIxO, dLend, dLendT, dLcF, gN, gTu, gCn, gNl, gP0, gP1, gII, gIIc, gAdd, gNeg, gIx, gEq, gNe, gIs, gIsNot, gIn, gNotIn, gSl, oNone, oSome, gMt, gIndex, cTuple, cList, cI1, cI2, cInt, cLen, cMax, cMin, cMaxT, cMinT, dAug, cAll, cAny, cRepr, cSqrt, cIsi, tyN, isNon, kb_tt, kb_ii, kb_ib, kb_bi, kb_bb, kb_it, kb_bt, kb_nt, kb_ni, kb_lt, kb_li, kb_ti, kb_si, kb_st, kb_ss, rd, dTru, dRgN, dEnum, gMulT, gDivN, gDivNB, gEqF, dCallV, spOf, atD, ordD, dSq, dZip, dZipM, dZip3, zipD3_map, gShl, dParOO, zipD_map, ivD, dRg1, dRg2, dLc, dYes, dLcGo, dGen, dGenGo, wipeD, boolsOf, intsOf, maxL, minL, noL, noLs, Option.map_some, Option.bind_some, List.all_cons, List.all_nil, List.any_cons, List.any_nil, id_eq, List.set_cons_zero, List.set_cons_succ, List.getElem?_cons_zero, List.getElem?_cons_succ, List.getElem?_nil, List.getD_cons_zero, List.getD_cons_succ, decide_eq_true_eq, decide_eq_false_iff_not, Bool.not_eq_true', Bool.not_true, Bool.not_false, Bool.and_true, Bool.true_and, Bool.and_false, Bool.false_and, Bool.false_eq_true, if_true, if_false, reduceIte, ite_true, ite_false, true_and, and_true, reduceCtorEq, Int.toNat_zero, Int.toNat_one, Int.cast_ofNat_Int, Int.reduceLT, Int.reduceLE, Int.reduceNeg, Int.reduceToNat, Int.reducePow, Int.reduceMul, Int.reduceAdd, Int.reduceSub, decide_true, decide_false, sp__law_draw, sp__law_small_ratio, sp__law_interval, sp_scaled, sp__law_rounded, sp_powered, sp__law_powered, sp_around, sp__law_one, sp__law_ratio, sp_halves, sp_middle, sp_width, sp_ends_of, sp__law_within, sp_holds_ratio]
    intro x hx q hq r r0 r1
    exact hk _ ⟨x, q, r, hx, hq, r0, r1, rfl⟩
  rintro τ ⟨⟨a, b⟩, ⟨n, d⟩, m0, hx, ht, m1, m2, rfl⟩
  have h1 : -1180591620717411303424 ≤ a := hx.lo
  have h2 : a ≤ b := hx.le
  have h3 : b ≤ 1180591620717411303424 := hx.hi
  have d0 : 1 ≤ d := ht.rt.pos
  have d1 : d < _ := ht.rt.few
  have n1 : -60 ≤ n := ht.lo
  have n2 : n ≤ 60 := ht.hi
  refine seqAsgP (fun z => ∃ m : Int, 0 ≤ m ∧ m ≤ 40 ∧ z = .int m) (fun Q hQ => ?_) ?_
  · simp (implicitDefEqProofs := false) (maxSteps := 3000000) only [xSeq, xIf, xRet, xRaise, xOf, xB, xBK, xAsg, xTry, xHeard, mD0, mD1, mD2, startD, List.map_cons, List.map_nil, List.length_cons, List.length_nil, List.replicate, List.cons_append, List.nil_append, Nat.reduceAdd, Nat.reduceSub, Nat.zero_add, dSeq, dIfS, dOr, dAnd, dNot, dTst, dOp, dUn, dVar, dC, dB, dBK, dCons, dNil, dTup, dLst, dRet, dRetN, dRetF, dRetO, dBO, dFr, dRepL, dCatL, dRev, dRevL, dSlO, dCatO, cSorted, SpO.sp, dNext, dNever, dAsg, dPar, dPar3, dParO, dIf, dAndV, dOrV, dNotV, dCh, dCt, cLast, cLink, tLast, tLink, dDrop, dFor, dBrk, dCnt, dOwn, dApp, dExt, dFree, gPutO, dIxO, dLend, dLendT, dLcF, gN, gTu, gCn, gNl, gP0, gP1, gII, gIIc, gAdd, gNeg, gIx, gEq, gNe, gIs, gIsNot, gIn, gNotIn, gSl, oNone, oSome, gMt, gIndex, cTuple, cList, cI1, cI2, cInt, cLen, cMax, cMin, cMaxT, cMinT, dAug, cAll, cAny, cRepr, cSqrt, cIsi, tyN, isNon, kb_tt, kb_ii, kb_ib, kb_bi, kb_bb, kb_it, kb_bt, kb_nt, kb_ni, kb_lt, kb_li, kb_ti, kb_si, kb_st, kb_ss, rd, dTru, dRgN, dEnum, gMulT, gDivN, gDivNB, gEqF, dCallV, spOf, atD, ordD, dSq, dZip, dZipM, dZip3, zipD3_map, gShl, dParOO, zipD_map, ivD, dRg1, dRg2, dLc, dYes, dLcGo, dGen, dGenGo, wipeD, boolsOf, intsOf, maxL, minL, noL, noLs, Option.map_some, Option.bind_some, List.all_cons, List.all_nil, List.any_cons, List.any_nil, id_eq, List.set_cons_zero, List.set_cons_succ, List.getElem?_cons_zero, List.getElem?_cons_succ, List.getElem?_nil, List.getD_cons_zero, List.getD_cons_succ, decide_eq_true_eq, decide_eq_false_iff_not, Bool.not_eq_true', Bool.not_true, Bool.not_false, Bool.and_true, Bool.true_and, Bool.and_false, Bool.false_and, Bool.false_eq_true, if_true, if_false, reduceIte, ite_true, ite_false, true_and, and_true, reduceCtorEq, Int.toNat_zero, Int.toNat_one, Int.cast_ofNat_Int, Int.reduceLT, Int.reduceLE, Int.reduceNeg, Int.reduceToNat, Int.reducePow, Int.reduceMul, Int.reduceAdd, Int.reduceSub, decide_true, decide_false, sp__law_draw, sp__law_small_ratio, sp__law_interval, sp_scaled, sp__law_rounded, sp_powered, sp__law_powered, sp_around, sp__law_one, sp__law_ratio, sp_halves, sp_middle, sp_width, sp_ends_of, sp__law_within, sp_holds_ratio]
    intro w w0 w1
    refine ite2P (fun e => ?_) fun e => ?_
    · intro r r0 r1
      exact hQ _ ⟨_, by omega, by omega, rfl⟩
    · exact hQ _ ⟨_, m1, by omega, rfl⟩
  rintro _ ⟨m, m3, m4, rfl⟩
  refine seqAsg (.lst [.int (a * n), .int (b * n)]) (fun Q hQ => ?_) ?_
  · simp (implicitDefEqProofs := false) (maxSteps := 3000000) only [xSeq, xIf, xRet, xRaise, xOf, xB, xBK, xAsg, xTry, xHeard, mD0, mD1, mD2, startD, List.map_cons, List.map_nil, List.length_cons, List.length_nil, List.replicate, List.cons_append, List.nil_append, Nat.reduceAdd, Nat.reduceSub, Nat.zero_add, dSeq, dIfS, dOr, dAnd, dNot, dTst, dOp, dUn, dVar, dC, dB, dBK, dCons, dNil, dTup, dLst, dRet, dRetN, dRetF, dRetO, dBO, dFr, dRepL, dCatL, dRev, dRevL, dSlO, dCatO, cSorted, SpO.sp, dNext, dNever, dAsg, dPar, dPar3, dParO, dIf, dAndV, dOrV, dNotV, dCh, dCt, cLast, cLink, tLast, tLink, dDrop, dFor, dBrk, dCnt, dOwn, dApp, dExt, dFree, gPutO, dIxO, dLend, dLendT, dLcF, gN, gTu, gCn, gNl, gP0, gP1, gII, gIIc, gAdd, gNeg, gIx, gEq, gNe, gIs, gIsNot, gIn, gNotIn, gSl, oNone, oSome, gMt, gIndex, cTuple, cList, cI1, cI2, cInt, cLen, cMax, cMin, cMaxT, cMinT, dAug, cAll, cAny, cRepr, cSqrt, cIsi, tyN, isNon, kb_tt, kb_ii, kb_ib, kb_bi, kb_bb, kb_it, kb_bt, kb_nt, kb_ni, kb_lt, kb_li, kb_ti, kb_si, kb_st, kb_ss, rd, dTru, dRgN, dEnum, gMulT, gDivN, gDivNB, gEqF, dCallV, spOf, atD, ordD, dSq, dZip, dZipM, dZip3, zipD3_map, gShl, dParOO, zipD_map, ivD, dRg1, dRg2, dLc, dYes, dLcGo, dGen, dGenGo, wipeD, boolsOf, intsOf, maxL, minL, noL, noLs, Option.map_some, Option.bind_some, List.all_cons, List.all_nil, List.any_cons, List.any_nil, id_eq, List.set_cons_zero, List.set_cons_succ, List.getElem?_cons_zero, List.getElem?_cons_succ, List.getElem?_nil, List.getD_cons_zero, List.getD_cons_succ, decide_eq_true_eq, decide_eq_false_iff_not, Bool.not_eq_true', Bool.not_true, Bool.not_false, Bool.and_true, Bool.true_and, Bool.and_false, Bool.false_and, Bool.false_eq_true, if_true, if_false, reduceIte, ite_true, ite_false, true_and, and_true, reduceCtorEq, Int.toNat_zero, Int.toNat_one, Int.cast_ofNat_Int, Int.reduceLT, Int.reduceLE, Int.reduceNeg, Int.reduceToNat, Int.reducePow, Int.reduceMul, Int.reduceAdd, Int.reduceSub, decide_true, decide_false, sp__law_draw, sp__law_small_ratio, sp__law_interval, sp_scaled, sp__law_rounded, sp_powered, sp__law_powered, sp_around, sp__law_one, sp__law_ratio, sp_halves, sp_middle, sp_width, sp_ends_of, sp__law_within, sp_holds_ratio]
    exact ⟨.of 2 rfl (by omega), .right (by omega) (by omega), .right (by omega) (by omega), hQ⟩
  refine hearIf (q := sI (a, b) (n, d)) (fun R' Rx h' => ?_) (fun R' h' => ?_) ?_
  · simp (implicitDefEqProofs := false) (maxSteps := 3000000) only [xSeq, xIf, xRet, xRaise, xOf, xB, xBK, xAsg, xTry, xHeard, mD0, mD1, mD2, startD, List.map_cons, List.map_nil, List.length_cons, List.length_nil, List.replicate, List.cons_append, List.nil_append, Nat.reduceAdd, Nat.reduceSub, Nat.zero_add, dSeq, dIfS, dOr, dAnd, dNot, dTst, dOp, dUn, dVar, dC, dB, dBK, dCons, dNil, dTup, dLst, dRet, dRetN, dRetF, dRetO, dBO, dFr, dRepL, dCatL, dRev, dRevL, dSlO, dCatO, cSorted, SpO.sp, dNext, dNever, dAsg, dPar, dPar3, dParO, dIf, dAndV, dOrV, dNotV, dCh, dCt, cLast, cLink, tLast, tLink, dDrop, dFor, dBrk, dCnt, dOwn, dApp, dExt, dFree, gPutO, dIxO, dLend, dLendT, dLcF, gN, gTu, gCn, gNl, gP0, gP1, gII, gIIc, gAdd, gNeg, gIx, gEq, gNe, gIs, gIsNot, gIn, gNotIn, gSl, oNone, oSome, gMt, gIndex, cTuple, cList, cI1, cI2, cInt, cLen, cMax, cMin, cMaxT, cMinT, dAug, cAll, cAny, cRepr, cSqrt, cIsi, tyN, isNon, kb_tt, kb_ii, kb_ib, kb_bi, kb_bb, kb_it, kb_bt, kb_nt, kb_ni, kb_lt, kb_li, kb_ti, kb_si, kb_st, kb_ss, rd, dTru, dRgN, dEnum, gMulT, gDivN, gDivNB, gEqF, dCallV, spOf, atD, ordD, dSq, dZip, dZipM, dZip3, zipD3_map, gShl, dParOO, zipD_map, ivD, dRg1, dRg2, dLc, dYes, dLcGo, dGen, dGenGo, wipeD, boolsOf, intsOf, maxL, minL, noL, noLs, Option.map_some, Option.bind_some, List.all_cons, List.all_nil, List.any_cons, List.any_nil, id_eq, List.set_cons_zero, List.set_cons_succ, List.getElem?_cons_zero, List.getElem?_cons_succ, List.getElem?_nil, List.getD_cons_zero, List.getD_cons_succ, decide_eq_true_eq, decide_eq_false_iff_not, Bool.not_eq_true', Bool.not_true, Bool.not_false, Bool.and_true, Bool.true_and, Bool.and_false, Bool.false_and, Bool.false_eq_true, if_true, if_false, reduceIte, ite_true, ite_false, true_and, and_true, reduceCtorEq, Int.toNat_zero, Int.toNat_one, Int.cast_ofNat_Int, Int.reduceLT, Int.reduceLE, Int.reduceNeg, Int.reduceToNat, Int.reducePow, Int.reduceMul, Int.reduceAdd, Int.reduceSub, decide_true, decide_false, sp__law_draw, sp__law_small_ratio, sp__law_interval, sp_scaled, sp__law_rounded, sp_powered, sp__law_powered, sp_around, sp__law_one, sp__law_ratio, sp_halves, sp_middle, sp_width, sp_ends_of, sp__law_within, sp_holds_ratio]
    exact ⟨⟨hx, ht.rt, by omega, by omega⟩, h'⟩
  · simp (implicitDefEqProofs := false) (maxSteps := 3000000) only [xSeq, xIf, xRet, xRaise, xOf, xB, xBK, xAsg, xTry, xHeard, mD0, mD1, mD2, startD, List.map_cons, List.map_nil, List.length_cons, List.length_nil, List.replicate, List.cons_append, List.nil_append, Nat.reduceAdd, Nat.reduceSub, Nat.zero_add, dSeq, dIfS, dOr, dAnd, dNot, dTst, dOp, dUn, dVar, dC, dB, dBK, dCons, dNil, dTup, dLst, dRet, dRetN, dRetF, dRetO, dBO, dFr, dRepL, dCatL, dRev, dRevL, dSlO, dCatO, cSorted, SpO.sp, dNext, dNever, dAsg, dPar, dPar3, dParO, dIf, dAndV, dOrV, dNotV, dCh, dCt, cLast, cLink, tLast, tLink, dDrop, dFor, dBrk, dCnt, dOwn, dApp, dExt, dFree, gPutO, dIxO, dLend, dLendT, dLcF, gN, gTu, gCn, gNl, gP0, gP1, gII, gIIc, gAdd, gNeg, gIx, gEq, gNe, gIs, gIsNot, gIn, gNotIn, gSl, oNone, oSome, gMt, gIndex, cTuple, cList, cI1, cI2, cInt, cLen, cMax, cMin, cMaxT, cMinT, dAug, cAll, cAny, cRepr, cSqrt, cIsi, tyN, isNon, kb_tt, kb_ii, kb_ib, kb_bi, kb_bb, kb_it, kb_bt, kb_nt, kb_ni, kb_lt, kb_li, kb_ti, kb_si, kb_st, kb_ss, rd, dTru, dRgN, dEnum, gMulT, gDivN, gDivNB, gEqF, dCallV, spOf, atD, ordD, dSq, dZip, dZipM, dZip3, zipD3_map, gShl, dParOO, zipD_map, ivD, dRg1, dRg2, dLc, dYes, dLcGo, dGen, dGenGo, wipeD, boolsOf, intsOf, maxL, minL, noL, noLs, Option.map_some, Option.bind_some, List.all_cons, List.all_nil, List.any_cons, List.any_nil, id_eq, List.set_cons_zero, List.set_cons_succ, List.getElem?_cons_zero, List.getElem?_cons_succ, List.getElem?_nil, List.getD_cons_zero, List.getD_cons_succ, decide_eq_true_eq, decide_eq_false_iff_not, Bool.not_eq_true', Bool.not_true, Bool.not_false, Bool.and_true, Bool.true_and, Bool.and_false, Bool.false_and, Bool.false_eq_true, if_true, if_false, reduceIte, ite_true, ite_false, true_and, and_true, reduceCtorEq, Int.toNat_zero, Int.toNat_one, Int.cast_ofNat_Int, Int.reduceLT, Int.reduceLE, Int.reduceNeg, Int.reduceToNat, Int.reducePow, Int.reduceMul, Int.reduceAdd, Int.reduceSub, decide_true, decide_false, sp__law_draw, sp__law_small_ratio, sp__law_interval, sp_scaled, sp__law_rounded, sp_powered, sp__law_powered, sp_around, sp__law_one, sp__law_ratio, sp_halves, sp_middle, sp_width, sp_ends_of, sp__law_within, sp_holds_ratio]
    exact ⟨a * n, [b * n], d, rfl, .of (by omega) (by omega), h'⟩
  refine hearIf (q := wG (a, b) m.toNat) (fun R' Rx h' => ?_) (fun R' h' => ?_) ?_
  · simp (implicitDefEqProofs := false) (maxSteps := 3000000) only [xSeq, xIf, xRet, xRaise, xOf, xB, xBK, xAsg, xTry, xHeard, mD0, mD1, mD2, startD, List.map_cons, List.map_nil, List.length_cons, List.length_nil, List.replicate, List.cons_append, List.nil_append, Nat.reduceAdd, Nat.reduceSub, Nat.zero_add, dSeq, dIfS, dOr, dAnd, dNot, dTst, dOp, dUn, dVar, dC, dB, dBK, dCons, dNil, dTup, dLst, dRet, dRetN, dRetF, dRetO, dBO, dFr, dRepL, dCatL, dRev, dRevL, dSlO, dCatO, cSorted, SpO.sp, dNext, dNever, dAsg, dPar, dPar3, dParO, dIf, dAndV, dOrV, dNotV, dCh, dCt, cLast, cLink, tLast, tLink, dDrop, dFor, dBrk, dCnt, dOwn, dApp, dExt, dFree, gPutO, dIxO, dLend, dLendT, dLcF, gN, gTu, gCn, gNl, gP0, gP1, gII, gIIc, gAdd, gNeg, gIx, gEq, gNe, gIs, gIsNot, gIn, gNotIn, gSl, oNone, oSome, gMt, gIndex, cTuple, cList, cI1, cI2, cInt, cLen, cMax, cMin, cMaxT, cMinT, dAug, cAll, cAny, cRepr, cSqrt, cIsi, tyN, isNon, kb_tt, kb_ii, kb_ib, kb_bi, kb_bb, kb_it, kb_bt, kb_nt, kb_ni, kb_lt, kb_li, kb_ti, kb_si, kb_st, kb_ss, rd, dTru, dRgN, dEnum, gMulT, gDivN, gDivNB, gEqF, dCallV, spOf, atD, ordD, dSq, dZip, dZipM, dZip3, zipD3_map, gShl, dParOO, zipD_map, ivD, dRg1, dRg2, dLc, dYes, dLcGo, dGen, dGenGo, wipeD, boolsOf, intsOf, maxL, minL, noL, noLs, Option.map_some, Option.bind_some, List.all_cons, List.all_nil, List.any_cons, List.any_nil, id_eq, List.set_cons_zero, List.set_cons_succ, List.getElem?_cons_zero, List.getElem?_cons_succ, List.getElem?_nil, List.getD_cons_zero, List.getD_cons_succ, decide_eq_true_eq, decide_eq_false_iff_not, Bool.not_eq_true', Bool.not_true, Bool.not_false, Bool.and_true, Bool.true_and, Bool.and_false, Bool.false_and, Bool.false_eq_true, if_true, if_false, reduceIte, ite_true, ite_false, true_and, and_true, reduceCtorEq, Int.toNat_zero, Int.toNat_one, Int.cast_ofNat_Int, Int.reduceLT, Int.reduceLE, Int.reduceNeg, Int.reduceToNat, Int.reducePow, Int.reduceMul, Int.reduceAdd, Int.reduceSub, decide_true, decide_false, sp__law_draw, sp__law_small_ratio, sp__law_interval, sp_scaled, sp__law_rounded, sp_powered, sp__law_powered, sp_around, sp__law_one, sp__law_ratio, sp_halves, sp_middle, sp_width, sp_ends_of, sp__law_within, sp_holds_ratio]
    exact ⟨⟨hx, m3, m4⟩, h'⟩
  · simp (implicitDefEqProofs := false) (maxSteps := 3000000) only [xSeq, xIf, xRet, xRaise, xOf, xB, xBK, xAsg, xTry, xHeard, mD0, mD1, mD2, startD, List.map_cons, List.map_nil, List.length_cons, List.length_nil, List.replicate, List.cons_append, List.nil_append, Nat.reduceAdd, Nat.reduceSub, Nat.zero_add, dSeq, dIfS, dOr, dAnd, dNot, dTst, dOp, dUn, dVar, dC, dB, dBK, dCons, dNil, dTup, dLst, dRet, dRetN, dRetF, dRetO, dBO, dFr, dRepL, dCatL, dRev, dRevL, dSlO, dCatO, cSorted, SpO.sp, dNext, dNever, dAsg, dPar, dPar3, dParO, dIf, dAndV, dOrV, dNotV, dCh, dCt, cLast, cLink, tLast, tLink, dDrop, dFor, dBrk, dCnt, dOwn, dApp, dExt, dFree, gPutO, dIxO, dLend, dLendT, dLcF, gN, gTu, gCn, gNl, gP0, gP1, gII, gIIc, gAdd, gNeg, gIx, gEq, gNe, gIs, gIsNot, gIn, gNotIn, gSl, oNone, oSome, gMt, gIndex, cTuple, cList, cI1, cI2, cInt, cLen, cMax, cMin, cMaxT, cMinT, dAug, cAll, cAny, cRepr, cSqrt, cIsi, tyN, isNon, kb_tt, kb_ii, kb_ib, kb_bi, kb_bb, kb_it, kb_bt, kb_nt, kb_ni, kb_lt, kb_li, kb_ti, kb_si, kb_st, kb_ss, rd, dTru, dRgN, dEnum, gMulT, gDivN, gDivNB, gEqF, dCallV, spOf, atD, ordD, dSq, dZip, dZipM, dZip3, zipD3_map, gShl, dParOO, zipD_map, ivD, dRg1, dRg2, dLc, dYes, dLcGo, dGen, dGenGo, wipeD, boolsOf, intsOf, maxL, minL, noL, noLs, Option.map_some, Option.bind_some, List.all_cons, List.all_nil, List.any_cons, List.any_nil, id_eq, List.set_cons_zero, List.set_cons_succ, List.getElem?_cons_zero, List.getElem?_cons_succ, List.getElem?_nil, List.getD_cons_zero, List.getD_cons_succ, decide_eq_true_eq, decide_eq_false_iff_not, Bool.not_eq_true', Bool.not_true, Bool.not_false, Bool.and_true, Bool.true_and, Bool.and_false, Bool.false_and, Bool.false_eq_true, if_true, if_false, reduceIte, ite_true, ite_false, true_and, and_true, reduceCtorEq, Int.toNat_zero, Int.toNat_one, Int.cast_ofNat_Int, Int.reduceLT, Int.reduceLE, Int.reduceNeg, Int.reduceToNat, Int.reducePow, Int.reduceMul, Int.reduceAdd, Int.reduceSub, decide_true, decide_false, sp__law_draw, sp__law_small_ratio, sp__law_interval, sp_scaled, sp__law_rounded, sp_powered, sp__law_powered, sp_around, sp__law_one, sp__law_ratio, sp_halves, sp_middle, sp_width, sp_ends_of, sp__law_within, sp_holds_ratio]
    refine ⟨⟨hx, m3, m4⟩, ?_⟩
    by_cases e : m = 0
    · subst e
      rw [if_pos rfl]
      exact h'
    · rw [if_neg e]
      exact h'
  refine arIf (q := aI (n, d)) (aI_in ht) (fun R' Rx h' => ?_) (fun R' h' => ?_) ?_
  · simp (implicitDefEqProofs := false) (maxSteps := 3000000) only [xSeq, xIf, xRet, xRaise, xOf, xB, xBK, xAsg, xTry, xHeard, mD0, mD1, mD2, startD, List.map_cons, List.map_nil, List.length_cons, List.length_nil, List.replicate, List.cons_append, List.nil_append, Nat.reduceAdd, Nat.reduceSub, Nat.zero_add, dSeq, dIfS, dOr, dAnd, dNot, dTst, dOp, dUn, dVar, dC, dB, dBK, dCons, dNil, dTup, dLst, dRet, dRetN, dRetF, dRetO, dBO, dFr, dRepL, dCatL, dRev, dRevL, dSlO, dCatO, cSorted, SpO.sp, dNext, dNever, dAsg, dPar, dPar3, dParO, dIf, dAndV, dOrV, dNotV, dCh, dCt, cLast, cLink, tLast, tLink, dDrop, dFor, dBrk, dCnt, dOwn, dApp, dExt, dFree, gPutO, dIxO, dLend, dLendT, dLcF, gN, gTu, gCn, gNl, gP0, gP1, gII, gIIc, gAdd, gNeg, gIx, gEq, gNe, gIs, gIsNot, gIn, gNotIn, gSl, oNone, oSome, gMt, gIndex, cTuple, cList, cI1, cI2, cInt, cLen, cMax, cMin, cMaxT, cMinT, dAug, cAll, cAny, cRepr, cSqrt, cIsi, tyN, isNon, kb_tt, kb_ii, kb_ib, kb_bi, kb_bb, kb_it, kb_bt, kb_nt, kb_ni, kb_lt, kb_li, kb_ti, kb_si, kb_st, kb_ss, rd, dTru, dRgN, dEnum, gMulT, gDivN, gDivNB, gEqF, dCallV, spOf, atD, ordD, dSq, dZip, dZipM, dZip3, zipD3_map, gShl, dParOO, zipD_map, ivD, dRg1, dRg2, dLc, dYes, dLcGo, dGen, dGenGo, wipeD, boolsOf, intsOf, maxL, minL, noL, noLs, Option.map_some, Option.bind_some, List.all_cons, List.all_nil, List.any_cons, List.any_nil, id_eq, List.set_cons_zero, List.set_cons_succ, List.getElem?_cons_zero, List.getElem?_cons_succ, List.getElem?_nil, List.getD_cons_zero, List.getD_cons_succ, decide_eq_true_eq, decide_eq_false_iff_not, Bool.not_eq_true', Bool.not_true, Bool.not_false, Bool.and_true, Bool.true_and, Bool.and_false, Bool.false_and, Bool.false_eq_true, if_true, if_false, reduceIte, ite_true, ite_false, true_and, and_true, reduceCtorEq, Int.toNat_zero, Int.toNat_one, Int.cast_ofNat_Int, Int.reduceLT, Int.reduceLE, Int.reduceNeg, Int.reduceToNat, Int.reducePow, Int.reduceMul, Int.reduceAdd, Int.reduceSub, decide_true, decide_false, sp__law_draw, sp__law_small_ratio, sp__law_interval, sp_scaled, sp__law_rounded, sp_powered, sp__law_powered, sp_around, sp__law_one, sp__law_ratio, sp_halves, sp_middle, sp_width, sp_ends_of, sp__law_within, sp_holds_ratio]
    exact ⟨ht.rt, h'⟩
  · simp (implicitDefEqProofs := false) (maxSteps := 3000000) only [xSeq, xIf, xRet, xRaise, xOf, xB, xBK, xAsg, xTry, xHeard, mD0, mD1, mD2, startD, List.map_cons, List.map_nil, List.length_cons, List.length_nil, List.replicate, List.cons_append, List.nil_append, Nat.reduceAdd, Nat.reduceSub, Nat.zero_add, dSeq, dIfS, dOr, dAnd, dNot, dTst, dOp, dUn, dVar, dC, dB, dBK, dCons, dNil, dTup, dLst, dRet, dRetN, dRetF, dRetO, dBO, dFr, dRepL, dCatL, dRev, dRevL, dSlO, dCatO, cSorted, SpO.sp, dNext, dNever, dAsg, dPar, dPar3, dParO, dIf, dAndV, dOrV, dNotV, dCh, dCt, cLast, cLink, tLast, tLink, dDrop, dFor, dBrk, dCnt, dOwn, dApp, dExt, dFree, gPutO, dIxO, dLend, dLendT, dLcF, gN, gTu, gCn, gNl, gP0, gP1, gII, gIIc, gAdd, gNeg, gIx, gEq, gNe, gIs, gIsNot, gIn, gNotIn, gSl, oNone, oSome, gMt, gIndex, cTuple, cList, cI1, cI2, cInt, cLen, cMax, cMin, cMaxT, cMinT, dAug, cAll, cAny, cRepr, cSqrt, cIsi, tyN, isNon, kb_tt, kb_ii, kb_ib, kb_bi, kb_bb, kb_it, kb_bt, kb_nt, kb_ni, kb_lt, kb_li, kb_ti, kb_si, kb_st, kb_ss, rd, dTru, dRgN, dEnum, gMulT, gDivN, gDivNB, gEqF, dCallV, spOf, atD, ordD, dSq, dZip, dZipM, dZip3, zipD3_map, gShl, dParOO, zipD_map, ivD, dRg1, dRg2, dLc, dYes, dLcGo, dGen, dGenGo, wipeD, boolsOf, intsOf, maxL, minL, noL, noLs, Option.map_some, Option.bind_some, List.all_cons, List.all_nil, List.any_cons, List.any_nil, id_eq, List.set_cons_zero, List.set_cons_succ, List.getElem?_cons_zero, List.getElem?_cons_succ, List.getElem?_nil, List.getD_cons_zero, List.getD_cons_succ, decide_eq_true_eq, decide_eq_false_iff_not, Bool.not_eq_true', Bool.not_true, Bool.not_false, Bool.and_true, Bool.true_and, Bool.and_false, Bool.false_and, Bool.false_eq_true, if_true, if_false, reduceIte, ite_true, ite_false, true_and, and_true, reduceCtorEq, Int.toNat_zero, Int.toNat_one, Int.cast_ofNat_Int, Int.reduceLT, Int.reduceLE, Int.reduceNeg, Int.reduceToNat, Int.reducePow, Int.reduceMul, Int.reduceAdd, Int.reduceSub, decide_true, decide_false, sp__law_draw, sp__law_small_ratio, sp__law_interval, sp_scaled, sp__law_rounded, sp_powered, sp__law_powered, sp_around, sp__law_one, sp__law_ratio, sp_halves, sp_middle, sp_width, sp_ends_of, sp__law_within, sp_holds_ratio]
    rw [← aI_rd] at h'
    exact ⟨.right (by decide) (by decide), n * 1099511627776, [], d, rfl, .of (by omega) (by omega), h'⟩
  refine seqAsgP (fun z => ∃ f : Int × Int, Rt f ∧ 0 ≤ f.1 ∧ f.1 ≤ 1152921504606846976 ∧ z = ivD f) (fun Q hQ => ?_) ?_
  · simp (implicitDefEqProofs := false) (maxSteps := 3000000) only [xSeq, xIf, xRet, xRaise, xOf, xB, xBK, xAsg, xTry, xHeard, mD0, mD1, mD2, startD, List.map_cons, List.map_nil, List.length_cons, List.length_nil, List.replicate, List.cons_append, List.nil_append, Nat.reduceAdd, Nat.reduceSub, Nat.zero_add, dSeq, dIfS, dOr, dAnd, dNot, dTst, dOp, dUn, dVar, dC, dB, dBK, dCons, dNil, dTup, dLst, dRet, dRetN, dRetF, dRetO, dBO, dFr, dRepL, dCatL, dRev, dRevL, dSlO, dCatO, cSorted, SpO.sp, dNext, dNever, dAsg, dPar, dPar3, dParO, dIf, dAndV, dOrV, dNotV, dCh, dCt, cLast, cLink, tLast, tLink, dDrop, dFor, dBrk, dCnt, dOwn, dApp, dExt, dFree, gPutO, dIxO, dLend, dLendT, dLcF, gN, gTu, gCn, gNl, gP0, gP1, gII, gIIc, gAdd, gNeg, gIx, gEq, gNe, gIs, gIsNot, gIn, gNotIn, gSl, oNone, oSome, gMt, gIndex, cTuple, cList, cI1, cI2, cInt, cLen, cMax, cMin, cMaxT, cMinT, dAug, cAll, cAny, cRepr, cSqrt, cIsi, tyN, isNon, kb_tt, kb_ii, kb_ib, kb_bi, kb_bb, kb_it, kb_bt, kb_nt, kb_ni, kb_lt, kb_li, kb_ti, kb_si, kb_st, kb_ss, rd, dTru, dRgN, dEnum, gMulT, gDivN, gDivNB, gEqF, dCallV, spOf, atD, ordD, dSq, dZip, dZipM, dZip3, zipD3_map, gShl, dParOO, zipD_map, ivD, dRg1, dRg2, dLc, dYes, dLcGo, dGen, dGenGo, wipeD, boolsOf, intsOf, maxL, minL, noL, noLs, Option.map_some, Option.bind_some, List.all_cons, List.all_nil, List.any_cons, List.any_nil, id_eq, List.set_cons_zero, List.set_cons_succ, List.getElem?_cons_zero, List.getElem?_cons_succ, List.getElem?_nil, List.getD_cons_zero, List.getD_cons_succ, decide_eq_true_eq, decide_eq_false_iff_not, Bool.not_eq_true', Bool.not_true, Bool.not_false, Bool.and_true, Bool.true_and, Bool.and_false, Bool.false_and, Bool.false_eq_true, if_true, if_false, reduceIte, ite_true, ite_false, true_and, and_true, reduceCtorEq, Int.toNat_zero, Int.toNat_one, Int.cast_ofNat_Int, Int.reduceLT, Int.reduceLE, Int.reduceNeg, Int.reduceToNat, Int.reducePow, Int.reduceMul, Int.reduceAdd, Int.reduceSub, decide_true, decide_false, sp__law_draw, sp__law_small_ratio, sp__law_interval, sp_scaled, sp__law_rounded, sp_powered, sp__law_powered, sp_around, sp__law_one, sp__law_ratio, sp_halves, sp_middle, sp_width, sp_ends_of, sp__law_within, sp_holds_ratio]
    intro r r0 r1
    refine ⟨.left (by decide) (by decide), by decide, fun q hq e g1 g2 => hQ _ ⟨q, hq, ?_, by omega, rfl⟩⟩
    have q0 : 1 ≤ q.2 := hq.pos
    have := Int.mul_nonneg r0 (show 0 ≤ q.2 by omega)
    omega
  rintro _ ⟨⟨f, g⟩, hf, f0, f1, rfl⟩
  simp only [] at f0 f1
  have g0 : 1 ≤ g := hf.pos
  have g1 : g < _ := hf.few
  refine hearIf (q := aI (f, g)) (fun R' Rx h' => ?_) (fun R' h' => ?_) ?_
  · simp (implicitDefEqProofs := false) (maxSteps := 3000000) only [xSeq, xIf, xRet, xRaise, xOf, xB, xBK, xAsg, xTry, xHeard, mD0, mD1, mD2, startD, List.map_cons, List.map_nil, List.length_cons, List.length_nil, List.replicate, List.cons_append, List.nil_append, Nat.reduceAdd, Nat.reduceSub, Nat.zero_add, dSeq, dIfS, dOr, dAnd, dNot, dTst, dOp, dUn, dVar, dC, dB, dBK, dCons, dNil, dTup, dLst, dRet, dRetN, dRetF, dRetO, dBO, dFr, dRepL, dCatL, dRev, dRevL, dSlO, dCatO, cSorted, SpO.sp, dNext, dNever, dAsg, dPar, dPar3, dParO, dIf, dAndV, dOrV, dNotV, dCh, dCt, cLast, cLink, tLast, tLink, dDrop, dFor, dBrk, dCnt, dOwn, dApp, dExt, dFree, gPutO, dIxO, dLend, dLendT, dLcF, gN, gTu, gCn, gNl, gP0, gP1, gII, gIIc, gAdd, gNeg, gIx, gEq, gNe, gIs, gIsNot, gIn, gNotIn, gSl, oNone, oSome, gMt, gIndex, cTuple, cList, cI1, cI2, cInt, cLen, cMax, cMin, cMaxT, cMinT, dAug, cAll, cAny, cRepr, cSqrt, cIsi, tyN, isNon, kb_tt, kb_ii, kb_ib, kb_bi, kb_bb, kb_it, kb_bt, kb_nt, kb_ni, kb_lt, kb_li, kb_ti, kb_si, kb_st, kb_ss, rd, dTru, dRgN, dEnum, gMulT, gDivN, gDivNB, gEqF, dCallV, spOf, atD, ordD, dSq, dZip, dZipM, dZip3, zipD3_map, gShl, dParOO, zipD_map, ivD, dRg1, dRg2, dLc, dYes, dLcGo, dGen, dGenGo, wipeD, boolsOf, intsOf, maxL, minL, noL, noLs, Option.map_some, Option.bind_some, List.all_cons, List.all_nil, List.any_cons, List.any_nil, id_eq, List.set_cons_zero, List.set_cons_succ, List.getElem?_cons_zero, List.getElem?_cons_succ, List.getElem?_nil, List.getD_cons_zero, List.getD_cons_succ, decide_eq_true_eq, decide_eq_false_iff_not, Bool.not_eq_true', Bool.not_true, Bool.not_false, Bool.and_true, Bool.true_and, Bool.and_false, Bool.false_and, Bool.false_eq_true, if_true, if_false, reduceIte, ite_true, ite_false, true_and, and_true, reduceCtorEq, Int.toNat_zero, Int.toNat_one, Int.cast_ofNat_Int, Int.reduceLT, Int.reduceLE, Int.reduceNeg, Int.reduceToNat, Int.reducePow, Int.reduceMul, Int.reduceAdd, Int.reduceSub, decide_true, decide_false, sp__law_draw, sp__law_small_ratio, sp__law_interval, sp_scaled, sp__law_rounded, sp_powered, sp__law_powered, sp_around, sp__law_one, sp__law_ratio, sp_halves, sp_middle, sp_width, sp_ends_of, sp__law_within, sp_holds_ratio]
    exact ⟨hf, h'⟩
  · simp (implicitDefEqProofs := false) (maxSteps := 3000000) only [xSeq, xIf, xRet, xRaise, xOf, xB, xBK, xAsg, xTry, xHeard, mD0, mD1, mD2, startD, List.map_cons, List.map_nil, List.length_cons, List.length_nil, List.replicate, List.cons_append, List.nil_append, Nat.reduceAdd, Nat.reduceSub, Nat.zero_add, dSeq, dIfS, dOr, dAnd, dNot, dTst, dOp, dUn, dVar, dC, dB, dBK, dCons, dNil, dTup, dLst, dRet, dRetN, dRetF, dRetO, dBO, dFr, dRepL, dCatL, dRev, dRevL, dSlO, dCatO, cSorted, SpO.sp, dNext, dNever, dAsg, dPar, dPar3, dParO, dIf, dAndV, dOrV, dNotV, dCh, dCt, cLast, cLink, tLast, tLink, dDrop, dFor, dBrk, dCnt, dOwn, dApp, dExt, dFree, gPutO, dIxO, dLend, dLendT, dLcF, gN, gTu, gCn, gNl, gP0, gP1, gII, gIIc, gAdd, gNeg, gIx, gEq, gNe, gIs, gIsNot, gIn, gNotIn, gSl, oNone, oSome, gMt, gIndex, cTuple, cList, cI1, cI2, cInt, cLen, cMax, cMin, cMaxT, cMinT, dAug, cAll, cAny, cRepr, cSqrt, cIsi, tyN, isNon, kb_tt, kb_ii, kb_ib, kb_bi, kb_bb, kb_it, kb_bt, kb_nt, kb_ni, kb_lt, kb_li, kb_ti, kb_si, kb_st, kb_ss, rd, dTru, dRgN, dEnum, gMulT, gDivN, gDivNB, gEqF, dCallV, spOf, atD, ordD, dSq, dZip, dZipM, dZip3, zipD3_map, gShl, dParOO, zipD_map, ivD, dRg1, dRg2, dLc, dYes, dLcGo, dGen, dGenGo, wipeD, boolsOf, intsOf, maxL, minL, noL, noLs, Option.map_some, Option.bind_some, List.all_cons, List.all_nil, List.any_cons, List.any_nil, id_eq, List.set_cons_zero, List.set_cons_succ, List.getElem?_cons_zero, List.getElem?_cons_succ, List.getElem?_nil, List.getD_cons_zero, List.getD_cons_succ, decide_eq_true_eq, decide_eq_false_iff_not, Bool.not_eq_true', Bool.not_true, Bool.not_false, Bool.and_true, Bool.true_and, Bool.and_false, Bool.false_and, Bool.false_eq_true, if_true, if_false, reduceIte, ite_true, ite_false, true_and, and_true, reduceCtorEq, Int.toNat_zero, Int.toNat_one, Int.cast_ofNat_Int, Int.reduceLT, Int.reduceLE, Int.reduceNeg, Int.reduceToNat, Int.reducePow, Int.reduceMul, Int.reduceAdd, Int.reduceSub, decide_true, decide_false, sp__law_draw, sp__law_small_ratio, sp__law_interval, sp_scaled, sp__law_rounded, sp_powered, sp__law_powered, sp_around, sp__law_one, sp__law_ratio, sp_halves, sp_middle, sp_width, sp_ends_of, sp__law_within, sp_holds_ratio]
    rw [← aI_rd] at h'
    exact ⟨.right (by decide) (by decide), f * 1099511627776, [], g, rfl, .of (by omega) (by omega), h'⟩
  refine seqAsg (.lst [.int (a * f), .int (b * f)]) (fun Q hQ => ?_) ?_
  · simp (implicitDefEqProofs := false) (maxSteps := 3000000) only [xSeq, xIf, xRet, xRaise, xOf, xB, xBK, xAsg, xTry, xHeard, mD0, mD1, mD2, startD, List.map_cons, List.map_nil, List.length_cons, List.length_nil, List.replicate, List.cons_append, List.nil_append, Nat.reduceAdd, Nat.reduceSub, Nat.zero_add, dSeq, dIfS, dOr, dAnd, dNot, dTst, dOp, dUn, dVar, dC, dB, dBK, dCons, dNil, dTup, dLst, dRet, dRetN, dRetF, dRetO, dBO, dFr, dRepL, dCatL, dRev, dRevL, dSlO, dCatO, cSorted, SpO.sp, dNext, dNever, dAsg, dPar, dPar3, dParO, dIf, dAndV, dOrV, dNotV, dCh, dCt, cLast, cLink, tLast, tLink, dDrop, dFor, dBrk, dCnt, dOwn, dApp, dExt, dFree, gPutO, dIxO, dLend, dLendT, dLcF, gN, gTu, gCn, gNl, gP0, gP1, gII, gIIc, gAdd, gNeg, gIx, gEq, gNe, gIs, gIsNot, gIn, gNotIn, gSl, oNone, oSome, gMt, gIndex, cTuple, cList, cI1, cI2, cInt, cLen, cMax, cMin, cMaxT, cMinT, dAug, cAll, cAny, cRepr, cSqrt, cIsi, tyN, isNon, kb_tt, kb_ii, kb_ib, kb_bi, kb_bb, kb_it, kb_bt, kb_nt, kb_ni, kb_lt, kb_li, kb_ti, kb_si, kb_st, kb_ss, rd, dTru, dRgN, dEnum, gMulT, gDivN, gDivNB, gEqF, dCallV, spOf, atD, ordD, dSq, dZip, dZipM, dZip3, zipD3_map, gShl, dParOO, zipD_map, ivD, dRg1, dRg2, dLc, dYes, dLcGo, dGen, dGenGo, wipeD, boolsOf, intsOf, maxL, minL, noL, noLs, Option.map_some, Option.bind_some, List.all_cons, List.all_nil, List.any_cons, List.any_nil, id_eq, List.set_cons_zero, List.set_cons_succ, List.getElem?_cons_zero, List.getElem?_cons_succ, List.getElem?_nil, List.getD_cons_zero, List.getD_cons_succ, decide_eq_true_eq, decide_eq_false_iff_not, Bool.not_eq_true', Bool.not_true, Bool.not_false, Bool.and_true, Bool.true_and, Bool.and_false, Bool.false_and, Bool.false_eq_true, if_true, if_false, reduceIte, ite_true, ite_false, true_and, and_true, reduceCtorEq, Int.toNat_zero, Int.toNat_one, Int.cast_ofNat_Int, Int.reduceLT, Int.reduceLE, Int.reduceNeg, Int.reduceToNat, Int.reducePow, Int.reduceMul, Int.reduceAdd, Int.reduceSub, decide_true, decide_false, sp__law_draw, sp__law_small_ratio, sp__law_interval, sp_scaled, sp__law_rounded, sp_powered, sp__law_powered, sp_around, sp__law_one, sp__law_ratio, sp_halves, sp_middle, sp_width, sp_ends_of, sp__law_within, sp_holds_ratio]
    exact ⟨.of 2 rfl (by omega), .right (by omega) (by omega), .right (by omega) (by omega), hQ⟩
  refine hearIf (q := sI (a, b) (f, g)) (fun R' Rx h' => ?_) (fun R' h' => ?_) ?_
  · simp (implicitDefEqProofs := false) (maxSteps := 3000000) only [xSeq, xIf, xRet, xRaise, xOf, xB, xBK, xAsg, xTry, xHeard, mD0, mD1, mD2, startD, List.map_cons, List.map_nil, List.length_cons, List.length_nil, List.replicate, List.cons_append, List.nil_append, Nat.reduceAdd, Nat.reduceSub, Nat.zero_add, dSeq, dIfS, dOr, dAnd, dNot, dTst, dOp, dUn, dVar, dC, dB, dBK, dCons, dNil, dTup, dLst, dRet, dRetN, dRetF, dRetO, dBO, dFr, dRepL, dCatL, dRev, dRevL, dSlO, dCatO, cSorted, SpO.sp, dNext, dNever, dAsg, dPar, dPar3, dParO, dIf, dAndV, dOrV, dNotV, dCh, dCt, cLast, cLink, tLast, tLink, dDrop, dFor, dBrk, dCnt, dOwn, dApp, dExt, dFree, gPutO, dIxO, dLend, dLendT, dLcF, gN, gTu, gCn, gNl, gP0, gP1, gII, gIIc, gAdd, gNeg, gIx, gEq, gNe, gIs, gIsNot, gIn, gNotIn, gSl, oNone, oSome, gMt, gIndex, cTuple, cList, cI1, cI2, cInt, cLen, cMax, cMin, cMaxT, cMinT, dAug, cAll, cAny, cRepr, cSqrt, cIsi, tyN, isNon, kb_tt, kb_ii, kb_ib, kb_bi, kb_bb, kb_it, kb_bt, kb_nt, kb_ni, kb_lt, kb_li, kb_ti, kb_si, kb_st, kb_ss, rd, dTru, dRgN, dEnum, gMulT, gDivN, gDivNB, gEqF, dCallV, spOf, atD, ordD, dSq, dZip, dZipM, dZip3, zipD3_map, gShl, dParOO, zipD_map, ivD, dRg1, dRg2, dLc, dYes, dLcGo, dGen, dGenGo, wipeD, boolsOf, intsOf, maxL, minL, noL, noLs, Option.map_some, Option.bind_some, List.all_cons, List.all_nil, List.any_cons, List.any_nil, id_eq, List.set_cons_zero, List.set_cons_succ, List.getElem?_cons_zero, List.getElem?_cons_succ, List.getElem?_nil, List.getD_cons_zero, List.getD_cons_succ, decide_eq_true_eq, decide_eq_false_iff_not, Bool.not_eq_true', Bool.not_true, Bool.not_false, Bool.and_true, Bool.true_and, Bool.and_false, Bool.false_and, Bool.false_eq_true, if_true, if_false, reduceIte, ite_true, ite_false, true_and, and_true, reduceCtorEq, Int.toNat_zero, Int.toNat_one, Int.cast_ofNat_Int, Int.reduceLT, Int.reduceLE, Int.reduceNeg, Int.reduceToNat, Int.reducePow, Int.reduceMul, Int.reduceAdd, Int.reduceSub, decide_true, decide_false, sp__law_draw, sp__law_small_ratio, sp__law_interval, sp_scaled, sp__law_rounded, sp_powered, sp__law_powered, sp_around, sp__law_one, sp__law_ratio, sp_halves, sp_middle, sp_width, sp_ends_of, sp__law_within, sp_holds_ratio]
    exact ⟨⟨hx, hf, by omega, by omega⟩, h'⟩
  · simp (implicitDefEqProofs := false) (maxSteps := 3000000) only [xSeq, xIf, xRet, xRaise, xOf, xB, xBK, xAsg, xTry, xHeard, mD0, mD1, mD2, startD, List.map_cons, List.map_nil, List.length_cons, List.length_nil, List.replicate, List.cons_append, List.nil_append, Nat.reduceAdd, Nat.reduceSub, Nat.zero_add, dSeq, dIfS, dOr, dAnd, dNot, dTst, dOp, dUn, dVar, dC, dB, dBK, dCons, dNil, dTup, dLst, dRet, dRetN, dRetF, dRetO, dBO, dFr, dRepL, dCatL, dRev, dRevL, dSlO, dCatO, cSorted, SpO.sp, dNext, dNever, dAsg, dPar, dPar3, dParO, dIf, dAndV, dOrV, dNotV, dCh, dCt, cLast, cLink, tLast, tLink, dDrop, dFor, dBrk, dCnt, dOwn, dApp, dExt, dFree, gPutO, dIxO, dLend, dLendT, dLcF, gN, gTu, gCn, gNl, gP0, gP1, gII, gIIc, gAdd, gNeg, gIx, gEq, gNe, gIs, gIsNot, gIn, gNotIn, gSl, oNone, oSome, gMt, gIndex, cTuple, cList, cI1, cI2, cInt, cLen, cMax, cMin, cMaxT, cMinT, dAug, cAll, cAny, cRepr, cSqrt, cIsi, tyN, isNon, kb_tt, kb_ii, kb_ib, kb_bi, kb_bb, kb_it, kb_bt, kb_nt, kb_ni, kb_lt, kb_li, kb_ti, kb_si, kb_st, kb_ss, rd, dTru, dRgN, dEnum, gMulT, gDivN, gDivNB, gEqF, dCallV, spOf, atD, ordD, dSq, dZip, dZipM, dZip3, zipD3_map, gShl, dParOO, zipD_map, ivD, dRg1, dRg2, dLc, dYes, dLcGo, dGen, dGenGo, wipeD, boolsOf, intsOf, maxL, minL, noL, noLs, Option.map_some, Option.bind_some, List.all_cons, List.all_nil, List.any_cons, List.any_nil, id_eq, List.set_cons_zero, List.set_cons_succ, List.getElem?_cons_zero, List.getElem?_cons_succ, List.getElem?_nil, List.getD_cons_zero, List.getD_cons_succ, decide_eq_true_eq, decide_eq_false_iff_not, Bool.not_eq_true', Bool.not_true, Bool.not_false, Bool.and_true, Bool.true_and, Bool.and_false, Bool.false_and, Bool.false_eq_true, if_true, if_false, reduceIte, ite_true, ite_false, true_and, and_true, reduceCtorEq, Int.toNat_zero, Int.toNat_one, Int.cast_ofNat_Int, Int.reduceLT, Int.reduceLE, Int.reduceNeg, Int.reduceToNat, Int.reducePow, Int.reduceMul, Int.reduceAdd, Int.reduceSub, decide_true, decide_false, sp__law_draw, sp__law_small_ratio, sp__law_interval, sp_scaled, sp__law_rounded, sp_powered, sp__law_powered, sp_around, sp__law_one, sp__law_ratio, sp_halves, sp_middle, sp_width, sp_ends_of, sp__law_within, sp_holds_ratio]
    exact ⟨a * f, [b * f], g, rfl, .of (by omega) (by omega), h'⟩
  refine seqTo' (fun τ => τ = [some .pot, some (.lst [.int (a * f), .int (b * f)]), some (.int a), some (.int b), none, none, some (.tup [.int f, .int g]), some (.int m), some (.tup [.int a, .int b]), some (.tup [.int n, .int d]), none, none]) (fun k hk => ?_) ?_
  · simp (implicitDefEqProofs := false) (maxSteps := 3000000) only [xSeq, xIf, xRet, xRaise, xOf, xB, xBK, xAsg, xTry, xHeard, mD0, mD1, mD2, startD, List.map_cons, List.map_nil, List.length_cons, List.length_nil, List.replicate, List.cons_append, List.nil_append, Nat.reduceAdd, Nat.reduceSub, Nat.zero_add, dSeq, dIfS, dOr, dAnd, dNot, dTst, dOp, dUn, dVar, dC, dB, dBK, dCons, dNil, dTup, dLst, dRet, dRetN, dRetF, dRetO, dBO, dFr, dRepL, dCatL, dRev, dRevL, dSlO, dCatO, cSorted, SpO.sp, dNext, dNever, dAsg, dPar, dPar3, dParO, dIf, dAndV, dOrV, dNotV, dCh, dCt, cLast, cLink, tLast, tLink, dDrop, dFor, dBrk, dCnt, dOwn, dApp, dExt, dFree, gPutO, dIxO, dLend, dLendT, dLcF, gN, gTu, gCn, gNl, gP0, gP1, gII, gIIc, gAdd, gNeg, gIx, gEq, gNe, gIs, gIsNot, gIn, gNotIn, gSl, oNone, oSome, gMt, gIndex, cTuple, cList, cI1, cI2, cInt, cLen, cMax, cMin, cMaxT, cMinT, dAug, cAll, cAny, cRepr, cSqrt, cIsi, tyN, isNon, kb_tt, kb_ii, kb_ib, kb_bi, kb_bb, kb_it, kb_bt, kb_nt, kb_ni, kb_lt, kb_li, kb_ti, kb_si, kb_st, kb_ss, rd, dTru, dRgN, dEnum, gMulT, gDivN, gDivNB, gEqF, dCallV, spOf, atD, ordD, dSq, dZip, dZipM, dZip3, zipD3_map, gShl, dParOO, zipD_map, ivD, dRg1, dRg2, dLc, dYes, dLcGo, dGen, dGenGo, wipeD, boolsOf, intsOf, maxL, minL, noL, noLs, Option.map_some, Option.bind_some, List.all_cons, List.all_nil, List.any_cons, List.any_nil, id_eq, List.set_cons_zero, List.set_cons_succ, List.getElem?_cons_zero, List.getElem?_cons_succ, List.getElem?_nil, List.getD_cons_zero, List.getD_cons_succ, decide_eq_true_eq, decide_eq_false_iff_not, Bool.not_eq_true', Bool.not_true, Bool.not_false, Bool.and_true, Bool.true_and, Bool.and_false, Bool.false_and, Bool.false_eq_true, if_true, if_false, reduceIte, ite_true, ite_false, true_and, and_true, reduceCtorEq, Int.toNat_zero, Int.toNat_one, Int.cast_ofNat_Int, Int.reduceLT, Int.reduceLE, Int.reduceNeg, Int.reduceToNat, Int.reducePow, Int.reduceMul, Int.reduceAdd, Int.reduceSub, decide_true, decide_false, sp__law_draw, sp__law_small_ratio, sp__law_interval, sp_scaled, sp__law_rounded, sp_powered, sp__law_powered, sp_around, sp__law_one, sp__law_ratio, sp_halves, sp_middle, sp_width, sp_ends_of, sp__law_within, sp_holds_ratio]
    exact hk _ rfl
  rintro _ rfl
  refine seqAsg (.int ((a + b) / 2)) (fun Q hQ => ?_) ?_
  · simp (implicitDefEqProofs := false) (maxSteps := 3000000) only [xSeq, xIf, xRet, xRaise, xOf, xB, xBK, xAsg, xTry, xHeard, mD0, mD1, mD2, startD, List.map_cons, List.map_nil, List.length_cons, List.length_nil, List.replicate, List.cons_append, List.nil_append, Nat.reduceAdd, Nat.reduceSub, Nat.zero_add, dSeq, dIfS, dOr, dAnd, dNot, dTst, dOp, dUn, dVar, dC, dB, dBK, dCons, dNil, dTup, dLst, dRet, dRetN, dRetF, dRetO, dBO, dFr, dRepL, dCatL, dRev, dRevL, dSlO, dCatO, cSorted, SpO.sp, dNext, dNever, dAsg, dPar, dPar3, dParO, dIf, dAndV, dOrV, dNotV, dCh, dCt, cLast, cLink, tLast, tLink, dDrop, dFor, dBrk, dCnt, dOwn, dApp, dExt, dFree, gPutO, dIxO, dLend, dLendT, dLcF, gN, gTu, gCn, gNl, gP0, gP1, gII, gIIc, gAdd, gNeg, gIx, gEq, gNe, gIs, gIsNot, gIn, gNotIn, gSl, oNone, oSome, gMt, gIndex, cTuple, cList, cI1, cI2, cInt, cLen, cMax, cMin, cMaxT, cMinT, dAug, cAll, cAny, cRepr, cSqrt, cIsi, tyN, isNon, kb_tt, kb_ii, kb_ib, kb_bi, kb_bb, kb_it, kb_bt, kb_nt, kb_ni, kb_lt, kb_li, kb_ti, kb_si, kb_st, kb_ss, rd, dTru, dRgN, dEnum, gMulT, gDivN, gDivNB, gEqF, dCallV, spOf, atD, ordD, dSq, dZip, dZipM, dZip3, zipD3_map, gShl, dParOO, zipD_map, ivD, dRg1, dRg2, dLc, dYes, dLcGo, dGen, dGenGo, wipeD, boolsOf, intsOf, maxL, minL, noL, noLs, Option.map_some, Option.bind_some, List.all_cons, List.all_nil, List.any_cons, List.any_nil, id_eq, List.set_cons_zero, List.set_cons_succ, List.getElem?_cons_zero, List.getElem?_cons_succ, List.getElem?_nil, List.getD_cons_zero, List.getD_cons_succ, decide_eq_true_eq, decide_eq_false_iff_not, Bool.not_eq_true', Bool.not_true, Bool.not_false, Bool.and_true, Bool.true_and, Bool.and_false, Bool.false_and, Bool.false_eq_true, if_true, if_false, reduceIte, ite_true, ite_false, true_and, and_true, reduceCtorEq, Int.toNat_zero, Int.toNat_one, Int.cast_ofNat_Int, Int.reduceLT, Int.reduceLE, Int.reduceNeg, Int.reduceToNat, Int.reducePow, Int.reduceMul, Int.reduceAdd, Int.reduceSub, decide_true, decide_false, sp__law_draw, sp__law_small_ratio, sp__law_interval, sp_scaled, sp__law_rounded, sp_powered, sp__law_powered, sp_around, sp__law_one, sp__law_ratio, sp_halves, sp_middle, sp_width, sp_ends_of, sp__law_within, sp_holds_ratio]
    exact ⟨.of (by decide) (by decide), hQ⟩
  refine seqIf false (fun Q hQ => ?_) (ofNext ?_)
  · simp (implicitDefEqProofs := false) (maxSteps := 3000000) only [xSeq, xIf, xRet, xRaise, xOf, xB, xBK, xAsg, xTry, xHeard, mD0, mD1, mD2, startD, List.map_cons, List.map_nil, List.length_cons, List.length_nil, List.replicate, List.cons_append, List.nil_append, Nat.reduceAdd, Nat.reduceSub, Nat.zero_add, dSeq, dIfS, dOr, dAnd, dNot, dTst, dOp, dUn, dVar, dC, dB, dBK, dCons, dNil, dTup, dLst, dRet, dRetN, dRetF, dRetO, dBO, dFr, dRepL, dCatL, dRev, dRevL, dSlO, dCatO, cSorted, SpO.sp, dNext, dNever, dAsg, dPar, dPar3, dParO, dIf, dAndV, dOrV, dNotV, dCh, dCt, cLast, cLink, tLast, tLink, dDrop, dFor, dBrk, dCnt, dOwn, dApp, dExt, dFree, gPutO, dIxO, dLend, dLendT, dLcF, gN, gTu, gCn, gNl, gP0, gP1, gII, gIIc, gAdd, gNeg, gIx, gEq, gNe, gIs, gIsNot, gIn, gNotIn, gSl, oNone, oSome, gMt, gIndex, cTuple, cList, cI1, cI2, cInt, cLen, cMax, cMin, cMaxT, cMinT, dAug, cAll, cAny, cRepr, cSqrt, cIsi, tyN, isNon, kb_tt, kb_ii, kb_ib, kb_bi, kb_bb, kb_it, kb_bt, kb_nt, kb_ni, kb_lt, kb_li, kb_ti, kb_si, kb_st, kb_ss, rd, dTru, dRgN, dEnum, gMulT, gDivN, gDivNB, gEqF, dCallV, spOf, atD, ordD, dSq, dZip, dZipM, dZip3, zipD3_map, gShl, dParOO, zipD_map, ivD, dRg1, dRg2, dLc, dYes, dLcGo, dGen, dGenGo, wipeD, boolsOf, intsOf, maxL, minL, noL, noLs, Option.map_some, Option.bind_some, List.all_cons, List.all_nil, List.any_cons, List.any_nil, id_eq, List.set_cons_zero, List.set_cons_succ, List.getElem?_cons_zero, List.getElem?_cons_succ, List.getElem?_nil, List.getD_cons_zero, List.getD_cons_succ, decide_eq_true_eq, decide_eq_false_iff_not, Bool.not_eq_true', Bool.not_true, Bool.not_false, Bool.and_true, Bool.true_and, Bool.and_false, Bool.false_and, Bool.false_eq_true, if_true, if_false, reduceIte, ite_true, ite_false, true_and, and_true, reduceCtorEq, Int.toNat_zero, Int.toNat_one, Int.cast_ofNat_Int, Int.reduceLT, Int.reduceLE, Int.reduceNeg, Int.reduceToNat, Int.reducePow, Int.reduceMul, Int.reduceAdd, Int.reduceSub, decide_true, decide_false, sp__law_draw, sp__law_small_ratio, sp__law_interval, sp_scaled, sp__law_rounded, sp_powered, sp__law_powered, sp_around, sp__law_one, sp__law_ratio, sp_halves, sp_middle, sp_width, sp_ends_of, sp__law_within, sp_holds_ratio]
    refine ⟨hx, hx, hx, ⟨rfl, rfl⟩, ?_⟩
    rw [eqv_self (d := .lst [.int (b - a), .int ((a + b) / 2), .tup [.tup [.int a, .int ((a + b) / 2)], .tup [.int ((a + b) / 2), .int b]]]) rfl]
    exact hQ
  refine seqIf false (fun Q hQ => ?_) (ofNext ?_)
  · simp (implicitDefEqProofs := false) (maxSteps := 3000000) only [xSeq, xIf, xRet, xRaise, xOf, xB, xBK, xAsg, xTry, xHeard, mD0, mD1, mD2, startD, List.map_cons, List.map_nil, List.length_cons, List.length_nil, List.replicate, List.cons_append, List.nil_append, Nat.reduceAdd, Nat.reduceSub, Nat.zero_add, dSeq, dIfS, dOr, dAnd, dNot, dTst, dOp, dUn, dVar, dC, dB, dBK, dCons, dNil, dTup, dLst, dRet, dRetN, dRetF, dRetO, dBO, dFr, dRepL, dCatL, dRev, dRevL, dSlO, dCatO, cSorted, SpO.sp, dNext, dNever, dAsg, dPar, dPar3, dParO, dIf, dAndV, dOrV, dNotV, dCh, dCt, cLast, cLink, tLast, tLink, dDrop, dFor, dBrk, dCnt, dOwn, dApp, dExt, dFree, gPutO, dIxO, dLend, dLendT, dLcF, gN, gTu, gCn, gNl, gP0, gP1, gII, gIIc, gAdd, gNeg, gIx, gEq, gNe, gIs, gIsNot, gIn, gNotIn, gSl, oNone, oSome, gMt, gIndex, cTuple, cList, cI1, cI2, cInt, cLen, cMax, cMin, cMaxT, cMinT, dAug, cAll, cAny, cRepr, cSqrt, cIsi, tyN, isNon, kb_tt, kb_ii, kb_ib, kb_bi, kb_bb, kb_it, kb_bt, kb_nt, kb_ni, kb_lt, kb_li, kb_ti, kb_si, kb_st, kb_ss, rd, dTru, dRgN, dEnum, gMulT, gDivN, gDivNB, gEqF, dCallV, spOf, atD, ordD, dSq, dZip, dZipM, dZip3, zipD3_map, gShl, dParOO, zipD_map, ivD, dRg1, dRg2, dLc, dYes, dLcGo, dGen, dGenGo, wipeD, boolsOf, intsOf, maxL, minL, noL, noLs, Option.map_some, Option.bind_some, List.all_cons, List.all_nil, List.any_cons, List.any_nil, id_eq, List.set_cons_zero, List.set_cons_succ, List.getElem?_cons_zero, List.getElem?_cons_succ, List.getElem?_nil, List.getD_cons_zero, List.getD_cons_succ, decide_eq_true_eq, decide_eq_false_iff_not, Bool.not_eq_true', Bool.not_true, Bool.not_false, Bool.and_true, Bool.true_and, Bool.and_false, Bool.false_and, Bool.false_eq_true, if_true, if_false, reduceIte, ite_true, ite_false, true_and, and_true, reduceCtorEq, Int.toNat_zero, Int.toNat_one, Int.cast_ofNat_Int, Int.reduceLT, Int.reduceLE, Int.reduceNeg, Int.reduceToNat, Int.reducePow, Int.reduceMul, Int.reduceAdd, Int.reduceSub, decide_true, decide_false, sp__law_draw, sp__law_small_ratio, sp__law_interval, sp_scaled, sp__law_rounded, sp_powered, sp__law_powered, sp_around, sp__law_one, sp__law_ratio, sp_halves, sp_middle, sp_width, sp_ends_of, sp__law_within, sp_holds_ratio]
    refine ⟨hx, by decide, fun q hq e _ _ => ⟨by decide, fun r hr e' _ _ => ?_⟩⟩
    have z1 := one_eq hq e
    have z2 := one_eq hr e'
    subst z1 z2
    refine ⟨⟨rfl, rfl⟩, ?_⟩
    rw [eqv_self (d := .tup [.tup [.int (a / ((Nat.gcd a.natAbs 1099511627776 : Nat) : Int)), .int (1099511627776 / ((Nat.gcd a.natAbs 1099511627776 : Nat) : Int))], .tup [.int (b / ((Nat.gcd b.natAbs 1099511627776 : Nat) : Int)), .int (1099511627776 / ((Nat.gcd b.natAbs 1099511627776 : Nat) : Int))]]) rfl]
    exact hQ
  refine seqOwnP (fun l => ∃ p q : Int × Int, Rt p ∧ In (a, b) p ∧ Rt q ∧ q.1 * 1099511627776 = (b + 1) * q.2 ∧ l = [ivD p, ivD q]) (fun Q hQ => ?_) ?_
  · simp (implicitDefEqProofs := false) (maxSteps := 3000000) only [xSeq, xIf, xRet, xRaise, xOf, xB, xBK, xAsg, xTry, xHeard, mD0, mD1, mD2, startD, List.map_cons, List.map_nil, List.length_cons, List.length_nil, List.replicate, List.cons_append, List.nil_append, Nat.reduceAdd, Nat.reduceSub, Nat.zero_add, dSeq, dIfS, dOr, dAnd, dNot, dTst, dOp, dUn, dVar, dC, dB, dBK, dCons, dNil, dTup, dLst, dRet, dRetN, dRetF, dRetO, dBO, dFr, dRepL, dCatL, dRev, dRevL, dSlO, dCatO, cSorted, SpO.sp, dNext, dNever, dAsg, dPar, dPar3, dParO, dIf, dAndV, dOrV, dNotV, dCh, dCt, cLast, cLink, tLast, tLink, dDrop, dFor, dBrk, dCnt, dOwn, dApp, dExt, dFree, gPutO, dIxO, dLend, dLendT, dLcF, gN, gTu, gCn, gNl, gP0, gP1, gII, gIIc, gAdd, gNeg, gIx, gEq, gNe, gIs, gIsNot, gIn, gNotIn, gSl, oNone, oSome, gMt, gIndex, cTuple, cList, cI1, cI2, cInt, cLen, cMax, cMin, cMaxT, cMinT, dAug, cAll, cAny, cRepr, cSqrt, cIsi, tyN, isNon, kb_tt, kb_ii, kb_ib, kb_bi, kb_bb, kb_it, kb_bt, kb_nt, kb_ni, kb_lt, kb_li, kb_ti, kb_si, kb_st, kb_ss, rd, dTru, dRgN, dEnum, gMulT, gDivN, gDivNB, gEqF, dCallV, spOf, atD, ordD, dSq, dZip, dZipM, dZip3, zipD3_map, gShl, dParOO, zipD_map, ivD, dRg1, dRg2, dLc, dYes, dLcGo, dGen, dGenGo, wipeD, boolsOf, intsOf, maxL, minL, noL, noLs, Option.map_some, Option.bind_some, List.all_cons, List.all_nil, List.any_cons, List.any_nil, id_eq, List.set_cons_zero, List.set_cons_succ, List.getElem?_cons_zero, List.getElem?_cons_succ, List.getElem?_nil, List.getD_cons_zero, List.getD_cons_succ, decide_eq_true_eq, decide_eq_false_iff_not, Bool.not_eq_true', Bool.not_true, Bool.not_false, Bool.and_true, Bool.true_and, Bool.and_false, Bool.false_and, Bool.false_eq_true, if_true, if_false, reduceIte, ite_true, ite_false, true_and, and_true, reduceCtorEq, Int.toNat_zero, Int.toNat_one, Int.cast_ofNat_Int, Int.reduceLT, Int.reduceLE, Int.reduceNeg, Int.reduceToNat, Int.reducePow, Int.reduceMul, Int.reduceAdd, Int.reduceSub, decide_true, decide_false, sp__law_draw, sp__law_small_ratio, sp__law_interval, sp_scaled, sp__law_rounded, sp_powered, sp__law_powered, sp_around, sp__law_one, sp__law_ratio, sp_halves, sp_middle, sp_width, sp_ends_of, sp__law_within, sp_holds_ratio]
    refine ⟨hx, fun p hp ip => ⟨by decide, fun q hq e _ _ => hQ _ ⟨p, q, hp, ip, hq, e, rfl⟩⟩⟩
  rintro _ ⟨p, q, hp, ip, hq, eq, rfl⟩
  refine seqTo' (fun τ => ∃ r s : Int × Int, Rt r ∧ r.1 * 1099511627776 = (a - 1) * r.2 ∧ Rt s ∧ s.1 * 3298534883328 = (3 * b + 1) * s.2 ∧ τ = [some .pot, some (.lst [.int (a * f), .int (b * f)]), some (.int a), some (.int b), some (.int ((a + b) / 2)), some (.own [ivD p, ivD q, ivD r, ivD s]), some (.tup [.int f, .int g]), some (.int m), some (.tup [.int a, .int b]), some (.tup [.int n, .int d]), none, none]) (fun k hk => ?_) ?_
  · simp (implicitDefEqProofs := false) (maxSteps := 3000000) only [xSeq, xIf, xRet, xRaise, xOf, xB, xBK, xAsg, xTry, xHeard, mD0, mD1, mD2, startD, List.map_cons, List.map_nil, List.length_cons, List.length_nil, List.replicate, List.cons_append, List.nil_append, Nat.reduceAdd, Nat.reduceSub, Nat.zero_add, dSeq, dIfS, dOr, dAnd, dNot, dTst, dOp, dUn, dVar, dC, dB, dBK, dCons, dNil, dTup, dLst, dRet, dRetN, dRetF, dRetO, dBO, dFr, dRepL, dCatL, dRev, dRevL, dSlO, dCatO, cSorted, SpO.sp, dNext, dNever, dAsg, dPar, dPar3, dParO, dIf, dAndV, dOrV, dNotV, dCh, dCt, cLast, cLink, tLast, tLink, dDrop, dFor, dBrk, dCnt, dOwn, dApp, dExt, dFree, gPutO, dIxO, dLend, dLendT, dLcF, gN, gTu, gCn, gNl, gP0, gP1, gII, gIIc, gAdd, gNeg, gIx, gEq, gNe, gIs, gIsNot, gIn, gNotIn, gSl, oNone, oSome, gMt, gIndex, cTuple, cList, cI1, cI2, cInt, cLen, cMax, cMin, cMaxT, cMinT, dAug, cAll, cAny, cRepr, cSqrt, cIsi, tyN, isNon, kb_tt, kb_ii, kb_ib, kb_bi, kb_bb, kb_it, kb_bt, kb_nt, kb_ni, kb_lt, kb_li, kb_ti, kb_si, kb_st, kb_ss, rd, dTru, dRgN, dEnum, gMulT, gDivN, gDivNB, gEqF, dCallV, spOf, atD, ordD, dSq, dZip, dZipM, dZip3, zipD3_map, gShl, dParOO, zipD_map, ivD, dRg1, dRg2, dLc, dYes, dLcGo, dGen, dGenGo, wipeD, boolsOf, intsOf, maxL, minL, noL, noLs, Option.map_some, Option.bind_some, List.all_cons, List.all_nil, List.any_cons, List.any_nil, id_eq, List.set_cons_zero, List.set_cons_succ, List.getElem?_cons_zero, List.getElem?_cons_succ, List.getElem?_nil, List.getD_cons_zero, List.getD_cons_succ, decide_eq_true_eq, decide_eq_false_iff_not, Bool.not_eq_true', Bool.not_true, Bool.not_false, Bool.and_true, Bool.true_and, Bool.and_false, Bool.false_and, Bool.false_eq_true, if_true, if_false, reduceIte, ite_true, ite_false, true_and, and_true, reduceCtorEq, Int.toNat_zero, Int.toNat_one, Int.cast_ofNat_Int, Int.reduceLT, Int.reduceLE, Int.reduceNeg, Int.reduceToNat, Int.reducePow, Int.reduceMul, Int.reduceAdd, Int.reduceSub, decide_true, decide_false, sp__law_draw, sp__law_small_ratio, sp__law_interval, sp_scaled, sp__law_rounded, sp_powered, sp__law_powered, sp_around, sp__law_one, sp__law_ratio, sp_halves, sp_middle, sp_width, sp_ends_of, sp__law_within, sp_holds_ratio]
    refine ⟨by decide, fun r hr er _ _ => ⟨.left (by decide) (by decide), .left (by decide) (by decide), by decide, fun s hs es _ _ => ⟨by decide, hk _ ⟨r, s, hr, er, hs, es, rfl⟩⟩⟩⟩
  rintro _ ⟨r, s, hr, er, hs, es, rfl⟩
  refine seqTo' (fun τ => ∃ u : Int × Int, Rt u ∧ u.1 * 3298534883328 = (3 * a - 1) * u.2 ∧ τ = [some .pot, some (.lst [.int (a * f), .int (b * f)]), some (.int a), some (.int b), some (.int ((a + b) / 2)), some (.own [ivD p, ivD q, ivD r, ivD s, ivD u]), some (.tup [.int f, .int g]), some (.int m), some (.tup [.int a, .int b]), some (.tup [.int n, .int d]), none, none]) (fun k hk => ?_) ?_
  · simp (implicitDefEqProofs := false) (maxSteps := 3000000) only [xSeq, xIf, xRet, xRaise, xOf, xB, xBK, xAsg, xTry, xHeard, mD0, mD1, mD2, startD, List.map_cons, List.map_nil, List.length_cons, List.length_nil, List.replicate, List.cons_append, List.nil_append, Nat.reduceAdd, Nat.reduceSub, Nat.zero_add, dSeq, dIfS, dOr, dAnd, dNot, dTst, dOp, dUn, dVar, dC, dB, dBK, dCons, dNil, dTup, dLst, dRet, dRetN, dRetF, dRetO, dBO, dFr, dRepL, dCatL, dRev, dRevL, dSlO, dCatO, cSorted, SpO.sp, dNext, dNever, dAsg, dPar, dPar3, dParO, dIf, dAndV, dOrV, dNotV, dCh, dCt, cLast, cLink, tLast, tLink, dDrop, dFor, dBrk, dCnt, dOwn, dApp, dExt, dFree, gPutO, dIxO, dLend, dLendT, dLcF, gN, gTu, gCn, gNl, gP0, gP1, gII, gIIc, gAdd, gNeg, gIx, gEq, gNe, gIs, gIsNot, gIn, gNotIn, gSl, oNone, oSome, gMt, gIndex, cTuple, cList, cI1, cI2, cInt, cLen, cMax, cMin, cMaxT, cMinT, dAug, cAll, cAny, cRepr, cSqrt, cIsi, tyN, isNon, kb_tt, kb_ii, kb_ib, kb_bi, kb_bb, kb_it, kb_bt, kb_nt, kb_ni, kb_lt, kb_li, kb_ti, kb_si, kb_st, kb_ss, rd, dTru, dRgN, dEnum, gMulT, gDivN, gDivNB, gEqF, dCallV, spOf, atD, ordD, dSq, dZip, dZipM, dZip3, zipD3_map, gShl, dParOO, zipD_map, ivD, dRg1, dRg2, dLc, dYes, dLcGo, dGen, dGenGo, wipeD, boolsOf, intsOf, maxL, minL, noL, noLs, Option.map_some, Option.bind_some, List.all_cons, List.all_nil, List.any_cons, List.any_nil, id_eq, List.set_cons_zero, List.set_cons_succ, List.getElem?_cons_zero, List.getElem?_cons_succ, List.getElem?_nil, List.getD_cons_zero, List.getD_cons_succ, decide_eq_true_eq, decide_eq_false_iff_not, Bool.not_eq_true', Bool.not_true, Bool.not_false, Bool.and_true, Bool.true_and, Bool.and_false, Bool.false_and, Bool.false_eq_true, if_true, if_false, reduceIte, ite_true, ite_false, true_and, and_true, reduceCtorEq, Int.toNat_zero, Int.toNat_one, Int.cast_ofNat_Int, Int.reduceLT, Int.reduceLE, Int.reduceNeg, Int.reduceToNat, Int.reducePow, Int.reduceMul, Int.reduceAdd, Int.reduceSub, decide_true, decide_false, sp__law_draw, sp__law_small_ratio, sp__law_interval, sp_scaled, sp__law_rounded, sp_powered, sp__law_powered, sp_around, sp__law_one, sp__law_ratio, sp_halves, sp_middle, sp_width, sp_ends_of, sp__law_within, sp_holds_ratio]
    refine ⟨.left (by decide) (by decide), .left (by decide) (by decide), by decide, fun u hu eu _ _ => ⟨by decide, hk _ ⟨u, hu, eu, rfl⟩⟩⟩
  rintro _ ⟨u, hu, eu, rfl⟩
  refine seqAsg (.lst [.bl true, .bl false, .bl false, .bl false, .bl false]) (fun Q hQ => ?_) ?_
  · simp (implicitDefEqProofs := false) (maxSteps := 3000000) only [xSeq, xIf, xRet, xRaise, xOf, xB, xBK, xAsg, xTry, xHeard, mD0, mD1, mD2, startD, List.map_cons, List.map_nil, List.length_cons, List.length_nil, List.replicate, List.cons_append, List.nil_append, Nat.reduceAdd, Nat.reduceSub, Nat.zero_add, dSeq, dIfS, dOr, dAnd, dNot, dTst, dOp, dUn, dVar, dC, dB, dBK, dCons, dNil, dTup, dLst, dRet, dRetN, dRetF, dRetO, dBO, dFr, dRepL, dCatL, dRev, dRevL, dSlO, dCatO, cSorted, SpO.sp, dNext, dNever, dAsg, dPar, dPar3, dParO, dIf, dAndV, dOrV, dNotV, dCh, dCt, cLast, cLink, tLast, tLink, dDrop, dFor, dBrk, dCnt, dOwn, dApp, dExt, dFree, gPutO, dIxO, dLend, dLendT, dLcF, gN, gTu, gCn, gNl, gP0, gP1, gII, gIIc, gAdd, gNeg, gIx, gEq, gNe, gIs, gIsNot, gIn, gNotIn, gSl, oNone, oSome, gMt, gIndex, cTuple, cList, cI1, cI2, cInt, cLen, cMax, cMin, cMaxT, cMinT, dAug, cAll, cAny, cRepr, cSqrt, cIsi, tyN, isNon, kb_tt, kb_ii, kb_ib, kb_bi, kb_bb, kb_it, kb_bt, kb_nt, kb_ni, kb_lt, kb_li, kb_ti, kb_si, kb_st, kb_ss, rd, dTru, dRgN, dEnum, gMulT, gDivN, gDivNB, gEqF, dCallV, spOf, atD, ordD, dSq, dZip, dZipM, dZip3, zipD3_map, gShl, dParOO, zipD_map, ivD, dRg1, dRg2, dLc, dYes, dLcGo, dGen, dGenGo, wipeD, boolsOf, intsOf, maxL, minL, noL, noLs, Option.map_some, Option.bind_some, List.all_cons, List.all_nil, List.any_cons, List.any_nil, id_eq, List.set_cons_zero, List.set_cons_succ, List.getElem?_cons_zero, List.getElem?_cons_succ, List.getElem?_nil, List.getD_cons_zero, List.getD_cons_succ, decide_eq_true_eq, decide_eq_false_iff_not, Bool.not_eq_true', Bool.not_true, Bool.not_false, Bool.and_true, Bool.true_and, Bool.and_false, Bool.false_and, Bool.false_eq_true, if_true, if_false, reduceIte, ite_true, ite_false, true_and, and_true, reduceCtorEq, Int.toNat_zero, Int.toNat_one, Int.cast_ofNat_Int, Int.reduceLT, Int.reduceLE, Int.reduceNeg, Int.reduceToNat, Int.reducePow, Int.reduceMul, Int.reduceAdd, Int.reduceSub, decide_true, decide_false, sp__law_draw, sp__law_small_ratio, sp__law_interval, sp_scaled, sp__law_rounded, sp_powered, sp__law_powered, sp_around, sp__law_one, sp__law_ratio, sp_halves, sp_middle, sp_width, sp_ends_of, sp__law_within, sp_holds_ratio]
    have q0 : 1 ≤ q.2 := hq.pos
    have r0 : 1 ≤ r.2 := hr.pos
    have s0 : 1 ≤ s.2 := hs.pos
    have u0 : 1 ≤ u.2 := hu.pos
    have nq : (decide (a * q.2 ≤ q.1 * 1099511627776) && decide (q.1 * 1099511627776 ≤ b * q.2)) = false := by
      have e : (b + 1) * q.2 = b * q.2 + q.2 := by rw [Int.add_mul, Int.one_mul]
      rw [decide_eq_false (p := q.1 * 1099511627776 ≤ b * q.2) (by omega), Bool.and_false]
    have nr : (decide (a * r.2 ≤ r.1 * 1099511627776) && decide (r.1 * 1099511627776 ≤ b * r.2)) = false := by
      have e : (a - 1) * r.2 = a * r.2 - r.2 := by rw [Int.sub_mul, Int.one_mul]
      rw [decide_eq_false (p := a * r.2 ≤ r.1 * 1099511627776) (by omega), Bool.false_and]
    have ns : (decide (a * s.2 ≤ s.1 * 1099511627776) && decide (s.1 * 1099511627776 ≤ b * s.2)) = false := by
      have e : (3 * b + 1) * s.2 = 3 * (b * s.2) + s.2 := by rw [Int.add_mul, Int.one_mul, Int.mul_assoc]
      rw [decide_eq_false (p := s.1 * 1099511627776 ≤ b * s.2) (by omega), Bool.and_false]
    have nu : (decide (a * u.2 ≤ u.1 * 1099511627776) && decide (u.1 * 1099511627776 ≤ b * u.2)) = false := by
      have e : (3 * a - 1) * u.2 = 3 * (a * u.2) - u.2 := by rw [Int.sub_mul, Int.one_mul, Int.mul_assoc]
      rw [decide_eq_false (p := a * u.2 ≤ u.1 * 1099511627776) (by omega), Bool.false_and]
    refine ⟨⟨hx, hp⟩, .of 4 rfl (by omega), ?_⟩
    rw [show DL.cutD [D.tup [D.int p.fst, D.int p.snd], D.tup [D.int q.fst, D.int q.snd], D.tup [D.int r.fst, D.int r.snd], D.tup [D.int s.fst, D.int s.snd], D.tup [D.int u.fst, D.int u.snd]] (some 1) none = [D.tup [D.int q.fst, D.int q.snd], D.tup [D.int r.fst, D.int r.snd], D.tup [D.int s.fst, D.int s.snd], D.tup [D.int u.fst, D.int u.snd]] from rfl]
    simp (implicitDefEqProofs := false) (maxSteps := 3000000) only [xSeq, xIf, xRet, xRaise, xOf, xB, xBK, xAsg, xTry, xHeard, mD0, mD1, mD2, startD, List.map_cons, List.map_nil, List.length_cons, List.length_nil, List.replicate, List.cons_append, List.nil_append, Nat.reduceAdd, Nat.reduceSub, Nat.zero_add, dSeq, dIfS, dOr, dAnd, dNot, dTst, dOp, dUn, dVar, dC, dB, dBK, dCons, dNil, dTup, dLst, dRet, dRetN, dRetF, dRetO, dBO, dFr, dRepL, dCatL, dRev, dRevL, dSlO, dCatO, cSorted, SpO.sp, dNext, dNever, dAsg, dPar, dPar3, dParO, dIf, dAndV, dOrV, dNotV, dCh, dCt, cLast, cLink, tLast, tLink, dDrop, dFor, dBrk, dCnt, dOwn, dApp, dExt, dFree, gPutO, dIxO, dLend, dLendT, dLcF, gN, gTu, gCn, gNl, gP0, gP1, gII, gIIc, gAdd, gNeg, gIx, gEq, gNe, gIs, gIsNot, gIn, gNotIn, gSl, oNone, oSome, gMt, gIndex, cTuple, cList, cI1, cI2, cInt, cLen, cMax, cMin, cMaxT, cMinT, dAug, cAll, cAny, cRepr, cSqrt, cIsi, tyN, isNon, kb_tt, kb_ii, kb_ib, kb_bi, kb_bb, kb_it, kb_bt, kb_nt, kb_ni, kb_lt, kb_li, kb_ti, kb_si, kb_st, kb_ss, rd, dTru, dRgN, dEnum, gMulT, gDivN, gDivNB, gEqF, dCallV, spOf, atD, ordD, dSq, dZip, dZipM, dZip3, zipD3_map, gShl, dParOO, zipD_map, ivD, dRg1, dRg2, dLc, dYes, dLcGo, dGen, dGenGo, wipeD, boolsOf, intsOf, maxL, minL, noL, noLs, Option.map_some, Option.bind_some, List.all_cons, List.all_nil, List.any_cons, List.any_nil, id_eq, List.set_cons_zero, List.set_cons_succ, List.getElem?_cons_zero, List.getElem?_cons_succ, List.getElem?_nil, List.getD_cons_zero, List.getD_cons_succ, decide_eq_true_eq, decide_eq_false_iff_not, Bool.not_eq_true', Bool.not_true, Bool.not_false, Bool.and_true, Bool.true_and, Bool.and_false, Bool.false_and, Bool.false_eq_true, if_true, if_false, reduceIte, ite_true, ite_false, true_and, and_true, reduceCtorEq, Int.toNat_zero, Int.toNat_one, Int.cast_ofNat_Int, Int.reduceLT, Int.reduceLE, Int.reduceNeg, Int.reduceToNat, Int.reducePow, Int.reduceMul, Int.reduceAdd, Int.reduceSub, decide_true, decide_false, sp__law_draw, sp__law_small_ratio, sp__law_interval, sp_scaled, sp__law_rounded, sp_powered, sp__law_powered, sp_around, sp__law_one, sp__law_ratio, sp_halves, sp_middle, sp_width, sp_ends_of, sp__law_within, sp_holds_ratio]
    refine ⟨⟨hx, hq⟩, ⟨hx, hr⟩, ⟨hx, hs⟩, ⟨hx, hu⟩, by decide, ?_⟩
    rw [ip.has, nq, nr, ns, nu]
    exact hQ
  simp (implicitDefEqProofs := false) (maxSteps := 3000000) only [xSeq, xIf, xRet, xRaise, xOf, xB, xBK, xAsg, xTry, xHeard, mD0, mD1, mD2, startD, List.map_cons, List.map_nil, List.length_cons, List.length_nil, List.replicate, List.cons_append, List.nil_append, Nat.reduceAdd, Nat.reduceSub, Nat.zero_add, dSeq, dIfS, dOr, dAnd, dNot, dTst, dOp, dUn, dVar, dC, dB, dBK, dCons, dNil, dTup, dLst, dRet, dRetN, dRetF, dRetO, dBO, dFr, dRepL, dCatL, dRev, dRevL, dSlO, dCatO, cSorted, SpO.sp, dNext, dNever, dAsg, dPar, dPar3, dParO, dIf, dAndV, dOrV, dNotV, dCh, dCt, cLast, cLink, tLast, tLink, dDrop, dFor, dBrk, dCnt, dOwn, dApp, dExt, dFree, gPutO, dIxO, dLend, dLendT, dLcF, gN, gTu, gCn, gNl, gP0, gP1, gII, gIIc, gAdd, gNeg, gIx, gEq, gNe, gIs, gIsNot, gIn, gNotIn, gSl, oNone, oSome, gMt, gIndex, cTuple, cList, cI1, cI2, cInt, cLen, cMax, cMin, cMaxT, cMinT, dAug, cAll, cAny, cRepr, cSqrt, cIsi, tyN, isNon, kb_tt, kb_ii, kb_ib, kb_bi, kb_bb, kb_it, kb_bt, kb_nt, kb_ni, kb_lt, kb_li, kb_ti, kb_si, kb_st, kb_ss, rd, dTru, dRgN, dEnum, gMulT, gDivN, gDivNB, gEqF, dCallV, spOf, atD, ordD, dSq, dZip, dZipM, dZip3, zipD3_map, gShl, dParOO, zipD_map, ivD, dRg1, dRg2, dLc, dYes, dLcGo, dGen, dGenGo, wipeD, boolsOf, intsOf, maxL, minL, noL, noLs, Option.map_some, Option.bind_some, List.all_cons, List.all_nil, List.any_cons, List.any_nil, id_eq, List.set_cons_zero, List.set_cons_succ, List.getElem?_cons_zero, List.getElem?_cons_succ, List.getElem?_nil, List.getD_cons_zero, List.getD_cons_succ, decide_eq_true_eq, decide_eq_false_iff_not, Bool.not_eq_true', Bool.not_true, Bool.not_false, Bool.and_true, Bool.true_and, Bool.and_false, Bool.false_and, Bool.false_eq_true, if_true, if_false, reduceIte, ite_true, ite_false, true_and, and_true, reduceCtorEq, Int.toNat_zero, Int.toNat_one, Int.cast_ofNat_Int, Int.reduceLT, Int.reduceLE, Int.reduceNeg, Int.reduceToNat, Int.reducePow, Int.reduceMul, Int.reduceAdd, Int.reduceSub, decide_true, decide_false, sp__law_draw, sp__law_small_ratio, sp__law_interval, sp_scaled, sp__law_rounded, sp_powered, sp__law_powered, sp_around, sp__law_one, sp__law_ratio, sp_halves, sp_middle, sp_width, sp_ends_of, sp__law_within, sp_holds_ratio]
  exact ⟨⟨rfl, ⟨trivial, trivial, trivial, trivial, trivial, trivial⟩, by decide⟩, ⟨rfl, ⟨trivial, trivial, trivial, trivial, trivial, trivial⟩, by decide⟩, h⟩
def sp__law_right : SpD :=
  fun ds R => match ds with
  | [.pot] => R (.bl true)
  | _ => False
set_option maxHeartbeats 0 in
theorem ok__law_right (T : Txt K mg) (D0 : Dfn K mg "_law_right" "_law_right" s__law_right ["pot"] []) (C__law_single_right : Cal P w K mg base tabs "_law_single_right" 8 1 ["pot"] [] sp__law_single_right) (C__law_pair_right : Cal P w K mg base tabs "_law_pair_right" 9 1 ["pot"] [] sp__law_pair_right) : Cal P w K mg base tabs "_law_right" 10 1 ["pot"] [] sp__law_right := by
  refine cal_of D0 sc__law_right fun f cdv A outer s H E p ht hg hk hr => ⟨_, (pdss_cons (pds_for rfl PassesOwn.never (pdi_rg1 T.b_range (pda_cons pd_int pda_nil)) (pdg_name (i := 1) sc__law_right.nd rfl (Or.inl rfl)) (pdss_one (pds_if (pdw_t (pdw_or (pdt_not (pdt_val (pdcC (C__law_pair_right.cal ht) hg hr (pda_cons (pd_var 0) pda_nil)))) (pdw_or1 (pdt_not (pdt_val (pdcC (C__law_single_right.cal ht) hg hr (pda_cons (pd_var 0) pda_nil))))))) (pdss_one (pds_ret pd_bl)) pdss_nil)))
      (pdss_one (pds_ret pd_bl))), ?_⟩
  intro ds R hl h; unfold sp__law_right at h; split at h
  all_goals (try exact False.elim h)
  all_goals clear hl hg hr hk ht
  simp (implicitDefEqProofs := false) (maxSteps := 3000000) only [xSeq, xIf, xRet, xRaise, xOf, xB, xBK, xAsg, xTry, xHeard, mD0, mD1, mD2, startD, List.map_cons, List.map_nil, List.length_cons, List.length_nil, List.replicate, List.cons_append, List.nil_append, Nat.reduceAdd, Nat.reduceSub, Nat.zero_add, dSeq, dIfS, dOr, dAnd, dNot, dTst, dOp, dUn, dVar, dC, dB, dBK, dCons, dNil, dTup, dLst, dRet, dRetN, dRetF, dRetO, dBO, dFr, dRepL, dCatL, dRev, dRevL, dSlO, dCatO, cSorted, SpO.sp, dNext, dNever, dAsg, dPar, dPar3, dParO, dIf, dAndV, dOrV, dNotV, dCh, dCt, cLast, cLink, tLast, tLink, dDrop, dFor, dBrk, dCnt, dOwn, dApp, dExt, dFree, gPutO, dIxO, dLend, dLendT, dLcF, gN, gTu, gCn, gNl, gP0, gP1, gII, gIIc, gAdd, gNeg, gIx, gEq, gNe, gIs, gIsNot, gIn, gNotIn, gSl, oNone, oSome, gMt, gIndex, cTuple, cList, cI1, cI2, cInt, cLen, cMax, cMin, cMaxT, cMinT, dAug, cAll, cAny, cRepr, cSqrt, cIsi, tyN, isNon, kb_tt, kb_ii, kb_ib, kb_bi, kb_bb, kb_it, kb_bt, kb_nt, kb_ni, kb_lt, kb_li, kb_ti, kb_si, kb_st, kb_ss, rd, dTru, dRgN, dEnum, gMulT, gDivN, gDivNB, gEqF, dCallV, spOf, atD, ordD, dSq, dZip, dZipM, dZip3, zipD3_map, gShl, dParOO, zipD_map, ivD, dRg1, dRg2, dLc, dYes, dLcGo, dGen, dGenGo, wipeD, boolsOf, intsOf, maxL, minL, noL, noLs, Option.map_some, Option.bind_some, List.all_cons, List.all_nil, List.any_cons, List.any_nil, id_eq, List.set_cons_zero, List.set_cons_succ, List.getElem?_cons_zero, List.getElem?_cons_succ, List.getElem?_nil, List.getD_cons_zero, List.getD_cons_succ, decide_eq_true_eq, decide_eq_false_iff_not, Bool.not_eq_true', Bool.not_true, Bool.not_false, Bool.and_true, Bool.true_and, Bool.and_false, Bool.false_and, Bool.false_eq_true, if_true, if_false, reduceIte, ite_true, ite_false, true_and, and_true, reduceCtorEq, Int.toNat_zero, Int.toNat_one, Int.cast_ofNat_Int, Int.reduceLT, Int.reduceLE, Int.reduceNeg, Int.reduceToNat, Int.reducePow, Int.reduceMul, Int.reduceAdd, Int.reduceSub, decide_true, decide_false, sp__law_single_right, sp__law_pair_right]
  refine forInv (fun i τ => ∃ o, τ = [some .pot, o]) _ _ ⟨none, rfl⟩ ?_ ?_
  · rintro k i x τ hx hk ⟨o, rfl⟩
    simp (implicitDefEqProofs := false) (maxSteps := 3000000) only [xSeq, xIf, xRet, xRaise, xOf, xB, xBK, xAsg, xTry, xHeard, mD0, mD1, mD2, startD, List.map_cons, List.map_nil, List.length_cons, List.length_nil, List.replicate, List.cons_append, List.nil_append, Nat.reduceAdd, Nat.reduceSub, Nat.zero_add, dSeq, dIfS, dOr, dAnd, dNot, dTst, dOp, dUn, dVar, dC, dB, dBK, dCons, dNil, dTup, dLst, dRet, dRetN, dRetF, dRetO, dBO, dFr, dRepL, dCatL, dRev, dRevL, dSlO, dCatO, cSorted, SpO.sp, dNext, dNever, dAsg, dPar, dPar3, dParO, dIf, dAndV, dOrV, dNotV, dCh, dCt, cLast, cLink, tLast, tLink, dDrop, dFor, dBrk, dCnt, dOwn, dApp, dExt, dFree, gPutO, dIxO, dLend, dLendT, dLcF, gN, gTu, gCn, gNl, gP0, gP1, gII, gIIc, gAdd, gNeg, gIx, gEq, gNe, gIs, gIsNot, gIn, gNotIn, gSl, oNone, oSome, gMt, gIndex, cTuple, cList, cI1, cI2, cInt, cLen, cMax, cMin, cMaxT, cMinT, dAug, cAll, cAny, cRepr, cSqrt, cIsi, tyN, isNon, kb_tt, kb_ii, kb_ib, kb_bi, kb_bb, kb_it, kb_bt, kb_nt, kb_ni, kb_lt, kb_li, kb_ti, kb_si, kb_st, kb_ss, rd, dTru, dRgN, dEnum, gMulT, gDivN, gDivNB, gEqF, dCallV, spOf, atD, ordD, dSq, dZip, dZipM, dZip3, zipD3_map, gShl, dParOO, zipD_map, ivD, dRg1, dRg2, dLc, dYes, dLcGo, dGen, dGenGo, wipeD, boolsOf, intsOf, maxL, minL, noL, noLs, Option.map_some, Option.bind_some, List.all_cons, List.all_nil, List.any_cons, List.any_nil, id_eq, List.set_cons_zero, List.set_cons_succ, List.getElem?_cons_zero, List.getElem?_cons_succ, List.getElem?_nil, List.getD_cons_zero, List.getD_cons_succ, decide_eq_true_eq, decide_eq_false_iff_not, Bool.not_eq_true', Bool.not_true, Bool.not_false, Bool.and_true, Bool.true_and, Bool.and_false, Bool.false_and, Bool.false_eq_true, if_true, if_false, reduceIte, ite_true, ite_false, true_and, and_true, reduceCtorEq, Int.toNat_zero, Int.toNat_one, Int.cast_ofNat_Int, Int.reduceLT, Int.reduceLE, Int.reduceNeg, Int.reduceToNat, Int.reducePow, Int.reduceMul, Int.reduceAdd, Int.reduceSub, decide_true, decide_false, sp__law_single_right, sp__law_pair_right]
    exact hk _ ⟨_, rfl⟩
  · rintro τ ⟨o, rfl⟩
    simp (implicitDefEqProofs := false) (maxSteps := 3000000) only [xSeq, xIf, xRet, xRaise, xOf, xB, xBK, xAsg, xTry, xHeard, mD0, mD1, mD2, startD, List.map_cons, List.map_nil, List.length_cons, List.length_nil, List.replicate, List.cons_append, List.nil_append, Nat.reduceAdd, Nat.reduceSub, Nat.zero_add, dSeq, dIfS, dOr, dAnd, dNot, dTst, dOp, dUn, dVar, dC, dB, dBK, dCons, dNil, dTup, dLst, dRet, dRetN, dRetF, dRetO, dBO, dFr, dRepL, dCatL, dRev, dRevL, dSlO, dCatO, cSorted, SpO.sp, dNext, dNever, dAsg, dPar, dPar3, dParO, dIf, dAndV, dOrV, dNotV, dCh, dCt, cLast, cLink, tLast, tLink, dDrop, dFor, dBrk, dCnt, dOwn, dApp, dExt, dFree, gPutO, dIxO, dLend, dLendT, dLcF, gN, gTu, gCn, gNl, gP0, gP1, gII, gIIc, gAdd, gNeg, gIx, gEq, gNe, gIs, gIsNot, gIn, gNotIn, gSl, oNone, oSome, gMt, gIndex, cTuple, cList, cI1, cI2, cInt, cLen, cMax, cMin, cMaxT, cMinT, dAug, cAll, cAny, cRepr, cSqrt, cIsi, tyN, isNon, kb_tt, kb_ii, kb_ib, kb_bi, kb_bb, kb_it, kb_bt, kb_nt, kb_ni, kb_lt, kb_li, kb_ti, kb_si, kb_st, kb_ss, rd, dTru, dRgN, dEnum, gMulT, gDivN, gDivNB, gEqF, dCallV, spOf, atD, ordD, dSq, dZip, dZipM, dZip3, zipD3_map, gShl, dParOO, zipD_map, ivD, dRg1, dRg2, dLc, dYes, dLcGo, dGen, dGenGo, wipeD, boolsOf, intsOf, maxL, minL, noL, noLs, Option.map_some, Option.bind_some, List.all_cons, List.all_nil, List.any_cons, List.any_nil, id_eq, List.set_cons_zero, List.set_cons_succ, List.getElem?_cons_zero, List.getElem?_cons_succ, List.getElem?_nil, List.getD_cons_zero, List.getD_cons_succ, decide_eq_true_eq, decide_eq_false_iff_not, Bool.not_eq_true', Bool.not_true, Bool.not_false, Bool.and_true, Bool.true_and, Bool.and_false, Bool.false_and, Bool.false_eq_true, if_true, if_false, reduceIte, ite_true, ite_false, true_and, and_true, reduceCtorEq, Int.toNat_zero, Int.toNat_one, Int.cast_ofNat_Int, Int.reduceLT, Int.reduceLE, Int.reduceNeg, Int.reduceToNat, Int.reducePow, Int.reduceMul, Int.reduceAdd, Int.reduceSub, decide_true, decide_false, sp__law_single_right, sp__law_pair_right]
    exact h
end
section
variable {P : Program} {w : World} {K : PySem.W.Frag} {mg : Str → Option Value} {base : Heap} {tabs : Tf}
def spPot (K : PySem.W.Frag) : Sp := fun vs H Q _ => ∃ (a : Addr) (ns : List Int), vs = [.ref a, .int 0] ∧ SqL K H a (ns.map V.int) ∧
  ∀ (p : Addr) (x y : Int), H p = none → 0 ≤ x → 0 ≤ y → y < 4294967296 → Q (.ref p) (upd H p (.lst [.int x, .int y]))
def spLaw (K : PySem.W.Frag) (tabs : Tf) : Sp := fun vs H Q _ => ∃ (a : Addr) (ns : List Int), vs = [.ref a] ∧ SqL K H a (ns.map V.int) ∧ (∀ t ∈ tabs.tabs, H t = some (.tbl #[])) ∧ (∀ t ∈ tabs.lts, H t.1 = some (.tbl #[])) ∧ (∀ t ∈ tabs.lts, t.1 ∉ tabs.tabs) ∧ ∀ H', Q (.bl true) H'
theorem raw_pot {f : Addr} {fd : FuncData} (T : Txt K mg) (F : Fun K "_law_pot" "_law_pot" s__law_pot f fd) : FnG P w K mg base CX0 1 f fd ["script", "k"] (spPot K) := by
  refine funG F sc__law_pot (fun vs H Q E h => ?_) fun cdv A outer s H vs Q E _ hg hk hr h => ?_
  · obtain ⟨a, ns, rfl, _⟩ := h
    rfl
  obtain ⟨a, ns, rfl, hS, k⟩ := h
  refine ⟨_, (pss_cons (ps_set (i := 2) sc__law_pot.nd rfl (Or.inl rfl) (pe_op op_add (pe_op op_mul pe_int (pv 1)) pe_int)) (pss_cons (ps_if (pt_cmpR op_lt (pv 1) (pe_callB call_len_seq (by rfl) T.b_len PySem.boot_len (pa_cons (pv 0) pa_nil)) (nomark _)) (pss_one (ps_set (i := 2) sc__law_pot.nd rfl (Or.inl rfl) (pe_callB call_abs (by rfl) T.b_abs PyProof.Rows.boot_abs (pa_cons (pe_ix ix_list (pv 0) (pv 1) (fun _ _ => rfl)) pa_nil)))) pss_nil) (pss_one (ps_ret (pe_lst (pa_cons (pe_callB (call_max2 rfl) (by rfl) T.b_max PyProof.Rows.boot_max (pa_cons pe_int (pa_cons (pe_op op_sub (pv 2) (pe_op op_pow pe_int pe_int)) pa_nil))) (pa_cons (pe_op op_add (pe_op op_mod (pe_op op_mul (pe_callTy call_int1 (by rfl) T.b_int PyProof.Rows.boot_int (pa_cons (pe_op op_add (pe_op op_mod (pe_callTy call_int1 (by rfl) T.b_int PyProof.Rows.boot_int (pa_cons (pv 2) pa_nil)) pe_int) pe_int) pa_nil)) (pe_op op_pow (pe_op op_add (pe_op op_mul pe_int (pv 1)) pe_int) pe_int)) pe_int) pe_int) pa_nil))))))), ?_⟩
  simp only [tSeq, tAsg, tOp, rI0, rI, tC, tVar, gName, tIfS, tTest, tCB, tCons, tNil, tRet, tLst, tNext, rIxL, L2.start, List.map_cons, List.map_nil, List.length_cons, List.length_nil, List.replicate, List.cons_append, List.nil_append, Nat.reduceAdd, Nat.reduceSub, List.getElem?_cons_zero, List.getElem?_cons_succ, List.set_cons_zero, List.set_cons_succ]
  repeat (first | refine ⟨_, _, rfl, rfl, ?_⟩ | refine ⟨_, _, rfl, .inl hS, ?_⟩ | refine ⟨_, rfl, ?_⟩ | refine ⟨(.inl ⟨by decide, by decide⟩ : CMul _ _), ?_⟩ | refine ⟨(⟨by decide, by decide, by decide⟩ : CPow _ _), ?_⟩)
  refine ite2P (fun h0 => ?_) (fun h0 => ?_)
  · have h1 : 0 < (ns.map V.int).length := by have := of_decide_eq_true h0; omega
    obtain ⟨n, hn⟩ : ∃ n : Int, (ns.map V.int)[0]? = some (V.int n) := by
      cases ns with
      | nil => simp at h1
      | cons n ns => exact ⟨n, rfl⟩
    refine ⟨_, rfl, _, rfl, a, _, 0, V.int n, rfl, rfl, hS, atI_nat hn, ?_⟩
    repeat (first | refine ⟨_, _, rfl, rfl, ?_⟩ | refine ⟨_, _, rfl, ?_⟩ | refine .inl ⟨_, rfl, ?_⟩ | refine ⟨_, rfl, ?_⟩ | refine ⟨(.inl ⟨by decide, by decide⟩ : CMul _ _), ?_⟩ | refine ⟨(.inr ⟨by decide, by decide⟩ : CMul _ _), ?_⟩ | refine ⟨(⟨by decide, by decide, by decide⟩ : CPow _ _), ?_⟩ | refine ⟨(by decide : (0 : Int) < _), ?_⟩ | refine ⟨(by show 2 ≤ sizeLine; decide), ?_⟩)
    refine fun p hp => k p _ _ hp (by split <;> omega) ?_ ?_
    · exact pot_lo (by decide)
    · exact pot_hi (by decide) (by decide)
  · repeat (first | refine ⟨_, _, rfl, rfl, ?_⟩ | refine ⟨_, _, rfl, ?_⟩ | refine .inl ⟨_, rfl, ?_⟩ | refine ⟨_, rfl, ?_⟩ | refine ⟨(.inl ⟨by decide, by decide⟩ : CMul _ _), ?_⟩ | refine ⟨(.inr ⟨by decide, by decide⟩ : CMul _ _), ?_⟩ | refine ⟨(⟨by decide, by decide, by decide⟩ : CPow _ _), ?_⟩ | refine ⟨(by decide : (0 : Int) < _), ?_⟩ | refine ⟨(by show 2 ≤ sizeLine; decide), ?_⟩)
    refine fun p hp => k p _ _ hp (by split <;> omega) ?_ ?_
    · exact pot_lo (by decide)
    · exact pot_hi (by decide) (by decide)
theorem raw_law {f : Addr} {fd : FuncData} {f1 : Addr} {fd1 : FuncData} (F : Fun K "law" "law" s_law f fd) (F1 : FnG P w K mg base CX0 1 f1 fd1 ["script", "k"] (spPot K)) (b1 : Binds K fd1 ["script", "k"] []) (m1 : mg "_law_pot" = some (.ref f1)) (k1 : PySem.W.keepIn K (.ref f1) = true)
    (C : Cal P w K mg base tabs "_law_right" 10 1 ["pot"] [] sp__law_right) : FnG P w K mg base CX0 11 f fd ["script"] (spLaw K tabs) := by
  obtain ⟨f2, fd2, F2, m2, k2, b2, _⟩ := C.ex
  refine funG F sc_law (fun vs H Q E h => ?_) fun cdv A outer s H vs Q E _ hg hk hr h => ?_
  · obtain ⟨a, ns, rfl, _⟩ := h
    rfl
  obtain ⟨a, ns, rfl, hS, hT, hL, hN, k⟩ := h
  refine ⟨_, pss_one (ps_ret (pe_callG F2 hg hr pass0 (by rfl) m2 k2 b2 (pa_cons (pe_callG F1 hg (hr.mono (by decide)) pass0 (by rfl) m1 k1 b1 (pa_cons (pv 0) (pa_cons pe_int pa_nil))) pa_nil))), ?_⟩
  refine ⟨_, rfl, a, ns, rfl, hS, fun p x y hp h0 h1 h2 => ?_⟩
  refine ⟨rfl, p, [], [.pot], fun d => d = .bl true, ⟨⟨⟨x, y, h0, h1, h2, upd_same⟩, fun t ht => ⟨#[], ?_, True.intro⟩, fun t ht => LamX.TabS.nil ?_, fun t ht => ⟨fun e => ?_, hN t ht⟩⟩, fun b hb => absurd hb List.not_mem_nil⟩, .cons .pot .nil, rfl, fun z v H' _ i e => ?_⟩
  · have e1 := hT t ht
    rw [upd_ne fun e => by rw [e, hp] at e1; cases e1]
    exact e1
  · have e1 := hL t ht
    rw [upd_ne fun e => by rw [e, hp] at e1; cases e1]
    exact e1
  · have e1 := hL t ht
    rw [e, hp] at e1
    cases e1
  · subst e
    cases i
    exact k H'
end
theorem kb_halves {K : PySem.W.Frag} {f : Addr} (fd : FuncData) (F : Fun K "halves" "halves" s_halves f fd) : ∀ q ∈ ([(["interval"], 0, [0])] : List (List Str × Nat × List Nat)), BindK K fd ["interval"] q.1 q.2.1 q.2.2 := by
  intro q hq
  have e := List.mem_singleton.mp hq
  subst e
  exact bindK_of F fun kV doc pm an cdv ct us ws h1 h2 => match us, ws, h1, h2 with
      | [], [w0], _, _ => ⟨[w0], rfl, rfl, rfl, fun i j e => by
        match i, e with
        | 0, e => cases e; exact ⟨rfl, by simp⟩
        | (t + 1), e => simp at e⟩
theorem kb_holds_ratio {K : PySem.W.Frag} {f : Addr} (fd : FuncData) (F : Fun K "holds_ratio" "holds_ratio" s_holds_ratio f fd) : ∀ q ∈ ([(["ratio", "interval"], 0, [1, 0])] : List (List Str × Nat × List Nat)), BindK K fd ["interval", "ratio"] q.1 q.2.1 q.2.2 := by
  intro q hq
  have e := List.mem_singleton.mp hq
  subst e
  exact bindK_of F fun kV doc pm an cdv ct us ws h1 h2 => match us, ws, h1, h2 with
      | [], [w0, w1], _, _ => ⟨[w1, w0], rfl, rfl, rfl, fun i j e => by
        match i, e with
        | 0, e => cases e; exact ⟨rfl, by simp⟩
        | 1, e => cases e; exact ⟨rfl, by simp⟩
        | (t + 2), e => simp at e⟩
theorem kb_hull {K : PySem.W.Frag} {f : Addr} (fd : FuncData) (F : Fun K "hull" "hull" s_hull f fd) : ∀ q ∈ ([(["other", "one"], 0, [1, 0])] : List (List Str × Nat × List Nat)), BindK K fd ["one", "other"] q.1 q.2.1 q.2.2 := by
  intro q hq
  have e := List.mem_singleton.mp hq
  subst e
  exact bindK_of F fun kV doc pm an cdv ct us ws h1 h2 => match us, ws, h1, h2 with
      | [], [w0, w1], _, _ => ⟨[w1, w0], rfl, rfl, rfl, fun i j e => by
        match i, e with
        | 0, e => cases e; exact ⟨rfl, by simp⟩
        | 1, e => cases e; exact ⟨rfl, by simp⟩
        | (t + 2), e => simp at e⟩
theorem kb_middle {K : PySem.W.Frag} {f : Addr} (fd : FuncData) (F : Fun K "middle" "middle" s_middle f fd) : ∀ q ∈ ([(["interval"], 0, [0])] : List (List Str × Nat × List Nat)), BindK K fd ["interval"] q.1 q.2.1 q.2.2 := by
  intro q hq
  have e := List.mem_singleton.mp hq
  subst e
  exact bindK_of F fun kV doc pm an cdv ct us ws h1 h2 => match us, ws, h1, h2 with
      | [], [w0], _, _ => ⟨[w0], rfl, rfl, rfl, fun i j e => by
        match i, e with
        | 0, e => cases e; exact ⟨rfl, by simp⟩
        | (t + 1), e => simp at e⟩
theorem kb_minus {K : PySem.W.Frag} {f : Addr} (fd : FuncData) (F : Fun K "minus" "minus" s_minus f fd) : ∀ q ∈ ([(["other", "one"], 0, [1, 0])] : List (List Str × Nat × List Nat)), BindK K fd ["one", "other"] q.1 q.2.1 q.2.2 := by
  intro q hq
  have e := List.mem_singleton.mp hq
  subst e
  exact bindK_of F fun kV doc pm an cdv ct us ws h1 h2 => match us, ws, h1, h2 with
      | [], [w0, w1], _, _ => ⟨[w1, w0], rfl, rfl, rfl, fun i j e => by
        match i, e with
        | 0, e => cases e; exact ⟨rfl, by simp⟩
        | 1, e => cases e; exact ⟨rfl, by simp⟩
        | (t + 2), e => simp at e⟩
theorem kb_over {K : PySem.W.Frag} {f : Addr} (fd : FuncData) (F : Fun K "over" "over" s_over f fd) : ∀ q ∈ ([(["other", "one"], 0, [1, 0])] : List (List Str × Nat × List Nat)), BindK K fd ["one", "other"] q.1 q.2.1 q.2.2 := by
  intro q hq
  have e := List.mem_singleton.mp hq
  subst e
  exact bindK_of F fun kV doc pm an cdv ct us ws h1 h2 => match us, ws, h1, h2 with
      | [], [w0, w1], _, _ => ⟨[w1, w0], rfl, rfl, rfl, fun i j e => by
        match i, e with
        | 0, e => cases e; exact ⟨rfl, by simp⟩
        | 1, e => cases e; exact ⟨rfl, by simp⟩
        | (t + 2), e => simp at e⟩
theorem kb_plus {K : PySem.W.Frag} {f : Addr} (fd : FuncData) (F : Fun K "plus" "plus" s_plus f fd) : ∀ q ∈ ([(["other", "one"], 0, [1, 0])] : List (List Str × Nat × List Nat)), BindK K fd ["one", "other"] q.1 q.2.1 q.2.2 := by
  intro q hq
  have e := List.mem_singleton.mp hq
  subst e
  exact bindK_of F fun kV doc pm an cdv ct us ws h1 h2 => match us, ws, h1, h2 with
      | [], [w0, w1], _, _ => ⟨[w1, w0], rfl, rfl, rfl, fun i j e => by
        match i, e with
        | 0, e => cases e; exact ⟨rfl, by simp⟩
        | 1, e => cases e; exact ⟨rfl, by simp⟩
        | (t + 2), e => simp at e⟩
theorem kb_powered {K : PySem.W.Frag} {f : Addr} (fd : FuncData) (F : Fun K "powered" "powered" s_powered f fd) : ∀ q ∈ ([(["interval", "many"], 0, [0, 1])] : List (List Str × Nat × List Nat)), BindK K fd ["interval", "many"] q.1 q.2.1 q.2.2 := by
  intro q hq
  have e := List.mem_singleton.mp hq
  subst e
  exact bindK_of F fun kV doc pm an cdv ct us ws h1 h2 => match us, ws, h1, h2 with
      | [], [w0, w1], _, _ => ⟨[w0, w1], rfl, rfl, rfl, fun i j e => by
        match i, e with
        | 0, e => cases e; exact ⟨rfl, by simp⟩
        | 1, e => cases e; exact ⟨rfl, by simp⟩
        | (t + 2), e => simp at e⟩
theorem kb_scaled {K : PySem.W.Frag} {f : Addr} (fd : FuncData) (F : Fun K "scaled" "scaled" s_scaled f fd) : ∀ q ∈ ([(["interval", "ratio"], 0, [0, 1])] : List (List Str × Nat × List Nat)), BindK K fd ["interval", "ratio"] q.1 q.2.1 q.2.2 := by
  intro q hq
  have e := List.mem_singleton.mp hq
  subst e
  exact bindK_of F fun kV doc pm an cdv ct us ws h1 h2 => match us, ws, h1, h2 with
      | [], [w0, w1], _, _ => ⟨[w0, w1], rfl, rfl, rfl, fun i j e => by
        match i, e with
        | 0, e => cases e; exact ⟨rfl, by simp⟩
        | 1, e => cases e; exact ⟨rfl, by simp⟩
        | (t + 2), e => simp at e⟩
theorem kb_times {K : PySem.W.Frag} {f : Addr} (fd : FuncData) (F : Fun K "times" "times" s_times f fd) : ∀ q ∈ ([(["other", "one"], 0, [1, 0])] : List (List Str × Nat × List Nat)), BindK K fd ["one", "other"] q.1 q.2.1 q.2.2 := by
  intro q hq
  have e := List.mem_singleton.mp hq
  subst e
  exact bindK_of F fun kV doc pm an cdv ct us ws h1 h2 => match us, ws, h1, h2 with
      | [], [w0, w1], _, _ => ⟨[w1, w0], rfl, rfl, rfl, fun i j e => by
        match i, e with
        | 0, e => cases e; exact ⟨rfl, by simp⟩
        | 1, e => cases e; exact ⟨rfl, by simp⟩
        | (t + 2), e => simp at e⟩
theorem kb_width {K : PySem.W.Frag} {f : Addr} (fd : FuncData) (F : Fun K "width" "width" s_width f fd) : ∀ q ∈ ([(["interval"], 0, [0])] : List (List Str × Nat × List Nat)), BindK K fd ["interval"] q.1 q.2.1 q.2.2 := by
  intro q hq
  have e := List.mem_singleton.mp hq
  subst e
  exact bindK_of F fun kV doc pm an cdv ct us ws h1 h2 => match us, ws, h1, h2 with
      | [], [w0], _, _ => ⟨[w0], rfl, rfl, rfl, fun i j e => by
        match i, e with
        | 0, e => cases e; exact ⟨rfl, by simp⟩
        | (t + 1), e => simp at e⟩
theorem kb_within {K : PySem.W.Frag} {f : Addr} (fd : FuncData) (F : Fun K "within" "within" s_within f fd) : ∀ q ∈ ([(["other", "one"], 0, [1, 0])] : List (List Str × Nat × List Nat)), BindK K fd ["one", "other"] q.1 q.2.1 q.2.2 := by
  intro q hq
  have e := List.mem_singleton.mp hq
  subst e
  exact bindK_of F fun kV doc pm an cdv ct us ws h1 h2 => match us, ws, h1, h2 with
      | [], [w0, w1], _, _ => ⟨[w1, w0], rfl, rfl, rfl, fun i j e => by
        match i, e with
        | 0, e => cases e; exact ⟨rfl, by simp⟩
        | 1, e => cases e; exact ⟨rfl, by simp⟩
        | (t + 2), e => simp at e⟩
set_option maxHeartbeats 0 in
theorem all_mk {l : PySem.W.OpenLaw} {w : World} {K : PySem.W.Frag} {h : Heap} {mg : Str → Option Value} {fa : Addr} (X : K.In h) (G : h.Ns mainGlobals mg) (hfa : mg "law" = some (.ref fa))
    {gc57 gp57 gc58 gp58 : Addr} {ge57 ge58 : Value} {gd57 gd58 : Option Addr} {gv57 gv58 : Array Value} {gs57 gs58 : Array (Option Value)}
    {f0 f1 f2 f3 f4 f5 f6 f7 f8 f9 f10 f11 f12 f13 f14 f15 f16 f17 f18 f19 f20 f21 f22 f23 f24 f25 f26 f27 f28 f29 f30 f31 f32 f33 f34 f35 f36 f37 f38 f39 f40 f41 f42 f43 f44 f45 f46 f47 f48 f49 f50 f51 f52 f53 f54 f55 f56 f57 f58 f59 f60 f61 f62 : Addr} {od0 an0 od1 an1 od2 an2 od3 an3 od4 an4 od5 an5 od6 an6 od7 an7 od8 an8 od9 an9 od10 an10 od11 an11 od12 an12 od13 an13 od14 an14 od15 an15 od16 an16 od17 an17 od18 an18 od19 an19 od20 an20 od21 an21 od22 an22 od23 an23 od24 an24 od25 an25 od26 an26 od27 an27 od28 an28 od29 an29 od30 an30 od31 an31 od32 an32 od33 an33 od34 an34 od35 an35 od36 an36 od37 an37 od38 an38 od39 an39 od40 an40 od41 an41 od42 an42 od43 an43 od44 an44 od45 an45 od46 an46 od47 an47 od48 an48 od49 an49 od50 an50 od51 an51 od52 an52 od53 an53 od54 an54 od55 an55 od56 an56 od57 an57 od58 an58 od59 an59 od60 an60 od61 an61 od62 an62 : Option Addr} {sl0 sl1 sl2 sl3 sl4 sl5 sl6 sl7 sl8 sl9 sl10 sl11 sl12 sl13 sl14 sl15 sl16 sl17 sl18 sl19 sl20 sl21 sl22 sl23 sl24 sl25 sl26 sl27 sl28 sl29 sl30 sl31 sl32 sl33 sl34 sl35 sl36 sl37 sl38 sl39 sl40 sl41 sl42 sl43 sl44 sl45 sl46 sl47 sl48 sl49 sl50 sl51 sl52 sl53 sl54 sl55 sl56 sl57 sl58 sl59 sl60 sl61 sl62 : Array (Option Value)} {oc0 kV0 dc0 pm0 cd0 ct0 oc1 kV1 dc1 pm1 cd1 ct1 oc2 kV2 dc2 pm2 cd2 ct2 oc3 kV3 dc3 pm3 cd3 ct3 oc4 kV4 dc4 pm4 cd4 ct4 oc5 kV5 dc5 pm5 cd5 ct5 oc6 kV6 dc6 pm6 cd6 ct6 oc7 kV7 dc7 pm7 cd7 ct7 oc8 kV8 dc8 pm8 cd8 ct8 oc9 kV9 dc9 pm9 cd9 ct9 oc10 kV10 dc10 pm10 cd10 ct10 oc11 kV11 dc11 pm11 cd11 ct11 oc12 kV12 dc12 pm12 cd12 ct12 oc13 kV13 dc13 pm13 cd13 ct13 oc14 kV14 dc14 pm14 cd14 ct14 oc15 kV15 dc15 pm15 cd15 ct15 oc16 kV16 dc16 pm16 cd16 ct16 oc17 kV17 dc17 pm17 cd17 ct17 oc18 kV18 dc18 pm18 cd18 ct18 oc19 kV19 dc19 pm19 cd19 ct19 oc20 kV20 dc20 pm20 cd20 ct20 oc21 kV21 dc21 pm21 cd21 ct21 oc22 kV22 dc22 pm22 cd22 ct22 oc23 kV23 dc23 pm23 cd23 ct23 oc24 kV24 dc24 pm24 cd24 ct24 oc25 kV25 dc25 pm25 cd25 ct25 oc26 kV26 dc26 pm26 cd26 ct26 oc27 kV27 dc27 pm27 cd27 ct27 oc28 kV28 dc28 pm28 cd28 ct28 oc29 kV29 dc29 pm29 cd29 ct29 oc30 kV30 dc30 pm30 cd30 ct30 oc31 kV31 dc31 pm31 cd31 ct31 oc32 kV32 dc32 pm32 cd32 ct32 oc33 kV33 dc33 pm33 cd33 ct33 oc34 kV34 dc34 pm34 cd34 ct34 oc35 kV35 dc35 pm35 cd35 ct35 oc36 kV36 dc36 pm36 cd36 ct36 oc37 kV37 dc37 pm37 cd37 ct37 oc38 kV38 dc38 pm38 cd38 ct38 oc39 kV39 dc39 pm39 cd39 ct39 oc40 kV40 dc40 pm40 cd40 ct40 oc41 kV41 dc41 pm41 cd41 ct41 oc42 kV42 dc42 pm42 cd42 ct42 oc43 kV43 dc43 pm43 cd43 ct43 oc44 kV44 dc44 pm44 cd44 ct44 oc45 kV45 dc45 pm45 cd45 ct45 oc46 kV46 dc46 pm46 cd46 ct46 oc47 kV47 dc47 pm47 cd47 ct47 oc48 kV48 dc48 pm48 cd48 ct48 oc49 kV49 dc49 pm49 cd49 ct49 oc50 kV50 dc50 pm50 cd50 ct50 oc51 kV51 dc51 pm51 cd51 ct51 oc52 kV52 dc52 pm52 cd52 ct52 oc53 kV53 dc53 pm53 cd53 ct53 oc54 kV54 dc54 pm54 cd54 ct54 oc55 kV55 dc55 pm55 cd55 ct55 oc56 kV56 dc56 pm56 cd56 ct56 oc57 kV57 dc57 pm57 ct57 oc58 kV58 dc58 pm58 ct58 oc59 kV59 dc59 pm59 cd59 ct59 oc60 kV60 dc60 pm60 cd60 ct60 oc61 kV61 dc61 pm61 cd61 ct61 oc62 kV62 dc62 pm62 cd62 ct62 : Value}
    {t_MOST_GRAINS t_ONE t__MOST_POWER : Tok}
    {a_WHOLE : Addr} {t_WHOLE u_WHOLE : Tok} {d_WHOLE : Option Addr} {m_WHOLE : Nat} {s_WHOLE : Array (Option Value)}
    (a0 : PySem.W.nsIn K mainGlobals "is_integer" = some (some (.ref f0))) (l0 : K.lookup f0 = some ⟨oc0, od0, .func (PySem.W.fnOf "is_integer" "is_integer" (defArgs s_is_integer) (defBody s_is_integer) (defScope s_is_integer) .none kV0 dc0 pm0 an0 cd0 ct0), sl0⟩) (c0 : PySem.W.codeIn K cd0 "is_integer" = true) (k0 : PySem.W.keepIn K (.ref f0) = true)
    (a1 : PySem.W.nsIn K mainGlobals "is_interval" = some (some (.ref f1))) (l1 : K.lookup f1 = some ⟨oc1, od1, .func (PySem.W.fnOf "is_interval" "is_interval" (defArgs s_is_interval) (defBody s_is_interval) (defScope s_is_interval) .none kV1 dc1 pm1 an1 cd1 ct1), sl1⟩) (c1 : PySem.W.codeIn K cd1 "is_interval" = true) (k1 : PySem.W.keepIn K (.ref f1) = true)
    (a2 : PySem.W.nsIn K mainGlobals "check_interval" = some (some (.ref f2))) (l2 : K.lookup f2 = some ⟨oc2, od2, .func (PySem.W.fnOf "check_interval" "check_interval" (defArgs s_check_interval) (defBody s_check_interval) (defScope s_check_interval) .none kV2 dc2 pm2 an2 cd2 ct2), sl2⟩) (c2 : PySem.W.codeIn K cd2 "check_interval" = true) (k2 : PySem.W.keepIn K (.ref f2) = true)
    (a3 : PySem.W.nsIn K mainGlobals "_check_both" = some (some (.ref f3))) (l3 : K.lookup f3 = some ⟨oc3, od3, .func (PySem.W.fnOf "_check_both" "_check_both" (defArgs s__check_both) (defBody s__check_both) (defScope s__check_both) .none kV3 dc3 pm3 an3 cd3 ct3), sl3⟩) (c3 : PySem.W.codeIn K cd3 "_check_both" = true) (k3 : PySem.W.keepIn K (.ref f3) = true)
    (a4 : PySem.W.nsIn K mainGlobals "in_bounds" = some (some (.ref f4))) (l4 : K.lookup f4 = some ⟨oc4, od4, .func (PySem.W.fnOf "in_bounds" "in_bounds" (defArgs s_in_bounds) (defBody s_in_bounds) (defScope s_in_bounds) .none kV4 dc4 pm4 an4 cd4 ct4), sl4⟩) (c4 : PySem.W.codeIn K cd4 "in_bounds" = true) (k4 : PySem.W.keepIn K (.ref f4) = true)
    (a5 : PySem.W.nsIn K mainGlobals "grain_times" = some (some (.ref f5))) (l5 : K.lookup f5 = some ⟨oc5, od5, .func (PySem.W.fnOf "grain_times" "grain_times" (defArgs s_grain_times) (defBody s_grain_times) (defScope s_grain_times) .none kV5 dc5 pm5 an5 cd5 ct5), sl5⟩) (c5 : PySem.W.codeIn K cd5 "grain_times" = true) (k5 : PySem.W.keepIn K (.ref f5) = true)
    (a6 : PySem.W.nsIn K mainGlobals "times" = some (some (.ref f6))) (l6 : K.lookup f6 = some ⟨oc6, od6, .func (PySem.W.fnOf "times" "times" (defArgs s_times) (defBody s_times) (defScope s_times) .none kV6 dc6 pm6 an6 cd6 ct6), sl6⟩) (c6 : PySem.W.codeIn K cd6 "times" = true) (k6 : PySem.W.keepIn K (.ref f6) = true)
    (a7 : PySem.W.nsIn K mainGlobals "floor_of" = some (some (.ref f7))) (l7 : K.lookup f7 = some ⟨oc7, od7, .func (PySem.W.fnOf "floor_of" "floor_of" (defArgs s_floor_of) (defBody s_floor_of) (defScope s_floor_of) .none kV7 dc7 pm7 an7 cd7 ct7), sl7⟩) (c7 : PySem.W.codeIn K cd7 "floor_of" = true) (k7 : PySem.W.keepIn K (.ref f7) = true)
    (a8 : PySem.W.nsIn K mainGlobals "ceiling_of" = some (some (.ref f8))) (l8 : K.lookup f8 = some ⟨oc8, od8, .func (PySem.W.fnOf "ceiling_of" "ceiling_of" (defArgs s_ceiling_of) (defBody s_ceiling_of) (defScope s_ceiling_of) .none kV8 dc8 pm8 an8 cd8 ct8), sl8⟩) (c8 : PySem.W.codeIn K cd8 "ceiling_of" = true) (k8 : PySem.W.keepIn K (.ref f8) = true)
    (a9 : PySem.W.nsIn K mainGlobals "grain_hull" = some (some (.ref f9))) (l9 : K.lookup f9 = some ⟨oc9, od9, .func (PySem.W.fnOf "grain_hull" "grain_hull" (defArgs s_grain_hull) (defBody s_grain_hull) (defScope s_grain_hull) .none kV9 dc9 pm9 an9 cd9 ct9), sl9⟩) (c9 : PySem.W.codeIn K cd9 "grain_hull" = true) (k9 : PySem.W.keepIn K (.ref f9) = true)
    (a10 : PySem.W.nsIn K mainGlobals "grain_meet" = some (some (.ref f10))) (l10 : K.lookup f10 = some ⟨oc10, od10, .func (PySem.W.fnOf "grain_meet" "grain_meet" (defArgs s_grain_meet) (defBody s_grain_meet) (defScope s_grain_meet) .none kV10 dc10 pm10 an10 cd10 ct10), sl10⟩) (c10 : PySem.W.codeIn K cd10 "grain_meet" = true) (k10 : PySem.W.keepIn K (.ref f10) = true)
    (a11 : PySem.W.nsIn K mainGlobals "lies_within" = some (some (.ref f11))) (l11 : K.lookup f11 = some ⟨oc11, od11, .func (PySem.W.fnOf "lies_within" "lies_within" (defArgs s_lies_within) (defBody s_lies_within) (defScope s_lies_within) .none kV11 dc11 pm11 an11 cd11 ct11), sl11⟩) (c11 : PySem.W.codeIn K cd11 "lies_within" = true) (k11 : PySem.W.keepIn K (.ref f11) = true)
    (a12 : PySem.W.nsIn K mainGlobals "middle_of" = some (some (.ref f12))) (l12 : K.lookup f12 = some ⟨oc12, od12, .func (PySem.W.fnOf "middle_of" "middle_of" (defArgs s_middle_of) (defBody s_middle_of) (defScope s_middle_of) .none kV12 dc12 pm12 an12 cd12 ct12), sl12⟩) (c12 : PySem.W.codeIn K cd12 "middle_of" = true) (k12 : PySem.W.keepIn K (.ref f12) = true)
    (a13 : PySem.W.nsIn K mainGlobals "has_ratio" = some (some (.ref f13))) (l13 : K.lookup f13 = some ⟨oc13, od13, .func (PySem.W.fnOf "has_ratio" "has_ratio" (defArgs s_has_ratio) (defBody s_has_ratio) (defScope s_has_ratio) .none kV13 dc13 pm13 an13 cd13 ct13), sl13⟩) (c13 : PySem.W.codeIn K cd13 "has_ratio" = true) (k13 : PySem.W.keepIn K (.ref f13) = true)
    (a14 : PySem.W.nsIn K mainGlobals "is_from_to" = some (some (.ref f14))) (l14 : K.lookup f14 = some ⟨oc14, od14, .func (PySem.W.fnOf "is_from_to" "is_from_to" (defArgs s_is_from_to) (defBody s_is_from_to) (defScope s_is_from_to) .none kV14 dc14 pm14 an14 cd14 ct14), sl14⟩) (c14 : PySem.W.codeIn K cd14 "is_from_to" = true) (k14 : PySem.W.keepIn K (.ref f14) = true)
    (a15 : PySem.W.nsIn K mainGlobals "is_ratio" = some (some (.ref f15))) (l15 : K.lookup f15 = some ⟨oc15, od15, .func (PySem.W.fnOf "is_ratio" "is_ratio" (defArgs s_is_ratio) (defBody s_is_ratio) (defScope s_is_ratio) .none kV15 dc15 pm15 an15 cd15 ct15), sl15⟩) (c15 : PySem.W.codeIn K cd15 "is_ratio" = true) (k15 : PySem.W.keepIn K (.ref f15) = true)
    (a16 : PySem.W.nsIn K mainGlobals "_law_draw" = some (some (.ref f16))) (l16 : K.lookup f16 = some ⟨oc16, od16, .func (PySem.W.fnOf "_law_draw" "_law_draw" (defArgs s__law_draw) (defBody s__law_draw) (defScope s__law_draw) .none kV16 dc16 pm16 an16 cd16 ct16), sl16⟩) (c16 : PySem.W.codeIn K cd16 "_law_draw" = true) (k16 : PySem.W.keepIn K (.ref f16) = true)
    (a17 : PySem.W.nsIn K mainGlobals "_law_pick" = some (some (.ref f17))) (l17 : K.lookup f17 = some ⟨oc17, od17, .func (PySem.W.fnOf "_law_pick" "_law_pick" (defArgs s__law_pick) (defBody s__law_pick) (defScope s__law_pick) .none kV17 dc17 pm17 an17 cd17 ct17), sl17⟩) (c17 : PySem.W.codeIn K cd17 "_law_pick" = true) (k17 : PySem.W.keepIn K (.ref f17) = true)
    (a18 : PySem.W.nsIn K mainGlobals "_law_one" = some (some (.ref f18))) (l18 : K.lookup f18 = some ⟨oc18, od18, .func (PySem.W.fnOf "_law_one" "_law_one" (defArgs s__law_one) (defBody s__law_one) (defScope s__law_one) .none kV18 dc18 pm18 an18 cd18 ct18), sl18⟩) (c18 : PySem.W.codeIn K cd18 "_law_one" = true) (k18 : PySem.W.keepIn K (.ref f18) = true)
    (a19 : PySem.W.nsIn K mainGlobals "_law_gcd" = some (some (.ref f19))) (l19 : K.lookup f19 = some ⟨oc19, od19, .func (PySem.W.fnOf "_law_gcd" "_law_gcd" (defArgs s__law_gcd) (defBody s__law_gcd) (defScope s__law_gcd) .none kV19 dc19 pm19 an19 cd19 ct19), sl19⟩) (c19 : PySem.W.codeIn K cd19 "_law_gcd" = true) (k19 : PySem.W.keepIn K (.ref f19) = true)
    (a20 : PySem.W.nsIn K mainGlobals "_law_ratio" = some (some (.ref f20))) (l20 : K.lookup f20 = some ⟨oc20, od20, .func (PySem.W.fnOf "_law_ratio" "_law_ratio" (defArgs s__law_ratio) (defBody s__law_ratio) (defScope s__law_ratio) .none kV20 dc20 pm20 an20 cd20 ct20), sl20⟩) (c20 : PySem.W.codeIn K cd20 "_law_ratio" = true) (k20 : PySem.W.keepIn K (.ref f20) = true)
    (a21 : PySem.W.nsIn K mainGlobals "check_ratio" = some (some (.ref f21))) (l21 : K.lookup f21 = some ⟨oc21, od21, .func (PySem.W.fnOf "check_ratio" "check_ratio" (defArgs s_check_ratio) (defBody s_check_ratio) (defScope s_check_ratio) .none kV21 dc21 pm21 an21 cd21 ct21), sl21⟩) (c21 : PySem.W.codeIn K cd21 "check_ratio" = true) (k21 : PySem.W.keepIn K (.ref f21) = true)
    (a22 : PySem.W.nsIn K mainGlobals "holds_ratio" = some (some (.ref f22))) (l22 : K.lookup f22 = some ⟨oc22, od22, .func (PySem.W.fnOf "holds_ratio" "holds_ratio" (defArgs s_holds_ratio) (defBody s_holds_ratio) (defScope s_holds_ratio) .none kV22 dc22 pm22 an22 cd22 ct22), sl22⟩) (c22 : PySem.W.codeIn K cd22 "holds_ratio" = true) (k22 : PySem.W.keepIn K (.ref f22) = true)
    (a23 : PySem.W.nsIn K mainGlobals "hull" = some (some (.ref f23))) (l23 : K.lookup f23 = some ⟨oc23, od23, .func (PySem.W.fnOf "hull" "hull" (defArgs s_hull) (defBody s_hull) (defScope s_hull) .none kV23 dc23 pm23 an23 cd23 ct23), sl23⟩) (c23 : PySem.W.codeIn K cd23 "hull" = true) (k23 : PySem.W.keepIn K (.ref f23) = true)
    (a24 : PySem.W.nsIn K mainGlobals "meet" = some (some (.ref f24))) (l24 : K.lookup f24 = some ⟨oc24, od24, .func (PySem.W.fnOf "meet" "meet" (defArgs s_meet) (defBody s_meet) (defScope s_meet) .none kV24 dc24 pm24 an24 cd24 ct24), sl24⟩) (c24 : PySem.W.codeIn K cd24 "meet" = true) (k24 : PySem.W.keepIn K (.ref f24) = true)
    (a25 : PySem.W.nsIn K mainGlobals "within" = some (some (.ref f25))) (l25 : K.lookup f25 = some ⟨oc25, od25, .func (PySem.W.fnOf "within" "within" (defArgs s_within) (defBody s_within) (defScope s_within) .none kV25 dc25 pm25 an25 cd25 ct25), sl25⟩) (c25 : PySem.W.codeIn K cd25 "within" = true) (k25 : PySem.W.keepIn K (.ref f25) = true)
    (a26 : PySem.W.nsIn K mainGlobals "halves" = some (some (.ref f26))) (l26 : K.lookup f26 = some ⟨oc26, od26, .func (PySem.W.fnOf "halves" "halves" (defArgs s_halves) (defBody s_halves) (defScope s_halves) .none kV26 dc26 pm26 an26 cd26 ct26), sl26⟩) (c26 : PySem.W.codeIn K cd26 "halves" = true) (k26 : PySem.W.keepIn K (.ref f26) = true)
    (a27 : PySem.W.nsIn K mainGlobals "_law_small_ratio" = some (some (.ref f27))) (l27 : K.lookup f27 = some ⟨oc27, od27, .func (PySem.W.fnOf "_law_small_ratio" "_law_small_ratio" (defArgs s__law_small_ratio) (defBody s__law_small_ratio) (defScope s__law_small_ratio) .none kV27 dc27 pm27 an27 cd27 ct27), sl27⟩) (c27 : PySem.W.codeIn K cd27 "_law_small_ratio" = true) (k27 : PySem.W.keepIn K (.ref f27) = true)
    (a28 : PySem.W.nsIn K mainGlobals "grain_around" = some (some (.ref f28))) (l28 : K.lookup f28 = some ⟨oc28, od28, .func (PySem.W.fnOf "grain_around" "grain_around" (defArgs s_grain_around) (defBody s_grain_around) (defScope s_grain_around) .none kV28 dc28 pm28 an28 cd28 ct28), sl28⟩) (c28 : PySem.W.codeIn K cd28 "grain_around" = true) (k28 : PySem.W.keepIn K (.ref f28) = true)
    (a29 : PySem.W.nsIn K mainGlobals "grain_plus" = some (some (.ref f29))) (l29 : K.lookup f29 = some ⟨oc29, od29, .func (PySem.W.fnOf "grain_plus" "grain_plus" (defArgs s_grain_plus) (defBody s_grain_plus) (defScope s_grain_plus) .none kV29 dc29 pm29 an29 cd29 ct29), sl29⟩) (c29 : PySem.W.codeIn K cd29 "grain_plus" = true) (k29 : PySem.W.keepIn K (.ref f29) = true)
    (a30 : PySem.W.nsIn K mainGlobals "grain_minus" = some (some (.ref f30))) (l30 : K.lookup f30 = some ⟨oc30, od30, .func (PySem.W.fnOf "grain_minus" "grain_minus" (defArgs s_grain_minus) (defBody s_grain_minus) (defScope s_grain_minus) .none kV30 dc30 pm30 an30 cd30 ct30), sl30⟩) (c30 : PySem.W.codeIn K cd30 "grain_minus" = true) (k30 : PySem.W.keepIn K (.ref f30) = true)
    (a31 : PySem.W.nsIn K mainGlobals "grain_over" = some (some (.ref f31))) (l31 : K.lookup f31 = some ⟨oc31, od31, .func (PySem.W.fnOf "grain_over" "grain_over" (defArgs s_grain_over) (defBody s_grain_over) (defScope s_grain_over) .none kV31 dc31 pm31 an31 cd31 ct31), sl31⟩) (c31 : PySem.W.codeIn K cd31 "grain_over" = true) (k31 : PySem.W.keepIn K (.ref f31) = true)
    (a32 : PySem.W.nsIn K mainGlobals "integer_power" = some (some (.ref f32))) (l32 : K.lookup f32 = some ⟨oc32, od32, .func (PySem.W.fnOf "integer_power" "integer_power" (defArgs s_integer_power) (defBody s_integer_power) (defScope s_integer_power) .none kV32 dc32 pm32 an32 cd32 ct32), sl32⟩) (c32 : PySem.W.codeIn K cd32 "integer_power" = true) (k32 : PySem.W.keepIn K (.ref f32) = true)
    (a33 : PySem.W.nsIn K mainGlobals "grain_power" = some (some (.ref f33))) (l33 : K.lookup f33 = some ⟨oc33, od33, .func (PySem.W.fnOf "grain_power" "grain_power" (defArgs s_grain_power) (defBody s_grain_power) (defScope s_grain_power) .none kV33 dc33 pm33 an33 cd33 ct33), sl33⟩) (c33 : PySem.W.codeIn K cd33 "grain_power" = true) (k33 : PySem.W.keepIn K (.ref f33) = true)
    (a34 : PySem.W.nsIn K mainGlobals "grain_scaled" = some (some (.ref f34))) (l34 : K.lookup f34 = some ⟨oc34, od34, .func (PySem.W.fnOf "grain_scaled" "grain_scaled" (defArgs s_grain_scaled) (defBody s_grain_scaled) (defScope s_grain_scaled) .none kV34 dc34 pm34 an34 cd34 ct34), sl34⟩) (c34 : PySem.W.codeIn K cd34 "grain_scaled" = true) (k34 : PySem.W.keepIn K (.ref f34) = true)
    (a35 : PySem.W.nsIn K mainGlobals "around" = some (some (.ref f35))) (l35 : K.lookup f35 = some ⟨oc35, od35, .func (PySem.W.fnOf "around" "around" (defArgs s_around) (defBody s_around) (defScope s_around) .none kV35 dc35 pm35 an35 cd35 ct35), sl35⟩) (c35 : PySem.W.codeIn K cd35 "around" = true) (k35 : PySem.W.keepIn K (.ref f35) = true)
    (a36 : PySem.W.nsIn K mainGlobals "plus" = some (some (.ref f36))) (l36 : K.lookup f36 = some ⟨oc36, od36, .func (PySem.W.fnOf "plus" "plus" (defArgs s_plus) (defBody s_plus) (defScope s_plus) .none kV36 dc36 pm36 an36 cd36 ct36), sl36⟩) (c36 : PySem.W.codeIn K cd36 "plus" = true) (k36 : PySem.W.keepIn K (.ref f36) = true)
    (a37 : PySem.W.nsIn K mainGlobals "minus" = some (some (.ref f37))) (l37 : K.lookup f37 = some ⟨oc37, od37, .func (PySem.W.fnOf "minus" "minus" (defArgs s_minus) (defBody s_minus) (defScope s_minus) .none kV37 dc37 pm37 an37 cd37 ct37), sl37⟩) (c37 : PySem.W.codeIn K cd37 "minus" = true) (k37 : PySem.W.keepIn K (.ref f37) = true)
    (a38 : PySem.W.nsIn K mainGlobals "over" = some (some (.ref f38))) (l38 : K.lookup f38 = some ⟨oc38, od38, .func (PySem.W.fnOf "over" "over" (defArgs s_over) (defBody s_over) (defScope s_over) .none kV38 dc38 pm38 an38 cd38 ct38), sl38⟩) (c38 : PySem.W.codeIn K cd38 "over" = true) (k38 : PySem.W.keepIn K (.ref f38) = true)
    (a39 : PySem.W.nsIn K mainGlobals "powered" = some (some (.ref f39))) (l39 : K.lookup f39 = some ⟨oc39, od39, .func (PySem.W.fnOf "powered" "powered" (defArgs s_powered) (defBody s_powered) (defScope s_powered) .none kV39 dc39 pm39 an39 cd39 ct39), sl39⟩) (c39 : PySem.W.codeIn K cd39 "powered" = true) (k39 : PySem.W.keepIn K (.ref f39) = true)
    (a40 : PySem.W.nsIn K mainGlobals "scaled" = some (some (.ref f40))) (l40 : K.lookup f40 = some ⟨oc40, od40, .func (PySem.W.fnOf "scaled" "scaled" (defArgs s_scaled) (defBody s_scaled) (defScope s_scaled) .none kV40 dc40 pm40 an40 cd40 ct40), sl40⟩) (c40 : PySem.W.codeIn K cd40 "scaled" = true) (k40 : PySem.W.keepIn K (.ref f40) = true)
    (a41 : PySem.W.nsIn K mainGlobals "ratio_of" = some (some (.ref f41))) (l41 : K.lookup f41 = some ⟨oc41, od41, .func (PySem.W.fnOf "ratio_of" "ratio_of" (defArgs s_ratio_of) (defBody s_ratio_of) (defScope s_ratio_of) .none kV41 dc41 pm41 an41 cd41 ct41), sl41⟩) (c41 : PySem.W.codeIn K cd41 "ratio_of" = true) (k41 : PySem.W.keepIn K (.ref f41) = true)
    (a42 : PySem.W.nsIn K mainGlobals "ends_of" = some (some (.ref f42))) (l42 : K.lookup f42 = some ⟨oc42, od42, .func (PySem.W.fnOf "ends_of" "ends_of" (defArgs s_ends_of) (defBody s_ends_of) (defScope s_ends_of) .none kV42 dc42 pm42 an42 cd42 ct42), sl42⟩) (c42 : PySem.W.codeIn K cd42 "ends_of" = true) (k42 : PySem.W.keepIn K (.ref f42) = true)
    (a43 : PySem.W.nsIn K mainGlobals "width" = some (some (.ref f43))) (l43 : K.lookup f43 = some ⟨oc43, od43, .func (PySem.W.fnOf "width" "width" (defArgs s_width) (defBody s_width) (defScope s_width) .none kV43 dc43 pm43 an43 cd43 ct43), sl43⟩) (c43 : PySem.W.codeIn K cd43 "width" = true) (k43 : PySem.W.keepIn K (.ref f43) = true)
    (a44 : PySem.W.nsIn K mainGlobals "middle" = some (some (.ref f44))) (l44 : K.lookup f44 = some ⟨oc44, od44, .func (PySem.W.fnOf "middle" "middle" (defArgs s_middle) (defBody s_middle) (defScope s_middle) .none kV44 dc44 pm44 an44 cd44 ct44), sl44⟩) (c44 : PySem.W.codeIn K cd44 "middle" = true) (k44 : PySem.W.keepIn K (.ref f44) = true)
    (a45 : PySem.W.nsIn K mainGlobals "_law_top" = some (some (.ref f45))) (l45 : K.lookup f45 = some ⟨oc45, od45, .func (PySem.W.fnOf "_law_top" "_law_top" (defArgs s__law_top) (defBody s__law_top) (defScope s__law_top) .none kV45 dc45 pm45 an45 cd45 ct45), sl45⟩) (c45 : PySem.W.codeIn K cd45 "_law_top" = true) (k45 : PySem.W.keepIn K (.ref f45) = true)
    (a46 : PySem.W.nsIn K mainGlobals "_law_down" = some (some (.ref f46))) (l46 : K.lookup f46 = some ⟨oc46, od46, .func (PySem.W.fnOf "_law_down" "_law_down" (defArgs s__law_down) (defBody s__law_down) (defScope s__law_down) .none kV46 dc46 pm46 an46 cd46 ct46), sl46⟩) (c46 : PySem.W.codeIn K cd46 "_law_down" = true) (k46 : PySem.W.keepIn K (.ref f46) = true)
    (a47 : PySem.W.nsIn K mainGlobals "_law_up" = some (some (.ref f47))) (l47 : K.lookup f47 = some ⟨oc47, od47, .func (PySem.W.fnOf "_law_up" "_law_up" (defArgs s__law_up) (defBody s__law_up) (defScope s__law_up) .none kV47 dc47 pm47 an47 cd47 ct47), sl47⟩) (c47 : PySem.W.codeIn K cd47 "_law_up" = true) (k47 : PySem.W.keepIn K (.ref f47) = true)
    (a48 : PySem.W.nsIn K mainGlobals "_law_size" = some (some (.ref f48))) (l48 : K.lookup f48 = some ⟨oc48, od48, .func (PySem.W.fnOf "_law_size" "_law_size" (defArgs s__law_size) (defBody s__law_size) (defScope s__law_size) .none kV48 dc48 pm48 an48 cd48 ct48), sl48⟩) (c48 : PySem.W.codeIn K cd48 "_law_size" = true) (k48 : PySem.W.keepIn K (.ref f48) = true)
    (a49 : PySem.W.nsIn K mainGlobals "_law_number" = some (some (.ref f49))) (l49 : K.lookup f49 = some ⟨oc49, od49, .func (PySem.W.fnOf "_law_number" "_law_number" (defArgs s__law_number) (defBody s__law_number) (defScope s__law_number) .none kV49 dc49 pm49 an49 cd49 ct49), sl49⟩) (c49 : PySem.W.codeIn K cd49 "_law_number" = true) (k49 : PySem.W.keepIn K (.ref f49) = true)
    (a50 : PySem.W.nsIn K mainGlobals "_law_interval" = some (some (.ref f50))) (l50 : K.lookup f50 = some ⟨oc50, od50, .func (PySem.W.fnOf "_law_interval" "_law_interval" (defArgs s__law_interval) (defBody s__law_interval) (defScope s__law_interval) .none kV50 dc50 pm50 an50 cd50 ct50), sl50⟩) (c50 : PySem.W.codeIn K cd50 "_law_interval" = true) (k50 : PySem.W.keepIn K (.ref f50) = true)
    (a51 : PySem.W.nsIn K mainGlobals "_law_within" = some (some (.ref f51))) (l51 : K.lookup f51 = some ⟨oc51, od51, .func (PySem.W.fnOf "_law_within" "_law_within" (defArgs s__law_within) (defBody s__law_within) (defScope s__law_within) .none kV51 dc51 pm51 an51 cd51 ct51), sl51⟩) (c51 : PySem.W.codeIn K cd51 "_law_within" = true) (k51 : PySem.W.keepIn K (.ref f51) = true)
    (a52 : PySem.W.nsIn K mainGlobals "_law_rounded" = some (some (.ref f52))) (l52 : K.lookup f52 = some ⟨oc52, od52, .func (PySem.W.fnOf "_law_rounded" "_law_rounded" (defArgs s__law_rounded) (defBody s__law_rounded) (defScope s__law_rounded) .none kV52 dc52 pm52 an52 cd52 ct52), sl52⟩) (c52 : PySem.W.codeIn K cd52 "_law_rounded" = true) (k52 : PySem.W.keepIn K (.ref f52) = true)
    (a53 : PySem.W.nsIn K mainGlobals "_law_product_of" = some (some (.ref f53))) (l53 : K.lookup f53 = some ⟨oc53, od53, .func (PySem.W.fnOf "_law_product_of" "_law_product_of" (defArgs s__law_product_of) (defBody s__law_product_of) (defScope s__law_product_of) .none kV53 dc53 pm53 an53 cd53 ct53), sl53⟩) (c53 : PySem.W.codeIn K cd53 "_law_product_of" = true) (k53 : PySem.W.keepIn K (.ref f53) = true)
    (a54 : PySem.W.nsIn K mainGlobals "_law_power" = some (some (.ref f54))) (l54 : K.lookup f54 = some ⟨oc54, od54, .func (PySem.W.fnOf "_law_power" "_law_power" (defArgs s__law_power) (defBody s__law_power) (defScope s__law_power) .none kV54 dc54 pm54 an54 cd54 ct54), sl54⟩) (c54 : PySem.W.codeIn K cd54 "_law_power" = true) (k54 : PySem.W.keepIn K (.ref f54) = true)
    (a55 : PySem.W.nsIn K mainGlobals "_law_powered" = some (some (.ref f55))) (l55 : K.lookup f55 = some ⟨oc55, od55, .func (PySem.W.fnOf "_law_powered" "_law_powered" (defArgs s__law_powered) (defBody s__law_powered) (defScope s__law_powered) .none kV55 dc55 pm55 an55 cd55 ct55), sl55⟩) (c55 : PySem.W.codeIn K cd55 "_law_powered" = true) (k55 : PySem.W.keepIn K (.ref f55) = true)
    (a56 : PySem.W.nsIn K mainGlobals "_law_over" = some (some (.ref f56))) (l56 : K.lookup f56 = some ⟨oc56, od56, .func (PySem.W.fnOf "_law_over" "_law_over" (defArgs s__law_over) (defBody s__law_over) (defScope s__law_over) .none kV56 dc56 pm56 an56 cd56 ct56), sl56⟩) (c56 : PySem.W.codeIn K cd56 "_law_over" = true) (k56 : PySem.W.keepIn K (.ref f56) = true)
    (a57 : PySem.W.nsIn K mainGlobals "_law_pair_right" = some (some (.ref f57))) (l57 : K.lookup f57 = some ⟨oc57, od57, .func (PySem.W.fnOf "_law_pair_right" "_law_pair_right" (defArgs s__law_pair_right) (defBody s__law_pair_right) (defScope s__law_pair_right) .none kV57 dc57 pm57 an57 (.ref gc57) ct57), sl57⟩) (c57 : PySem.W.codeIn K (.ref gc57) "_law_pair_right" = true) (k57 : PySem.W.keepIn K (.ref f57) = true)
    (gl57 : K.lookup gc57 = some ⟨ge57, gd57, .fields gv57, gs57⟩) (gi57 : gv57[11]? = some (.ref gp57)) (gn57 : K.lookup gp57 = none) (go57 : OwnTab K mg h "_law_pair_right")
    (a58 : PySem.W.nsIn K mainGlobals "_law_single_right" = some (some (.ref f58))) (l58 : K.lookup f58 = some ⟨oc58, od58, .func (PySem.W.fnOf "_law_single_right" "_law_single_right" (defArgs s__law_single_right) (defBody s__law_single_right) (defScope s__law_single_right) .none kV58 dc58 pm58 an58 (.ref gc58) ct58), sl58⟩) (c58 : PySem.W.codeIn K (.ref gc58) "_law_single_right" = true) (k58 : PySem.W.keepIn K (.ref f58) = true)
    (gl58 : K.lookup gc58 = some ⟨ge58, gd58, .fields gv58, gs58⟩) (gi58 : gv58[11]? = some (.ref gp58)) (gn58 : K.lookup gp58 = none) (go58 : OwnTab K mg h "_law_single_right")
    (a59 : PySem.W.nsIn K mainGlobals "_law_right" = some (some (.ref f59))) (l59 : K.lookup f59 = some ⟨oc59, od59, .func (PySem.W.fnOf "_law_right" "_law_right" (defArgs s__law_right) (defBody s__law_right) (defScope s__law_right) .none kV59 dc59 pm59 an59 cd59 ct59), sl59⟩) (c59 : PySem.W.codeIn K cd59 "_law_right" = true) (k59 : PySem.W.keepIn K (.ref f59) = true)
    (a60 : PySem.W.nsIn K mainGlobals "_law_pot" = some (some (.ref f60))) (l60 : K.lookup f60 = some ⟨oc60, od60, .func (PySem.W.fnOf "_law_pot" "_law_pot" (defArgs s__law_pot) (defBody s__law_pot) (defScope s__law_pot) .none kV60 dc60 pm60 an60 cd60 ct60), sl60⟩) (c60 : PySem.W.codeIn K cd60 "_law_pot" = true) (k60 : PySem.W.keepIn K (.ref f60) = true)
    (a61 : PySem.W.nsIn K mainGlobals "law" = some (some (.ref f61))) (l61 : K.lookup f61 = some ⟨oc61, od61, .func (PySem.W.fnOf "law" "law" (defArgs s_law) (defBody s_law) (defScope s_law) .none kV61 dc61 pm61 an61 cd61 ct61), sl61⟩) (c61 : PySem.W.codeIn K cd61 "law" = true) (k61 : PySem.W.keepIn K (.ref f61) = true)
    (a62 : PySem.W.nsIn K mainGlobals "_law_heard" = some (some (.ref f62))) (l62 : K.lookup f62 = some ⟨oc62, od62, .func (PySem.W.fnOf "_law_heard" "_law_heard" (defArgs s__law_heard) (defBody s__law_heard) (defScope s__law_heard) .none kV62 dc62 pm62 an62 cd62 ct62), sl62⟩) (c62 : PySem.W.codeIn K cd62 "_law_heard" = true) (k62 : PySem.W.keepIn K (.ref f62) = true)
    (z_abs : PySem.W.nsIn K mainGlobals "abs" = some none)
    (z_bool : PySem.W.nsIn K mainGlobals "bool" = some none)
    (z_divmod : PySem.W.nsIn K mainGlobals "divmod" = some none)
    (z_int : PySem.W.nsIn K mainGlobals "int" = some none)
    (z_isinstance : PySem.W.nsIn K mainGlobals "isinstance" = some none)
    (z_len : PySem.W.nsIn K mainGlobals "len" = some none)
    (z_max : PySem.W.nsIn K mainGlobals "max" = some none)
    (z_min : PySem.W.nsIn K mainGlobals "min" = some none)
    (z_range : PySem.W.nsIn K mainGlobals "range" = some none)
    (z_repr : PySem.W.nsIn K mainGlobals "repr" = some none)
    (z_tuple : PySem.W.nsIn K mainGlobals "tuple" = some none)
    (n_gcd : PySem.W.nsIn K mainGlobals "gcd" = some (some (.builtin "math.gcd")))
    (n_MOST_GRAINS : PySem.W.nsIn K mainGlobals "MOST_GRAINS" = some (some (.int 1180591620717411303424 t_MOST_GRAINS)))
    (n_ONE : PySem.W.nsIn K mainGlobals "ONE" = some (some (.int 1099511627776 t_ONE)))
    (n__MOST_POWER : PySem.W.nsIn K mainGlobals "_MOST_POWER" = some (some (.int 40 t__MOST_POWER)))
    (n_WHOLE : PySem.W.nsIn K mainGlobals "WHOLE" = some (some (.ref a_WHOLE))) (q_WHOLE : K.lookup a_WHOLE = some ⟨.type "tuple", d_WHOLE, .seq #[.int 1099511627776 t_WHOLE, .int 1099511627776 u_WHOLE] m_WHOLE, s_WHOLE⟩)
    (XM_NoQuotient : ∀ base : Heap, Mk0 l.prog w K mg base "NoQuotient" 1)
    (XM_TooMany : ∀ base : Heap, Mk2 l.prog w K mg base "TooMany" "what" "limit" 1)
    (HE__law_heard : ∀ base : Heap, Hears l.prog w K mg base (⟨[], mg, [(gp57, (("_law_pair_right" ++ ".<locals>." : Str) ++ "<lambda>")), (gp58, (("_law_single_right" ++ ".<locals>." : Str) ++ "<lambda>"))]⟩ : Tf) "_law_heard" "call" "TooMany" "what" "limit" "grains" "wrong" 1180591620717411303424 ["NoQuotient", "TooMany"] 1)
    (CC_NoQuotient : Catch K mg "NoQuotient" ["NoQuotient", "TooMany"])
    (NE_57_58 : gp57 ≠ gp58)
    (NE_58_57 : gp58 ≠ gp57)
    : ∃ (fd : FuncData) (cs : List (Addr × Addr)) (sp : Sp), (∀ c ∈ cs, h.get? c.2 = some { cls := .none, data := .fields #[] } ∧ K.lookup c.2 = none ∧ PySem.W.CodeHd h c.1 c.2) ∧ (∀ (s : Shared) (v : Value), BindsTo s fd ⟨[v], []⟩ [("script", v)]) ∧ (∀ base : Heap, K.In base → base.Ns mainGlobals mg → (∀ c ∈ cs, GxR.TabB base mg c.1 c.2) → FnG l.prog w K mg base CX0 11 fa fd ["script"] sp) ∧ ∀ (H : Hp) (a : Addr) (ns : List Int), ns.length ≤ 63 → (∀ c ∈ cs, H c.2 = some (.tbl #[])) → SqL K H a (ns.map V.int) → sp [.ref a] H (fun v _ => v = .bl true) fun _ _ _ => False := by
  have e := hfa.symm.trans (PySem.W.mg_of X G a61)
  cases e
  have T : Txt K mg := { b_abs := PySem.W.mg_none_of X G z_abs, b_bool := PySem.W.mg_none_of X G z_bool, b_divmod := PySem.W.mg_none_of X G z_divmod, b_int := PySem.W.mg_none_of X G z_int, b_isinstance := PySem.W.mg_none_of X G z_isinstance, b_len := PySem.W.mg_none_of X G z_len, b_max := PySem.W.mg_none_of X G z_max, b_min := PySem.W.mg_none_of X G z_min, b_range := PySem.W.mg_none_of X G z_range, b_repr := PySem.W.mg_none_of X G z_repr, b_tuple := PySem.W.mg_none_of X G z_tuple, t_MOST_GRAINS := t_MOST_GRAINS, m_MOST_GRAINS := PySem.W.mg_of X G n_MOST_GRAINS, t_ONE := t_ONE, m_ONE := PySem.W.mg_of X G n_ONE, a_WHOLE := a_WHOLE, o_WHOLE := _, m_WHOLE := PySem.W.mg_of X G n_WHOLE, l_WHOLE := q_WHOLE, k_WHOLE := ktup2 q_WHOLE, t__MOST_POWER := t__MOST_POWER, m__MOST_POWER := PySem.W.mg_of X G n__MOST_POWER, m_gcd := PySem.W.mg_of X G n_gcd }
  have D_is_integer : Dfn K mg "is_integer" "is_integer" s_is_integer ["value"] [] := dfn_of X G a0 l0 c0 k0 (fun _ _ _ _ _ _ us hl => match us, hl with | [_], _ => rfl) (fun _ _ q hq => absurd hq List.not_mem_nil)
  have D_is_interval : Dfn K mg "is_interval" "is_interval" s_is_interval ["value"] [] := dfn_of X G a1 l1 c1 k1 (fun _ _ _ _ _ _ us hl => match us, hl with | [_], _ => rfl) (fun _ _ q hq => absurd hq List.not_mem_nil)
  have D_check_interval : Dfn K mg "check_interval" "check_interval" s_check_interval ["interval"] [] := dfn_of X G a2 l2 c2 k2 (fun _ _ _ _ _ _ us hl => match us, hl with | [_], _ => rfl) (fun _ _ q hq => absurd hq List.not_mem_nil)
  have D__check_both : Dfn K mg "_check_both" "_check_both" s__check_both ["one", "other"] [] := dfn_of X G a3 l3 c3 k3 (fun _ _ _ _ _ _ us hl => match us, hl with | [_, _], _ => rfl) (fun _ _ q hq => absurd hq List.not_mem_nil)
  have D_in_bounds : Dfn K mg "in_bounds" "in_bounds" s_in_bounds ["low", "high"] [] := dfn_of X G a4 l4 c4 k4 (fun _ _ _ _ _ _ us hl => match us, hl with | [_, _], _ => rfl) (fun _ _ q hq => absurd hq List.not_mem_nil)
  have D_grain_times : Dfn K mg "grain_times" "grain_times" s_grain_times ["one", "other"] [] := dfn_of X G a5 l5 c5 k5 (fun _ _ _ _ _ _ us hl => match us, hl with | [_, _], _ => rfl) (fun _ _ q hq => absurd hq List.not_mem_nil)
  have D_times : Dfn K mg "times" "times" s_times ["one", "other"] [(["other", "one"], 0, [1, 0])] := dfn_of X G a6 l6 c6 k6 (fun _ _ _ _ _ _ us hl => match us, hl with | [_, _], _ => rfl) (kb_times)
  have D_floor_of : Dfn K mg "floor_of" "floor_of" s_floor_of ["ratio", "times"] [] := dfn_of X G a7 l7 c7 k7 (fun _ _ _ _ _ _ us hl => match us, hl with | [_, _], _ => rfl) (fun _ _ q hq => absurd hq List.not_mem_nil)
  have D_ceiling_of : Dfn K mg "ceiling_of" "ceiling_of" s_ceiling_of ["ratio", "times"] [] := dfn_of X G a8 l8 c8 k8 (fun _ _ _ _ _ _ us hl => match us, hl with | [_, _], _ => rfl) (fun _ _ q hq => absurd hq List.not_mem_nil)
  have D_grain_hull : Dfn K mg "grain_hull" "grain_hull" s_grain_hull ["one", "other"] [] := dfn_of X G a9 l9 c9 k9 (fun _ _ _ _ _ _ us hl => match us, hl with | [_, _], _ => rfl) (fun _ _ q hq => absurd hq List.not_mem_nil)
  have D_grain_meet : Dfn K mg "grain_meet" "grain_meet" s_grain_meet ["one", "other"] [] := dfn_of X G a10 l10 c10 k10 (fun _ _ _ _ _ _ us hl => match us, hl with | [_, _], _ => rfl) (fun _ _ q hq => absurd hq List.not_mem_nil)
  have D_lies_within : Dfn K mg "lies_within" "lies_within" s_lies_within ["one", "other"] [] := dfn_of X G a11 l11 c11 k11 (fun _ _ _ _ _ _ us hl => match us, hl with | [_, _], _ => rfl) (fun _ _ q hq => absurd hq List.not_mem_nil)
  have D_middle_of : Dfn K mg "middle_of" "middle_of" s_middle_of ["interval"] [] := dfn_of X G a12 l12 c12 k12 (fun _ _ _ _ _ _ us hl => match us, hl with | [_], _ => rfl) (fun _ _ q hq => absurd hq List.not_mem_nil)
  have D_has_ratio : Dfn K mg "has_ratio" "has_ratio" s_has_ratio ["interval", "ratio"] [] := dfn_of X G a13 l13 c13 k13 (fun _ _ _ _ _ _ us hl => match us, hl with | [_, _], _ => rfl) (fun _ _ q hq => absurd hq List.not_mem_nil)
  have D_is_from_to : Dfn K mg "is_from_to" "is_from_to" s_is_from_to ["value", "least", "most"] [] := dfn_of X G a14 l14 c14 k14 (fun _ _ _ _ _ _ us hl => match us, hl with | [_, _, _], _ => rfl) (fun _ _ q hq => absurd hq List.not_mem_nil)
  have D_is_ratio : Dfn K mg "is_ratio" "is_ratio" s_is_ratio ["value"] [] := dfn_of X G a15 l15 c15 k15 (fun _ _ _ _ _ _ us hl => match us, hl with | [_], _ => rfl) (fun _ _ q hq => absurd hq List.not_mem_nil)
  have D__law_draw : Dfn K mg "_law_draw" "_law_draw" s__law_draw ["pot", "room"] [] := dfn_of X G a16 l16 c16 k16 (fun _ _ _ _ _ _ us hl => match us, hl with | [_, _], _ => rfl) (fun _ _ q hq => absurd hq List.not_mem_nil)
  have D__law_pick : Dfn K mg "_law_pick" "_law_pick" s__law_pick ["pot", "some"] [] := dfn_of X G a17 l17 c17 k17 (fun _ _ _ _ _ _ us hl => match us, hl with | [_, _], _ => rfl) (fun _ _ q hq => absurd hq List.not_mem_nil)
  have D__law_one : Dfn K mg "_law_one" "_law_one" s__law_one [] [] := dfn_of X G a18 l18 c18 k18 (fun _ _ _ _ _ _ us hl => match us, hl with | [], _ => rfl) (fun _ _ q hq => absurd hq List.not_mem_nil)
  have D__law_gcd : Dfn K mg "_law_gcd" "_law_gcd" s__law_gcd ["one", "other"] [] := dfn_of X G a19 l19 c19 k19 (fun _ _ _ _ _ _ us hl => match us, hl with | [_, _], _ => rfl) (fun _ _ q hq => absurd hq List.not_mem_nil)
  have D__law_ratio : Dfn K mg "_law_ratio" "_law_ratio" s__law_ratio ["number", "under"] [] := dfn_of X G a20 l20 c20 k20 (fun _ _ _ _ _ _ us hl => match us, hl with | [_, _], _ => rfl) (fun _ _ q hq => absurd hq List.not_mem_nil)
  have D_check_ratio : Dfn K mg "check_ratio" "check_ratio" s_check_ratio ["ratio"] [] := dfn_of X G a21 l21 c21 k21 (fun _ _ _ _ _ _ us hl => match us, hl with | [_], _ => rfl) (fun _ _ q hq => absurd hq List.not_mem_nil)
  have D_holds_ratio : Dfn K mg "holds_ratio" "holds_ratio" s_holds_ratio ["interval", "ratio"] [(["ratio", "interval"], 0, [1, 0])] := dfn_of X G a22 l22 c22 k22 (fun _ _ _ _ _ _ us hl => match us, hl with | [_, _], _ => rfl) (kb_holds_ratio)
  have D_hull : Dfn K mg "hull" "hull" s_hull ["one", "other"] [(["other", "one"], 0, [1, 0])] := dfn_of X G a23 l23 c23 k23 (fun _ _ _ _ _ _ us hl => match us, hl with | [_, _], _ => rfl) (kb_hull)
  have D_meet : Dfn K mg "meet" "meet" s_meet ["one", "other"] [] := dfn_of X G a24 l24 c24 k24 (fun _ _ _ _ _ _ us hl => match us, hl with | [_, _], _ => rfl) (fun _ _ q hq => absurd hq List.not_mem_nil)
  have D_within : Dfn K mg "within" "within" s_within ["one", "other"] [(["other", "one"], 0, [1, 0])] := dfn_of X G a25 l25 c25 k25 (fun _ _ _ _ _ _ us hl => match us, hl with | [_, _], _ => rfl) (kb_within)
  have D_halves : Dfn K mg "halves" "halves" s_halves ["interval"] [(["interval"], 0, [0])] := dfn_of X G a26 l26 c26 k26 (fun _ _ _ _ _ _ us hl => match us, hl with | [_], _ => rfl) (kb_halves)
  have D__law_small_ratio : Dfn K mg "_law_small_ratio" "_law_small_ratio" s__law_small_ratio ["pot"] [] := dfn_of X G a27 l27 c27 k27 (fun _ _ _ _ _ _ us hl => match us, hl with | [_], _ => rfl) (fun _ _ q hq => absurd hq List.not_mem_nil)
  have D_grain_around : Dfn K mg "grain_around" "grain_around" s_grain_around ["ratio"] [] := dfn_of X G a28 l28 c28 k28 (fun _ _ _ _ _ _ us hl => match us, hl with | [_], _ => rfl) (fun _ _ q hq => absurd hq List.not_mem_nil)
  have D_grain_plus : Dfn K mg "grain_plus" "grain_plus" s_grain_plus ["one", "other"] [] := dfn_of X G a29 l29 c29 k29 (fun _ _ _ _ _ _ us hl => match us, hl with | [_, _], _ => rfl) (fun _ _ q hq => absurd hq List.not_mem_nil)
  have D_grain_minus : Dfn K mg "grain_minus" "grain_minus" s_grain_minus ["one", "other"] [] := dfn_of X G a30 l30 c30 k30 (fun _ _ _ _ _ _ us hl => match us, hl with | [_, _], _ => rfl) (fun _ _ q hq => absurd hq List.not_mem_nil)
  have D_grain_over : Dfn K mg "grain_over" "grain_over" s_grain_over ["one", "other"] [] := dfn_of X G a31 l31 c31 k31 (fun _ _ _ _ _ _ us hl => match us, hl with | [_, _], _ => rfl) (fun _ _ q hq => absurd hq List.not_mem_nil)
  have D_integer_power : Dfn K mg "integer_power" "integer_power" s_integer_power ["base", "many"] [] := dfn_of X G a32 l32 c32 k32 (fun _ _ _ _ _ _ us hl => match us, hl with | [_, _], _ => rfl) (fun _ _ q hq => absurd hq List.not_mem_nil)
  have D_grain_power : Dfn K mg "grain_power" "grain_power" s_grain_power ["interval", "many"] [] := dfn_of X G a33 l33 c33 k33 (fun _ _ _ _ _ _ us hl => match us, hl with | [_, _], _ => rfl) (fun _ _ q hq => absurd hq List.not_mem_nil)
  have D_grain_scaled : Dfn K mg "grain_scaled" "grain_scaled" s_grain_scaled ["interval", "ratio"] [] := dfn_of X G a34 l34 c34 k34 (fun _ _ _ _ _ _ us hl => match us, hl with | [_, _], _ => rfl) (fun _ _ q hq => absurd hq List.not_mem_nil)
  have D_around : Dfn K mg "around" "around" s_around ["ratio"] [] := dfn_of X G a35 l35 c35 k35 (fun _ _ _ _ _ _ us hl => match us, hl with | [_], _ => rfl) (fun _ _ q hq => absurd hq List.not_mem_nil)
  have D_plus : Dfn K mg "plus" "plus" s_plus ["one", "other"] [(["other", "one"], 0, [1, 0])] := dfn_of X G a36 l36 c36 k36 (fun _ _ _ _ _ _ us hl => match us, hl with | [_, _], _ => rfl) (kb_plus)
  have D_minus : Dfn K mg "minus" "minus" s_minus ["one", "other"] [(["other", "one"], 0, [1, 0])] := dfn_of X G a37 l37 c37 k37 (fun _ _ _ _ _ _ us hl => match us, hl with | [_, _], _ => rfl) (kb_minus)
  have D_over : Dfn K mg "over" "over" s_over ["one", "other"] [(["other", "one"], 0, [1, 0])] := dfn_of X G a38 l38 c38 k38 (fun _ _ _ _ _ _ us hl => match us, hl with | [_, _], _ => rfl) (kb_over)
  have D_powered : Dfn K mg "powered" "powered" s_powered ["interval", "many"] [(["interval", "many"], 0, [0, 1])] := dfn_of X G a39 l39 c39 k39 (fun _ _ _ _ _ _ us hl => match us, hl with | [_, _], _ => rfl) (kb_powered)
  have D_scaled : Dfn K mg "scaled" "scaled" s_scaled ["interval", "ratio"] [(["interval", "ratio"], 0, [0, 1])] := dfn_of X G a40 l40 c40 k40 (fun _ _ _ _ _ _ us hl => match us, hl with | [_, _], _ => rfl) (kb_scaled)
  have D_ratio_of : Dfn K mg "ratio_of" "ratio_of" s_ratio_of ["number", "under"] [] := dfn_of X G a41 l41 c41 k41 (fun _ _ _ _ _ _ us hl => match us, hl with | [_, _], _ => rfl) (fun _ _ q hq => absurd hq List.not_mem_nil)
  have D_ends_of : Dfn K mg "ends_of" "ends_of" s_ends_of ["interval"] [] := dfn_of X G a42 l42 c42 k42 (fun _ _ _ _ _ _ us hl => match us, hl with | [_], _ => rfl) (fun _ _ q hq => absurd hq List.not_mem_nil)
  have D_width : Dfn K mg "width" "width" s_width ["interval"] [(["interval"], 0, [0])] := dfn_of X G a43 l43 c43 k43 (fun _ _ _ _ _ _ us hl => match us, hl with | [_], _ => rfl) (kb_width)
  have D_middle : Dfn K mg "middle" "middle" s_middle ["interval"] [(["interval"], 0, [0])] := dfn_of X G a44 l44 c44 k44 (fun _ _ _ _ _ _ us hl => match us, hl with | [_], _ => rfl) (kb_middle)
  have D__law_top : Dfn K mg "_law_top" "_law_top" s__law_top [] [] := dfn_of X G a45 l45 c45 k45 (fun _ _ _ _ _ _ us hl => match us, hl with | [], _ => rfl) (fun _ _ q hq => absurd hq List.not_mem_nil)
  have D__law_down : Dfn K mg "_law_down" "_law_down" s__law_down ["number", "under"] [] := dfn_of X G a46 l46 c46 k46 (fun _ _ _ _ _ _ us hl => match us, hl with | [_, _], _ => rfl) (fun _ _ q hq => absurd hq List.not_mem_nil)
  have D__law_up : Dfn K mg "_law_up" "_law_up" s__law_up ["number", "under"] [] := dfn_of X G a47 l47 c47 k47 (fun _ _ _ _ _ _ us hl => match us, hl with | [_, _], _ => rfl) (fun _ _ q hq => absurd hq List.not_mem_nil)
  have D__law_size : Dfn K mg "_law_size" "_law_size" s__law_size ["pot"] [] := dfn_of X G a48 l48 c48 k48 (fun _ _ _ _ _ _ us hl => match us, hl with | [_], _ => rfl) (fun _ _ q hq => absurd hq List.not_mem_nil)
  have D__law_number : Dfn K mg "_law_number" "_law_number" s__law_number ["pot"] [] := dfn_of X G a49 l49 c49 k49 (fun _ _ _ _ _ _ us hl => match us, hl with | [_], _ => rfl) (fun _ _ q hq => absurd hq List.not_mem_nil)
  have D__law_interval : Dfn K mg "_law_interval" "_law_interval" s__law_interval ["pot"] [] := dfn_of X G a50 l50 c50 k50 (fun _ _ _ _ _ _ us hl => match us, hl with | [_], _ => rfl) (fun _ _ q hq => absurd hq List.not_mem_nil)
  have D__law_within : Dfn K mg "_law_within" "_law_within" s__law_within ["pot", "interval"] [] := dfn_of X G a51 l51 c51 k51 (fun _ _ _ _ _ _ us hl => match us, hl with | [_, _], _ => rfl) (fun _ _ q hq => absurd hq List.not_mem_nil)
  have D__law_rounded : Dfn K mg "_law_rounded" "_law_rounded" s__law_rounded ["numbers", "under"] [] := dfn_of X G a52 l52 c52 k52 (fun _ _ _ _ _ _ us hl => match us, hl with | [_, _], _ => rfl) (fun _ _ q hq => absurd hq List.not_mem_nil)
  have D__law_product_of : Dfn K mg "_law_product_of" "_law_product_of" s__law_product_of ["one", "other"] [] := dfn_of X G a53 l53 c53 k53 (fun _ _ _ _ _ _ us hl => match us, hl with | [_, _], _ => rfl) (fun _ _ q hq => absurd hq List.not_mem_nil)
  have D__law_power : Dfn K mg "_law_power" "_law_power" s__law_power ["number", "many"] [] := dfn_of X G a54 l54 c54 k54 (fun _ _ _ _ _ _ us hl => match us, hl with | [_, _], _ => rfl) (fun _ _ q hq => absurd hq List.not_mem_nil)
  have D__law_powered : Dfn K mg "_law_powered" "_law_powered" s__law_powered ["interval", "many"] [] := dfn_of X G a55 l55 c55 k55 (fun _ _ _ _ _ _ us hl => match us, hl with | [_, _], _ => rfl) (fun _ _ q hq => absurd hq List.not_mem_nil)
  have D__law_over : Dfn K mg "_law_over" "_law_over" s__law_over ["one", "other"] [] := dfn_of X G a56 l56 c56 k56 (fun _ _ _ _ _ _ us hl => match us, hl with | [_, _], _ => rfl) (fun _ _ q hq => absurd hq List.not_mem_nil)
  have D__law_pair_right : Dfn K mg "_law_pair_right" "_law_pair_right" s__law_pair_right ["pot"] [] := dfn_of X G a57 l57 c57 k57 (fun _ _ _ _ _ _ us hl => match us, hl with | [_], _ => rfl) (fun _ _ q hq => absurd hq List.not_mem_nil)
  have D__law_single_right : Dfn K mg "_law_single_right" "_law_single_right" s__law_single_right ["pot"] [] := dfn_of X G a58 l58 c58 k58 (fun _ _ _ _ _ _ us hl => match us, hl with | [_], _ => rfl) (fun _ _ q hq => absurd hq List.not_mem_nil)
  have D__law_right : Dfn K mg "_law_right" "_law_right" s__law_right ["pot"] [] := dfn_of X G a59 l59 c59 k59 (fun _ _ _ _ _ _ us hl => match us, hl with | [_], _ => rfl) (fun _ _ q hq => absurd hq List.not_mem_nil)
  have F60 := fun_mk (st := s__law_pot) l60 c60 k60
  have b60 := F60.binds (ps := ["script", "k"]) fun _ _ _ _ _ _ us hl => match us, hl with | [_, _], _ => rfl
  refine ⟨PySem.W.fnOf "law" "law" (defArgs s_law) (defBody s_law) (defScope s_law) .none kV61 dc61 pm61 an61 cd61 ct61, [(gc57, gp57), (gc58, gp58)], spLaw K (⟨[], mg, [(gp57, (("_law_pair_right" ++ ".<locals>." : Str) ++ "<lambda>")), (gp58, (("_law_single_right" ++ ".<locals>." : Str) ++ "<lambda>"))]⟩ : Tf), ?_, fun s v => .of_eq rfl, fun base _ _ hTB => ?_, fun H a ns _ hT hS => ⟨a, ns, rfl, hS, ?_, (by
    intro t ht
    rcases List.mem_cons.mp ht with rfl | ht
    · exact hT (gc57, gp57) (by simp)
    have e := List.mem_singleton.mp ht
    subst e
    exact hT (gc58, gp58) (by simp)), fun t ht => List.not_mem_nil, fun _ => rfl⟩⟩
  · intro c hc
    rcases List.mem_cons.mp hc with rfl | hc
    · exact ⟨(go57 f57 gc57 gp57 _ _ _ _ _ _ (PySem.W.mg_of X G a57) l57 rfl rfl gl57 gi57).1, gn57, (go57 f57 gc57 gp57 _ _ _ _ _ _ (PySem.W.mg_of X G a57) l57 rfl rfl gl57 gi57).2⟩
    have e := List.mem_singleton.mp hc
    subst e
    exact ⟨(go58 f58 gc58 gp58 _ _ _ _ _ _ (PySem.W.mg_of X G a58) l58 rfl rfl gl58 gi58).1, gn58, (go58 f58 gc58 gp58 _ _ _ _ _ _ (PySem.W.mg_of X G a58) l58 rfl rfl gl58 gi58).2⟩
  rotate_left
  · intro t ht
    cases ht
  have TA__law_pair_right : LamAt K mg base (⟨[], mg, [(gp57, (("_law_pair_right" ++ ".<locals>." : Str) ++ "<lambda>")), (gp58, (("_law_single_right" ++ ".<locals>." : Str) ++ "<lambda>"))]⟩ : Tf) "_law_pair_right" (("_law_pair_right" ++ ".<locals>." : Str) ++ "<lambda>") := lamAt_of (PySem.W.mg_of X G a57) l57 rfl (by simp) (by
    intro t ht e
    rcases List.mem_cons.mp ht with rfl | ht
    · exact rfl
    have e2 := List.mem_singleton.mp ht
    subst e2
    exact absurd e NE_58_57) (hTB (gc57, gp57) (by simp))
  have TA__law_single_right : LamAt K mg base (⟨[], mg, [(gp57, (("_law_pair_right" ++ ".<locals>." : Str) ++ "<lambda>")), (gp58, (("_law_single_right" ++ ".<locals>." : Str) ++ "<lambda>"))]⟩ : Tf) "_law_single_right" (("_law_single_right" ++ ".<locals>." : Str) ++ "<lambda>") := lamAt_of (PySem.W.mg_of X G a58) l58 rfl (by simp) (by
    intro t ht e
    rcases List.mem_cons.mp ht with rfl | ht
    · exact absurd e NE_57_58
    have e2 := List.mem_singleton.mp ht
    subst e2
    exact rfl) (hTB (gc58, gp58) (by simp))
  have C_is_integer := ok_is_integer (P := l.prog) (w := w) (base := base) (tabs := (⟨[], mg, [(gp57, (("_law_pair_right" ++ ".<locals>." : Str) ++ "<lambda>")), (gp58, (("_law_single_right" ++ ".<locals>." : Str) ++ "<lambda>"))]⟩ : Tf)) T D_is_integer
  have C_is_interval := ok_is_interval (P := l.prog) (w := w) (base := base) (tabs := (⟨[], mg, [(gp57, (("_law_pair_right" ++ ".<locals>." : Str) ++ "<lambda>")), (gp58, (("_law_single_right" ++ ".<locals>." : Str) ++ "<lambda>"))]⟩ : Tf)) T D_is_interval C_is_integer
  have C_check_interval := ok_check_interval (P := l.prog) (w := w) (base := base) (tabs := (⟨[], mg, [(gp57, (("_law_pair_right" ++ ".<locals>." : Str) ++ "<lambda>")), (gp58, (("_law_single_right" ++ ".<locals>." : Str) ++ "<lambda>"))]⟩ : Tf)) T D_check_interval C_is_interval
  have C__check_both := ok__check_both (P := l.prog) (w := w) (base := base) (tabs := (⟨[], mg, [(gp57, (("_law_pair_right" ++ ".<locals>." : Str) ++ "<lambda>")), (gp58, (("_law_single_right" ++ ".<locals>." : Str) ++ "<lambda>"))]⟩ : Tf)) T D__check_both C_check_interval
  have C_in_bounds := ok_in_bounds (P := l.prog) (w := w) (base := base) (tabs := (⟨[], mg, [(gp57, (("_law_pair_right" ++ ".<locals>." : Str) ++ "<lambda>")), (gp58, (("_law_single_right" ++ ".<locals>." : Str) ++ "<lambda>"))]⟩ : Tf)) T D_in_bounds rfl (XM_TooMany base)
  have C_grain_times := ok_grain_times (P := l.prog) (w := w) (base := base) (tabs := (⟨[], mg, [(gp57, (("_law_pair_right" ++ ".<locals>." : Str) ++ "<lambda>")), (gp58, (("_law_single_right" ++ ".<locals>." : Str) ++ "<lambda>"))]⟩ : Tf)) T D_grain_times C_in_bounds
  have C_times := ok_times (P := l.prog) (w := w) (base := base) (tabs := (⟨[], mg, [(gp57, (("_law_pair_right" ++ ".<locals>." : Str) ++ "<lambda>")), (gp58, (("_law_single_right" ++ ".<locals>." : Str) ++ "<lambda>"))]⟩ : Tf)) T D_times C__check_both C_grain_times
  have C_floor_of := ok_floor_of (P := l.prog) (w := w) (base := base) (tabs := (⟨[], mg, [(gp57, (("_law_pair_right" ++ ".<locals>." : Str) ++ "<lambda>")), (gp58, (("_law_single_right" ++ ".<locals>." : Str) ++ "<lambda>"))]⟩ : Tf)) T D_floor_of
  have C_ceiling_of := ok_ceiling_of (P := l.prog) (w := w) (base := base) (tabs := (⟨[], mg, [(gp57, (("_law_pair_right" ++ ".<locals>." : Str) ++ "<lambda>")), (gp58, (("_law_single_right" ++ ".<locals>." : Str) ++ "<lambda>"))]⟩ : Tf)) T D_ceiling_of
  have C_grain_hull := ok_grain_hull (P := l.prog) (w := w) (base := base) (tabs := (⟨[], mg, [(gp57, (("_law_pair_right" ++ ".<locals>." : Str) ++ "<lambda>")), (gp58, (("_law_single_right" ++ ".<locals>." : Str) ++ "<lambda>"))]⟩ : Tf)) T D_grain_hull
  have C_grain_meet := ok_grain_meet (P := l.prog) (w := w) (base := base) (tabs := (⟨[], mg, [(gp57, (("_law_pair_right" ++ ".<locals>." : Str) ++ "<lambda>")), (gp58, (("_law_single_right" ++ ".<locals>." : Str) ++ "<lambda>"))]⟩ : Tf)) T D_grain_meet
  have C_lies_within := ok_lies_within (P := l.prog) (w := w) (base := base) (tabs := (⟨[], mg, [(gp57, (("_law_pair_right" ++ ".<locals>." : Str) ++ "<lambda>")), (gp58, (("_law_single_right" ++ ".<locals>." : Str) ++ "<lambda>"))]⟩ : Tf)) T D_lies_within
  have C_middle_of := ok_middle_of (P := l.prog) (w := w) (base := base) (tabs := (⟨[], mg, [(gp57, (("_law_pair_right" ++ ".<locals>." : Str) ++ "<lambda>")), (gp58, (("_law_single_right" ++ ".<locals>." : Str) ++ "<lambda>"))]⟩ : Tf)) T D_middle_of
  have C_has_ratio := ok_has_ratio (P := l.prog) (w := w) (base := base) (tabs := (⟨[], mg, [(gp57, (("_law_pair_right" ++ ".<locals>." : Str) ++ "<lambda>")), (gp58, (("_law_single_right" ++ ".<locals>." : Str) ++ "<lambda>"))]⟩ : Tf)) T D_has_ratio
  have C_is_from_to := ok_is_from_to (P := l.prog) (w := w) (base := base) (tabs := (⟨[], mg, [(gp57, (("_law_pair_right" ++ ".<locals>." : Str) ++ "<lambda>")), (gp58, (("_law_single_right" ++ ".<locals>." : Str) ++ "<lambda>"))]⟩ : Tf)) T D_is_from_to C_is_integer
  have C_is_ratio := ok_is_ratio (P := l.prog) (w := w) (base := base) (tabs := (⟨[], mg, [(gp57, (("_law_pair_right" ++ ".<locals>." : Str) ++ "<lambda>")), (gp58, (("_law_single_right" ++ ".<locals>." : Str) ++ "<lambda>"))]⟩ : Tf)) T D_is_ratio C_is_integer
  have C__law_draw := ok__law_draw (P := l.prog) (w := w) (base := base) (tabs := (⟨[], mg, [(gp57, (("_law_pair_right" ++ ".<locals>." : Str) ++ "<lambda>")), (gp58, (("_law_single_right" ++ ".<locals>." : Str) ++ "<lambda>"))]⟩ : Tf)) T D__law_draw
  have C__law_pick := ok__law_pick (P := l.prog) (w := w) (base := base) (tabs := (⟨[], mg, [(gp57, (("_law_pair_right" ++ ".<locals>." : Str) ++ "<lambda>")), (gp58, (("_law_single_right" ++ ".<locals>." : Str) ++ "<lambda>"))]⟩ : Tf)) T D__law_pick C__law_draw
  have C__law_one := ok__law_one (P := l.prog) (w := w) (base := base) (tabs := (⟨[], mg, [(gp57, (("_law_pair_right" ++ ".<locals>." : Str) ++ "<lambda>")), (gp58, (("_law_single_right" ++ ".<locals>." : Str) ++ "<lambda>"))]⟩ : Tf)) T D__law_one
  have C__law_gcd := ok__law_gcd (P := l.prog) (w := w) (base := base) (tabs := (⟨[], mg, [(gp57, (("_law_pair_right" ++ ".<locals>." : Str) ++ "<lambda>")), (gp58, (("_law_single_right" ++ ".<locals>." : Str) ++ "<lambda>"))]⟩ : Tf)) T D__law_gcd
  have C__law_ratio := ok__law_ratio (P := l.prog) (w := w) (base := base) (tabs := (⟨[], mg, [(gp57, (("_law_pair_right" ++ ".<locals>." : Str) ++ "<lambda>")), (gp58, (("_law_single_right" ++ ".<locals>." : Str) ++ "<lambda>"))]⟩ : Tf)) T D__law_ratio C__law_gcd
  have C_check_ratio := ok_check_ratio (P := l.prog) (w := w) (base := base) (tabs := (⟨[], mg, [(gp57, (("_law_pair_right" ++ ".<locals>." : Str) ++ "<lambda>")), (gp58, (("_law_single_right" ++ ".<locals>." : Str) ++ "<lambda>"))]⟩ : Tf)) T D_check_ratio C_is_ratio
  have C_holds_ratio := ok_holds_ratio (P := l.prog) (w := w) (base := base) (tabs := (⟨[], mg, [(gp57, (("_law_pair_right" ++ ".<locals>." : Str) ++ "<lambda>")), (gp58, (("_law_single_right" ++ ".<locals>." : Str) ++ "<lambda>"))]⟩ : Tf)) T D_holds_ratio C_check_interval C_check_ratio C_has_ratio
  have C_hull := ok_hull (P := l.prog) (w := w) (base := base) (tabs := (⟨[], mg, [(gp57, (("_law_pair_right" ++ ".<locals>." : Str) ++ "<lambda>")), (gp58, (("_law_single_right" ++ ".<locals>." : Str) ++ "<lambda>"))]⟩ : Tf)) T D_hull C__check_both C_grain_hull
  have C_meet := ok_meet (P := l.prog) (w := w) (base := base) (tabs := (⟨[], mg, [(gp57, (("_law_pair_right" ++ ".<locals>." : Str) ++ "<lambda>")), (gp58, (("_law_single_right" ++ ".<locals>." : Str) ++ "<lambda>"))]⟩ : Tf)) T D_meet C__check_both C_grain_meet
  have C_within := ok_within (P := l.prog) (w := w) (base := base) (tabs := (⟨[], mg, [(gp57, (("_law_pair_right" ++ ".<locals>." : Str) ++ "<lambda>")), (gp58, (("_law_single_right" ++ ".<locals>." : Str) ++ "<lambda>"))]⟩ : Tf)) T D_within C__check_both C_lies_within
  have C_halves := ok_halves (P := l.prog) (w := w) (base := base) (tabs := (⟨[], mg, [(gp57, (("_law_pair_right" ++ ".<locals>." : Str) ++ "<lambda>")), (gp58, (("_law_single_right" ++ ".<locals>." : Str) ++ "<lambda>"))]⟩ : Tf)) T D_halves C_check_interval C_middle_of
  have C__law_small_ratio := ok__law_small_ratio (P := l.prog) (w := w) (base := base) (tabs := (⟨[], mg, [(gp57, (("_law_pair_right" ++ ".<locals>." : Str) ++ "<lambda>")), (gp58, (("_law_single_right" ++ ".<locals>." : Str) ++ "<lambda>"))]⟩ : Tf)) T D__law_small_ratio C__law_draw C__law_ratio
  have C_grain_around := ok_grain_around (P := l.prog) (w := w) (base := base) (tabs := (⟨[], mg, [(gp57, (("_law_pair_right" ++ ".<locals>." : Str) ++ "<lambda>")), (gp58, (("_law_single_right" ++ ".<locals>." : Str) ++ "<lambda>"))]⟩ : Tf)) T D_grain_around C_in_bounds C_ceiling_of C_floor_of
  have C_grain_plus := ok_grain_plus (P := l.prog) (w := w) (base := base) (tabs := (⟨[], mg, [(gp57, (("_law_pair_right" ++ ".<locals>." : Str) ++ "<lambda>")), (gp58, (("_law_single_right" ++ ".<locals>." : Str) ++ "<lambda>"))]⟩ : Tf)) T D_grain_plus C_in_bounds
  have C_grain_minus := ok_grain_minus (P := l.prog) (w := w) (base := base) (tabs := (⟨[], mg, [(gp57, (("_law_pair_right" ++ ".<locals>." : Str) ++ "<lambda>")), (gp58, (("_law_single_right" ++ ".<locals>." : Str) ++ "<lambda>"))]⟩ : Tf)) T D_grain_minus C_in_bounds
  have C_grain_overpos := ok_grain_overpos (P := l.prog) (w := w) (base := base) (tabs := (⟨[], mg, [(gp57, (("_law_pair_right" ++ ".<locals>." : Str) ++ "<lambda>")), (gp58, (("_law_single_right" ++ ".<locals>." : Str) ++ "<lambda>"))]⟩ : Tf)) T D_grain_over C_in_bounds
  have C_grain_over := ok_grain_over (P := l.prog) (w := w) (base := base) (tabs := (⟨[], mg, [(gp57, (("_law_pair_right" ++ ".<locals>." : Str) ++ "<lambda>")), (gp58, (("_law_single_right" ++ ".<locals>." : Str) ++ "<lambda>"))]⟩ : Tf)) T D_grain_over C_grain_overpos C_in_bounds
  have C_integer_power := ok_integer_power (P := l.prog) (w := w) (base := base) (tabs := (⟨[], mg, [(gp57, (("_law_pair_right" ++ ".<locals>." : Str) ++ "<lambda>")), (gp58, (("_law_single_right" ++ ".<locals>." : Str) ++ "<lambda>"))]⟩ : Tf)) T D_integer_power
  have C_grain_power := ok_grain_power (P := l.prog) (w := w) (base := base) (tabs := (⟨[], mg, [(gp57, (("_law_pair_right" ++ ".<locals>." : Str) ++ "<lambda>")), (gp58, (("_law_single_right" ++ ".<locals>." : Str) ++ "<lambda>"))]⟩ : Tf)) T D_grain_power C_integer_power C_in_bounds
  have C_grain_scaled := ok_grain_scaled (P := l.prog) (w := w) (base := base) (tabs := (⟨[], mg, [(gp57, (("_law_pair_right" ++ ".<locals>." : Str) ++ "<lambda>")), (gp58, (("_law_single_right" ++ ".<locals>." : Str) ++ "<lambda>"))]⟩ : Tf)) T D_grain_scaled C_in_bounds
  have C_around := ok_around (P := l.prog) (w := w) (base := base) (tabs := (⟨[], mg, [(gp57, (("_law_pair_right" ++ ".<locals>." : Str) ++ "<lambda>")), (gp58, (("_law_single_right" ++ ".<locals>." : Str) ++ "<lambda>"))]⟩ : Tf)) T D_around C_check_ratio C_grain_around
  have C_plus := ok_plus (P := l.prog) (w := w) (base := base) (tabs := (⟨[], mg, [(gp57, (("_law_pair_right" ++ ".<locals>." : Str) ++ "<lambda>")), (gp58, (("_law_single_right" ++ ".<locals>." : Str) ++ "<lambda>"))]⟩ : Tf)) T D_plus C__check_both C_grain_plus
  have C_minus := ok_minus (P := l.prog) (w := w) (base := base) (tabs := (⟨[], mg, [(gp57, (("_law_pair_right" ++ ".<locals>." : Str) ++ "<lambda>")), (gp58, (("_law_single_right" ++ ".<locals>." : Str) ++ "<lambda>"))]⟩ : Tf)) T D_minus C__check_both C_grain_minus
  have C_over := ok_over (P := l.prog) (w := w) (base := base) (tabs := (⟨[], mg, [(gp57, (("_law_pair_right" ++ ".<locals>." : Str) ++ "<lambda>")), (gp58, (("_law_single_right" ++ ".<locals>." : Str) ++ "<lambda>"))]⟩ : Tf)) T D_over rfl C__check_both C_grain_over (XM_NoQuotient base)
  have C_powered := ok_powered (P := l.prog) (w := w) (base := base) (tabs := (⟨[], mg, [(gp57, (("_law_pair_right" ++ ".<locals>." : Str) ++ "<lambda>")), (gp58, (("_law_single_right" ++ ".<locals>." : Str) ++ "<lambda>"))]⟩ : Tf)) T D_powered C_check_interval C_is_from_to C_grain_power
  have C_scaled := ok_scaled (P := l.prog) (w := w) (base := base) (tabs := (⟨[], mg, [(gp57, (("_law_pair_right" ++ ".<locals>." : Str) ++ "<lambda>")), (gp58, (("_law_single_right" ++ ".<locals>." : Str) ++ "<lambda>"))]⟩ : Tf)) T D_scaled C_check_interval C_check_ratio C_grain_scaled
  have C_ratio_of := ok_ratio_of (P := l.prog) (w := w) (base := base) (tabs := (⟨[], mg, [(gp57, (("_law_pair_right" ++ ".<locals>." : Str) ++ "<lambda>")), (gp58, (("_law_single_right" ++ ".<locals>." : Str) ++ "<lambda>"))]⟩ : Tf)) T D_ratio_of
  have C_ends_of := ok_ends_of (P := l.prog) (w := w) (base := base) (tabs := (⟨[], mg, [(gp57, (("_law_pair_right" ++ ".<locals>." : Str) ++ "<lambda>")), (gp58, (("_law_single_right" ++ ".<locals>." : Str) ++ "<lambda>"))]⟩ : Tf)) T D_ends_of C_check_interval C_ratio_of
  have C_width := ok_width (P := l.prog) (w := w) (base := base) (tabs := (⟨[], mg, [(gp57, (("_law_pair_right" ++ ".<locals>." : Str) ++ "<lambda>")), (gp58, (("_law_single_right" ++ ".<locals>." : Str) ++ "<lambda>"))]⟩ : Tf)) T D_width C_check_interval
  have C_middle := ok_middle (P := l.prog) (w := w) (base := base) (tabs := (⟨[], mg, [(gp57, (("_law_pair_right" ++ ".<locals>." : Str) ++ "<lambda>")), (gp58, (("_law_single_right" ++ ".<locals>." : Str) ++ "<lambda>"))]⟩ : Tf)) T D_middle C_check_interval C_middle_of
  have C__law_top := ok__law_top (P := l.prog) (w := w) (base := base) (tabs := (⟨[], mg, [(gp57, (("_law_pair_right" ++ ".<locals>." : Str) ++ "<lambda>")), (gp58, (("_law_single_right" ++ ".<locals>." : Str) ++ "<lambda>"))]⟩ : Tf)) T D__law_top
  have C__law_down := ok__law_down (P := l.prog) (w := w) (base := base) (tabs := (⟨[], mg, [(gp57, (("_law_pair_right" ++ ".<locals>." : Str) ++ "<lambda>")), (gp58, (("_law_single_right" ++ ".<locals>." : Str) ++ "<lambda>"))]⟩ : Tf)) T D__law_down
  have C__law_up := ok__law_up (P := l.prog) (w := w) (base := base) (tabs := (⟨[], mg, [(gp57, (("_law_pair_right" ++ ".<locals>." : Str) ++ "<lambda>")), (gp58, (("_law_single_right" ++ ".<locals>." : Str) ++ "<lambda>"))]⟩ : Tf)) T D__law_up
  have C__law_size := ok__law_size (P := l.prog) (w := w) (base := base) (tabs := (⟨[], mg, [(gp57, (("_law_pair_right" ++ ".<locals>." : Str) ++ "<lambda>")), (gp58, (("_law_single_right" ++ ".<locals>." : Str) ++ "<lambda>"))]⟩ : Tf)) T D__law_size C__law_draw C__law_pick C__law_one
  have C__law_number := ok__law_number (P := l.prog) (w := w) (base := base) (tabs := (⟨[], mg, [(gp57, (("_law_pair_right" ++ ".<locals>." : Str) ++ "<lambda>")), (gp58, (("_law_single_right" ++ ".<locals>." : Str) ++ "<lambda>"))]⟩ : Tf)) T D__law_number C__law_size C__law_draw
  have C__law_interval := ok__law_interval (P := l.prog) (w := w) (base := base) (tabs := (⟨[], mg, [(gp57, (("_law_pair_right" ++ ".<locals>." : Str) ++ "<lambda>")), (gp58, (("_law_single_right" ++ ".<locals>." : Str) ++ "<lambda>"))]⟩ : Tf)) T D__law_interval C__law_number C__law_draw
  have C__law_within := ok__law_within (P := l.prog) (w := w) (base := base) (tabs := (⟨[], mg, [(gp57, (("_law_pair_right" ++ ".<locals>." : Str) ++ "<lambda>")), (gp58, (("_law_single_right" ++ ".<locals>." : Str) ++ "<lambda>"))]⟩ : Tf)) T D__law_within C__law_draw C__law_ratio C__law_one
  have C__law_rounded := ok__law_rounded (P := l.prog) (w := w) (base := base) (tabs := (⟨[], mg, [(gp57, (("_law_pair_right" ++ ".<locals>." : Str) ++ "<lambda>")), (gp58, (("_law_single_right" ++ ".<locals>." : Str) ++ "<lambda>"))]⟩ : Tf)) T D__law_rounded C__law_up C__law_down C__law_top
  have C__law_product_of := ok__law_product_of (P := l.prog) (w := w) (base := base) (tabs := (⟨[], mg, [(gp57, (("_law_pair_right" ++ ".<locals>." : Str) ++ "<lambda>")), (gp58, (("_law_single_right" ++ ".<locals>." : Str) ++ "<lambda>"))]⟩ : Tf)) T D__law_product_of
  have C__law_power := ok__law_power (P := l.prog) (w := w) (base := base) (tabs := (⟨[], mg, [(gp57, (("_law_pair_right" ++ ".<locals>." : Str) ++ "<lambda>")), (gp58, (("_law_single_right" ++ ".<locals>." : Str) ++ "<lambda>"))]⟩ : Tf)) T D__law_power
  have C__law_powered := ok__law_powered (P := l.prog) (w := w) (base := base) (tabs := (⟨[], mg, [(gp57, (("_law_pair_right" ++ ".<locals>." : Str) ++ "<lambda>")), (gp58, (("_law_single_right" ++ ".<locals>." : Str) ++ "<lambda>"))]⟩ : Tf)) T D__law_powered C__law_one C__law_power C__law_rounded
  have C__law_over := ok__law_over (P := l.prog) (w := w) (base := base) (tabs := (⟨[], mg, [(gp57, (("_law_pair_right" ++ ".<locals>." : Str) ++ "<lambda>")), (gp58, (("_law_single_right" ++ ".<locals>." : Str) ++ "<lambda>"))]⟩ : Tf)) T D__law_over C__law_one C__law_rounded
  have C__law_pair_right := ok__law_pair_right (P := l.prog) (w := w) (base := base) (tabs := (⟨[], mg, [(gp57, (("_law_pair_right" ++ ".<locals>." : Str) ++ "<lambda>")), (gp58, (("_law_single_right" ++ ".<locals>." : Str) ++ "<lambda>"))]⟩ : Tf)) T D__law_pair_right rfl rfl TA__law_pair_right C__law_interval C_plus C__law_rounded C_minus C_times C__law_one C__law_product_of C__law_over C_over C_hull C_meet C_within (HE__law_heard base) CC_NoQuotient
  have C__law_single_right := ok__law_single_right (P := l.prog) (w := w) (base := base) (tabs := (⟨[], mg, [(gp57, (("_law_pair_right" ++ ".<locals>." : Str) ++ "<lambda>")), (gp58, (("_law_single_right" ++ ".<locals>." : Str) ++ "<lambda>"))]⟩ : Tf)) T D__law_single_right rfl rfl TA__law_single_right C__law_draw C__law_small_ratio C__law_interval C_scaled C__law_rounded C_powered C__law_powered C_around C__law_one C__law_ratio C_halves C_middle C_width C_ends_of C__law_within C_holds_ratio (HE__law_heard base)
  have C__law_right := ok__law_right (P := l.prog) (w := w) (base := base) (tabs := (⟨[], mg, [(gp57, (("_law_pair_right" ++ ".<locals>." : Str) ++ "<lambda>")), (gp58, (("_law_single_right" ++ ".<locals>." : Str) ++ "<lambda>"))]⟩ : Tf)) T D__law_right C__law_single_right C__law_pair_right
  exact raw_law (fun_mk (st := s_law) l61 c61 k61) (raw_pot T F60) b60 (PySem.W.mg_of X G a60) k60 C__law_right
set_option maxHeartbeats 0 in
theorem all_mk2 {l : PySem.W.OpenLaw} {w : World} {K : PySem.W.Frag} {h : Heap} {mg : Str → Option Value} {fa : Addr} (X : K.In h) (G : h.Ns mainGlobals mg) (hfa : mg "law" = some (.ref fa)) (S : DL.SaysX fx fns K) (go57 : OwnTab K mg h "_law_pair_right") (go58 : OwnTab K mg h "_law_single_right")
    : ∃ (fd : FuncData) (cs : List (Addr × Addr)) (sp : Sp), (∀ c ∈ cs, h.get? c.2 = some { cls := .none, data := .fields #[] } ∧ K.lookup c.2 = none ∧ PySem.W.CodeHd h c.1 c.2) ∧ (∀ (s : Shared) (v : Value), BindsTo s fd ⟨[v], []⟩ [("script", v)]) ∧ (∀ base : Heap, K.In base → base.Ns mainGlobals mg → (∀ c ∈ cs, GxR.TabB base mg c.1 c.2) → FnG l.prog w K mg base CX0 11 fa fd ["script"] sp) ∧ ∀ (H : Hp) (a : Addr) (ns : List Int), ns.length ≤ 63 → (∀ c ∈ cs, H c.2 = some (.tbl #[])) → SqL K H a (ns.map V.int) → sp [.ref a] H (fun v _ => v = .bl true) fun _ _ _ => False := by
  obtain ⟨oc0, od0, sl0, kV0, dc0, pm0, an0, cd0, ct0, l0, c0⟩ := S.def_ 0 (d := fn_is_integer) rfl
  obtain ⟨oc1, od1, sl1, kV1, dc1, pm1, an1, cd1, ct1, l1, c1⟩ := S.def_ 1 (d := fn_is_interval) rfl
  obtain ⟨oc2, od2, sl2, kV2, dc2, pm2, an2, cd2, ct2, l2, c2⟩ := S.def_ 2 (d := fn_check_interval) rfl
  obtain ⟨oc3, od3, sl3, kV3, dc3, pm3, an3, cd3, ct3, l3, c3⟩ := S.def_ 3 (d := fn__check_both) rfl
  obtain ⟨oc4, od4, sl4, kV4, dc4, pm4, an4, cd4, ct4, l4, c4⟩ := S.def_ 4 (d := fn_in_bounds) rfl
  obtain ⟨oc5, od5, sl5, kV5, dc5, pm5, an5, cd5, ct5, l5, c5⟩ := S.def_ 5 (d := fn_grain_times) rfl
  obtain ⟨oc6, od6, sl6, kV6, dc6, pm6, an6, cd6, ct6, l6, c6⟩ := S.def_ 6 (d := fn_times) rfl
  obtain ⟨oc7, od7, sl7, kV7, dc7, pm7, an7, cd7, ct7, l7, c7⟩ := S.def_ 7 (d := fn_floor_of) rfl
  obtain ⟨oc8, od8, sl8, kV8, dc8, pm8, an8, cd8, ct8, l8, c8⟩ := S.def_ 8 (d := fn_ceiling_of) rfl
  obtain ⟨oc9, od9, sl9, kV9, dc9, pm9, an9, cd9, ct9, l9, c9⟩ := S.def_ 9 (d := fn_grain_hull) rfl
  obtain ⟨oc10, od10, sl10, kV10, dc10, pm10, an10, cd10, ct10, l10, c10⟩ := S.def_ 10 (d := fn_grain_meet) rfl
  obtain ⟨oc11, od11, sl11, kV11, dc11, pm11, an11, cd11, ct11, l11, c11⟩ := S.def_ 11 (d := fn_lies_within) rfl
  obtain ⟨oc12, od12, sl12, kV12, dc12, pm12, an12, cd12, ct12, l12, c12⟩ := S.def_ 12 (d := fn_middle_of) rfl
  obtain ⟨oc13, od13, sl13, kV13, dc13, pm13, an13, cd13, ct13, l13, c13⟩ := S.def_ 13 (d := fn_has_ratio) rfl
  obtain ⟨oc14, od14, sl14, kV14, dc14, pm14, an14, cd14, ct14, l14, c14⟩ := S.def_ 14 (d := fn_is_from_to) rfl
  obtain ⟨oc15, od15, sl15, kV15, dc15, pm15, an15, cd15, ct15, l15, c15⟩ := S.def_ 15 (d := fn_is_ratio) rfl
  obtain ⟨oc16, od16, sl16, kV16, dc16, pm16, an16, cd16, ct16, l16, c16⟩ := S.def_ 16 (d := fn__law_draw) rfl
  obtain ⟨oc17, od17, sl17, kV17, dc17, pm17, an17, cd17, ct17, l17, c17⟩ := S.def_ 17 (d := fn__law_pick) rfl
  obtain ⟨oc18, od18, sl18, kV18, dc18, pm18, an18, cd18, ct18, l18, c18⟩ := S.def_ 18 (d := fn__law_one) rfl
  obtain ⟨oc19, od19, sl19, kV19, dc19, pm19, an19, cd19, ct19, l19, c19⟩ := S.def_ 19 (d := fn__law_gcd) rfl
  obtain ⟨oc20, od20, sl20, kV20, dc20, pm20, an20, cd20, ct20, l20, c20⟩ := S.def_ 20 (d := fn__law_ratio) rfl
  obtain ⟨oc21, od21, sl21, kV21, dc21, pm21, an21, cd21, ct21, l21, c21⟩ := S.def_ 21 (d := fn_check_ratio) rfl
  obtain ⟨oc22, od22, sl22, kV22, dc22, pm22, an22, cd22, ct22, l22, c22⟩ := S.def_ 22 (d := fn_holds_ratio) rfl
  obtain ⟨oc23, od23, sl23, kV23, dc23, pm23, an23, cd23, ct23, l23, c23⟩ := S.def_ 23 (d := fn_hull) rfl
  obtain ⟨oc24, od24, sl24, kV24, dc24, pm24, an24, cd24, ct24, l24, c24⟩ := S.def_ 24 (d := fn_meet) rfl
  obtain ⟨oc25, od25, sl25, kV25, dc25, pm25, an25, cd25, ct25, l25, c25⟩ := S.def_ 25 (d := fn_within) rfl
  obtain ⟨oc26, od26, sl26, kV26, dc26, pm26, an26, cd26, ct26, l26, c26⟩ := S.def_ 26 (d := fn_halves) rfl
  obtain ⟨oc27, od27, sl27, kV27, dc27, pm27, an27, cd27, ct27, l27, c27⟩ := S.def_ 27 (d := fn__law_small_ratio) rfl
  obtain ⟨oc28, od28, sl28, kV28, dc28, pm28, an28, cd28, ct28, l28, c28⟩ := S.def_ 28 (d := fn_grain_around) rfl
  obtain ⟨oc29, od29, sl29, kV29, dc29, pm29, an29, cd29, ct29, l29, c29⟩ := S.def_ 29 (d := fn_grain_plus) rfl
  obtain ⟨oc30, od30, sl30, kV30, dc30, pm30, an30, cd30, ct30, l30, c30⟩ := S.def_ 30 (d := fn_grain_minus) rfl
  obtain ⟨oc31, od31, sl31, kV31, dc31, pm31, an31, cd31, ct31, l31, c31⟩ := S.def_ 31 (d := fn_grain_over) rfl
  obtain ⟨oc32, od32, sl32, kV32, dc32, pm32, an32, cd32, ct32, l32, c32⟩ := S.def_ 32 (d := fn_integer_power) rfl
  obtain ⟨oc33, od33, sl33, kV33, dc33, pm33, an33, cd33, ct33, l33, c33⟩ := S.def_ 33 (d := fn_grain_power) rfl
  obtain ⟨oc34, od34, sl34, kV34, dc34, pm34, an34, cd34, ct34, l34, c34⟩ := S.def_ 34 (d := fn_grain_scaled) rfl
  obtain ⟨oc35, od35, sl35, kV35, dc35, pm35, an35, cd35, ct35, l35, c35⟩ := S.def_ 35 (d := fn_around) rfl
  obtain ⟨oc36, od36, sl36, kV36, dc36, pm36, an36, cd36, ct36, l36, c36⟩ := S.def_ 36 (d := fn_plus) rfl
  obtain ⟨oc37, od37, sl37, kV37, dc37, pm37, an37, cd37, ct37, l37, c37⟩ := S.def_ 37 (d := fn_minus) rfl
  obtain ⟨oc38, od38, sl38, kV38, dc38, pm38, an38, cd38, ct38, l38, c38⟩ := S.def_ 38 (d := fn_over) rfl
  obtain ⟨oc39, od39, sl39, kV39, dc39, pm39, an39, cd39, ct39, l39, c39⟩ := S.def_ 39 (d := fn_powered) rfl
  obtain ⟨oc40, od40, sl40, kV40, dc40, pm40, an40, cd40, ct40, l40, c40⟩ := S.def_ 40 (d := fn_scaled) rfl
  obtain ⟨oc41, od41, sl41, kV41, dc41, pm41, an41, cd41, ct41, l41, c41⟩ := S.def_ 41 (d := fn_ratio_of) rfl
  obtain ⟨oc42, od42, sl42, kV42, dc42, pm42, an42, cd42, ct42, l42, c42⟩ := S.def_ 42 (d := fn_ends_of) rfl
  obtain ⟨oc43, od43, sl43, kV43, dc43, pm43, an43, cd43, ct43, l43, c43⟩ := S.def_ 43 (d := fn_width) rfl
  obtain ⟨oc44, od44, sl44, kV44, dc44, pm44, an44, cd44, ct44, l44, c44⟩ := S.def_ 44 (d := fn_middle) rfl
  obtain ⟨oc45, od45, sl45, kV45, dc45, pm45, an45, cd45, ct45, l45, c45⟩ := S.def_ 45 (d := fn__law_top) rfl
  obtain ⟨oc46, od46, sl46, kV46, dc46, pm46, an46, cd46, ct46, l46, c46⟩ := S.def_ 46 (d := fn__law_down) rfl
  obtain ⟨oc47, od47, sl47, kV47, dc47, pm47, an47, cd47, ct47, l47, c47⟩ := S.def_ 47 (d := fn__law_up) rfl
  obtain ⟨oc48, od48, sl48, kV48, dc48, pm48, an48, cd48, ct48, l48, c48⟩ := S.def_ 48 (d := fn__law_size) rfl
  obtain ⟨oc49, od49, sl49, kV49, dc49, pm49, an49, cd49, ct49, l49, c49⟩ := S.def_ 49 (d := fn__law_number) rfl
  obtain ⟨oc50, od50, sl50, kV50, dc50, pm50, an50, cd50, ct50, l50, c50⟩ := S.def_ 50 (d := fn__law_interval) rfl
  obtain ⟨oc51, od51, sl51, kV51, dc51, pm51, an51, cd51, ct51, l51, c51⟩ := S.def_ 51 (d := fn__law_within) rfl
  obtain ⟨oc52, od52, sl52, kV52, dc52, pm52, an52, cd52, ct52, l52, c52⟩ := S.def_ 52 (d := fn__law_rounded) rfl
  obtain ⟨oc53, od53, sl53, kV53, dc53, pm53, an53, cd53, ct53, l53, c53⟩ := S.def_ 53 (d := fn__law_product_of) rfl
  obtain ⟨oc54, od54, sl54, kV54, dc54, pm54, an54, cd54, ct54, l54, c54⟩ := S.def_ 54 (d := fn__law_power) rfl
  obtain ⟨oc55, od55, sl55, kV55, dc55, pm55, an55, cd55, ct55, l55, c55⟩ := S.def_ 55 (d := fn__law_powered) rfl
  obtain ⟨oc56, od56, sl56, kV56, dc56, pm56, an56, cd56, ct56, l56, c56⟩ := S.def_ 56 (d := fn__law_over) rfl
  obtain ⟨oc57, od57, sl57, kV57, dc57, pm57, an57, cd57, ct57, l57, c57⟩ := S.def_ 57 (d := fn__law_pair_right) rfl
  obtain ⟨gc57, gp57, ge57, gd57, gv57, gs57, e57, gl57, gi57, gn57⟩ := DL.tab_eq (S.fact 116 (f := .tab "_law_pair_right") rfl) l57
  cases e57
  obtain ⟨oc58, od58, sl58, kV58, dc58, pm58, an58, cd58, ct58, l58, c58⟩ := S.def_ 58 (d := fn__law_single_right) rfl
  obtain ⟨gc58, gp58, ge58, gd58, gv58, gs58, e58, gl58, gi58, gn58⟩ := DL.tab_eq (S.fact 119 (f := .tab "_law_single_right") rfl) l58
  cases e58
  obtain ⟨oc59, od59, sl59, kV59, dc59, pm59, an59, cd59, ct59, l59, c59⟩ := S.def_ 59 (d := fn__law_right) rfl
  obtain ⟨oc60, od60, sl60, kV60, dc60, pm60, an60, cd60, ct60, l60, c60⟩ := S.def_ 60 (d := fn__law_pot) rfl
  obtain ⟨oc61, od61, sl61, kV61, dc61, pm61, an61, cd61, ct61, l61, c61⟩ := S.def_ 61 (d := fn_law) rfl
  obtain ⟨oc62, od62, sl62, kV62, dc62, pm62, an62, cd62, ct62, l62, c62⟩ := S.def_ 62 (d := fn__law_heard) rfl
  obtain ⟨t_MOST_GRAINS, n_MOST_GRAINS⟩ := DL.num_eq (S.fact 140 (f := .num "MOST_GRAINS" (1180591620717411303424)) rfl)
  obtain ⟨t_ONE, n_ONE⟩ := DL.num_eq (S.fact 141 (f := .num "ONE" (1099511627776)) rfl)
  obtain ⟨t__MOST_POWER, n__MOST_POWER⟩ := DL.num_eq (S.fact 142 (f := .num "_MOST_POWER" (40)) rfl)
  obtain ⟨a_WHOLE, t_WHOLE, u_WHOLE, d_WHOLE, m_WHOLE, s_WHOLE, n_WHOLE, q_WHOLE⟩ := DL.tw_eq (S.fact 143 (f := .tw "WHOLE" (1099511627776) (1099511627776)) rfl)
  have m_NoQuotient : mg "NoQuotient" = some (.ref (He.ga K "NoQuotient")) := PySem.W.mg_of X G (He.eqO_ok (S.fact 144 (f := .old (.glo "NoQuotient")) rfl))
  have m_TooMany : mg "TooMany" = some (.ref (He.ga K "TooMany")) := PySem.W.mg_of X G (He.eqO_ok (S.fact 145 (f := .old (.glo "TooMany")) rfl))
  obtain ⟨oc63, od63, sl63, kV63, dc63, pm63, an63, cd63, ct63, l63, c63⟩ := S.def_ 63 (d := fn_X_NoQuotient) rfl
  have XM_NoQuotient : ∀ base : Heap, Mk0 l.prog w K mg base "NoQuotient" 1 := fun base => mk0_of m_NoQuotient (oxg_of PySem.F.excBase_RuntimeError PySem.F.store_RuntimeError (S.fact 146 (f := .exg "NoQuotient" "RuntimeError" "RuntimeError.__new__") rfl)) (S.fact 147 (f := .mth "NoQuotient" "__init__") rfl) l63 c63 sci_NoQuotient (binds_of (st := methS s_NoQuotient) (ps := ["self"]) l63 c63 (fun _ _ _ _ _ _ us hl => match us, hl with | [_], _ => rfl))
  obtain ⟨oc64, od64, sl64, kV64, dc64, pm64, an64, cd64, ct64, l64, c64⟩ := S.def_ 64 (d := fn_X_TooMany) rfl
  have XM_TooMany : ∀ base : Heap, Mk2 l.prog w K mg base "TooMany" "what" "limit" 1 := fun base => mk2_of m_TooMany (oxg_of PySem.F.excBase_ArithmeticError PySem.F.store_ArithmeticError (S.fact 148 (f := .exg "TooMany" "ArithmeticError" "ArithmeticError.__new__") rfl)) (S.fact 149 (f := .mth "TooMany" "__init__") rfl) (He.eqO_ok (S.fact 150 (f := .old (.noat "TooMany" "what")) rfl)) (He.eqO_ok (S.fact 151 (f := .old (.noat "TooMany" "limit")) rfl)) l64 c64 sci_TooMany (binds_of (st := methS s_TooMany) (ps := ["self", "what", "limit"]) l64 c64 (fun _ _ _ _ _ _ us hl => match us, hl with | [_, _, _], _ => rfl)) rfl rfl rfl
  have FT__law_heard := fun base : Heap => top_okQ (P := l.prog) (w := w) (mg := mg) (base := base) (fun_mk (st := s__law_top) l45 c45 (keep_fn l45))
  have HE__law_heard : ∀ base : Heap, Hears l.prog w K mg base (⟨[], mg, [(gp57, (("_law_pair_right" ++ ".<locals>." : Str) ++ "<lambda>")), (gp58, (("_law_single_right" ++ ".<locals>." : Str) ++ "<lambda>"))]⟩ : Tf) "_law_heard" "call" "TooMany" "what" "limit" "grains" "wrong" 1180591620717411303424 ["NoQuotient", "TooMany"] 1 := fun base => hears_of m_TooMany (S.fact 152 (f := .xf "TooMany") rfl) (He.eqO_ok (S.fact 150 (f := .old (.noat "TooMany" "what")) rfl)) (He.eqO_ok (S.fact 151 (f := .old (.noat "TooMany" "limit")) rfl)) (exm_of (S.fact 156 (f := .old (.exm "TooMany" "TooMany" true)) rfl)) (by
    intro y hy hn
    rcases List.mem_cons.mp hy with rfl | hy
    · exact ⟨_, m_NoQuotient, exm_of (S.fact 155 (f := .old (.exm "NoQuotient" "TooMany" false)) rfl)⟩
    have e2 := List.mem_singleton.mp hy
    subst e2
    exact absurd rfl hn) (FT__law_heard base) (PySem.W.mg_of X G (He.eqO_ok (S.fact 90 (f := .old (.glo "_law_top")) rfl))) (keep_fn l45) (binds_of (st := s__law_top) (ps := []) l45 c45 (fun _ _ _ _ _ _ us hl => match us, hl with | [], _ => rfl)) (PySem.W.mg_of X G (He.eqO_ok (S.fact 126 (f := .old (.glo "_law_heard")) rfl))) l62 c62 (binds_of (st := s__law_heard) (ps := ["call"]) l62 c62 (fun _ _ _ _ _ _ us hl => match us, hl with | [_], _ => rfl)) sc__law_heard rfl rfl rfl rfl rfl
  have CC_NoQuotient : Catch K mg "NoQuotient" ["NoQuotient", "TooMany"] := ⟨_, m_NoQuotient, exm_of (S.fact 153 (f := .old (.exm "NoQuotient" "NoQuotient" true)) rfl), (by
    intro y hy hn
    rcases List.mem_cons.mp hy with rfl | hy
    · exact absurd rfl hn
    have e2 := List.mem_singleton.mp hy
    subst e2
    exact ⟨_, m_TooMany, exm_of (S.fact 154 (f := .old (.exm "TooMany" "NoQuotient" false)) rfl)⟩)⟩
  exact all_mk (l := l) (w := w) X G hfa (He.eqO_ok (S.fact 0 (f := .old (.glo "is_integer")) rfl)) l0 c0 (S.fact 1 (f := .old (.keep "is_integer")) rfl) (He.eqO_ok (S.fact 2 (f := .old (.glo "is_interval")) rfl)) l1 c1 (S.fact 3 (f := .old (.keep "is_interval")) rfl) (He.eqO_ok (S.fact 4 (f := .old (.glo "check_interval")) rfl)) l2 c2 (S.fact 5 (f := .old (.keep "check_interval")) rfl) (He.eqO_ok (S.fact 6 (f := .old (.glo "_check_both")) rfl)) l3 c3 (S.fact 7 (f := .old (.keep "_check_both")) rfl) (He.eqO_ok (S.fact 8 (f := .old (.glo "in_bounds")) rfl)) l4 c4 (S.fact 9 (f := .old (.keep "in_bounds")) rfl) (He.eqO_ok (S.fact 10 (f := .old (.glo "grain_times")) rfl)) l5 c5 (S.fact 11 (f := .old (.keep "grain_times")) rfl) (He.eqO_ok (S.fact 12 (f := .old (.glo "times")) rfl)) l6 c6 (S.fact 13 (f := .old (.keep "times")) rfl) (He.eqO_ok (S.fact 14 (f := .old (.glo "floor_of")) rfl)) l7 c7 (S.fact 15 (f := .old (.keep "floor_of")) rfl) (He.eqO_ok (S.fact 16 (f := .old (.glo "ceiling_of")) rfl)) l8 c8 (S.fact 17 (f := .old (.keep "ceiling_of")) rfl) (He.eqO_ok (S.fact 18 (f := .old (.glo "grain_hull")) rfl)) l9 c9 (S.fact 19 (f := .old (.keep "grain_hull")) rfl) (He.eqO_ok (S.fact 20 (f := .old (.glo "grain_meet")) rfl)) l10 c10 (S.fact 21 (f := .old (.keep "grain_meet")) rfl) (He.eqO_ok (S.fact 22 (f := .old (.glo "lies_within")) rfl)) l11 c11 (S.fact 23 (f := .old (.keep "lies_within")) rfl) (He.eqO_ok (S.fact 24 (f := .old (.glo "middle_of")) rfl)) l12 c12 (S.fact 25 (f := .old (.keep "middle_of")) rfl) (He.eqO_ok (S.fact 26 (f := .old (.glo "has_ratio")) rfl)) l13 c13 (S.fact 27 (f := .old (.keep "has_ratio")) rfl) (He.eqO_ok (S.fact 28 (f := .old (.glo "is_from_to")) rfl)) l14 c14 (S.fact 29 (f := .old (.keep "is_from_to")) rfl) (He.eqO_ok (S.fact 30 (f := .old (.glo "is_ratio")) rfl)) l15 c15 (S.fact 31 (f := .old (.keep "is_ratio")) rfl) (He.eqO_ok (S.fact 32 (f := .old (.glo "_law_draw")) rfl)) l16 c16 (S.fact 33 (f := .old (.keep "_law_draw")) rfl) (He.eqO_ok (S.fact 34 (f := .old (.glo "_law_pick")) rfl)) l17 c17 (S.fact 35 (f := .old (.keep "_law_pick")) rfl) (He.eqO_ok (S.fact 36 (f := .old (.glo "_law_one")) rfl)) l18 c18 (S.fact 37 (f := .old (.keep "_law_one")) rfl) (He.eqO_ok (S.fact 38 (f := .old (.glo "_law_gcd")) rfl)) l19 c19 (S.fact 39 (f := .old (.keep "_law_gcd")) rfl) (He.eqO_ok (S.fact 40 (f := .old (.glo "_law_ratio")) rfl)) l20 c20 (S.fact 41 (f := .old (.keep "_law_ratio")) rfl) (He.eqO_ok (S.fact 42 (f := .old (.glo "check_ratio")) rfl)) l21 c21 (S.fact 43 (f := .old (.keep "check_ratio")) rfl) (He.eqO_ok (S.fact 44 (f := .old (.glo "holds_ratio")) rfl)) l22 c22 (S.fact 45 (f := .old (.keep "holds_ratio")) rfl) (He.eqO_ok (S.fact 46 (f := .old (.glo "hull")) rfl)) l23 c23 (S.fact 47 (f := .old (.keep "hull")) rfl) (He.eqO_ok (S.fact 48 (f := .old (.glo "meet")) rfl)) l24 c24 (S.fact 49 (f := .old (.keep "meet")) rfl) (He.eqO_ok (S.fact 50 (f := .old (.glo "within")) rfl)) l25 c25 (S.fact 51 (f := .old (.keep "within")) rfl) (He.eqO_ok (S.fact 52 (f := .old (.glo "halves")) rfl)) l26 c26 (S.fact 53 (f := .old (.keep "halves")) rfl) (He.eqO_ok (S.fact 54 (f := .old (.glo "_law_small_ratio")) rfl)) l27 c27 (S.fact 55 (f := .old (.keep "_law_small_ratio")) rfl) (He.eqO_ok (S.fact 56 (f := .old (.glo "grain_around")) rfl)) l28 c28 (S.fact 57 (f := .old (.keep "grain_around")) rfl) (He.eqO_ok (S.fact 58 (f := .old (.glo "grain_plus")) rfl)) l29 c29 (S.fact 59 (f := .old (.keep "grain_plus")) rfl) (He.eqO_ok (S.fact 60 (f := .old (.glo "grain_minus")) rfl)) l30 c30 (S.fact 61 (f := .old (.keep "grain_minus")) rfl) (He.eqO_ok (S.fact 62 (f := .old (.glo "grain_over")) rfl)) l31 c31 (S.fact 63 (f := .old (.keep "grain_over")) rfl) (He.eqO_ok (S.fact 64 (f := .old (.glo "integer_power")) rfl)) l32 c32 (S.fact 65 (f := .old (.keep "integer_power")) rfl) (He.eqO_ok (S.fact 66 (f := .old (.glo "grain_power")) rfl)) l33 c33 (S.fact 67 (f := .old (.keep "grain_power")) rfl) (He.eqO_ok (S.fact 68 (f := .old (.glo "grain_scaled")) rfl)) l34 c34 (S.fact 69 (f := .old (.keep "grain_scaled")) rfl) (He.eqO_ok (S.fact 70 (f := .old (.glo "around")) rfl)) l35 c35 (S.fact 71 (f := .old (.keep "around")) rfl) (He.eqO_ok (S.fact 72 (f := .old (.glo "plus")) rfl)) l36 c36 (S.fact 73 (f := .old (.keep "plus")) rfl) (He.eqO_ok (S.fact 74 (f := .old (.glo "minus")) rfl)) l37 c37 (S.fact 75 (f := .old (.keep "minus")) rfl) (He.eqO_ok (S.fact 76 (f := .old (.glo "over")) rfl)) l38 c38 (S.fact 77 (f := .old (.keep "over")) rfl) (He.eqO_ok (S.fact 78 (f := .old (.glo "powered")) rfl)) l39 c39 (S.fact 79 (f := .old (.keep "powered")) rfl) (He.eqO_ok (S.fact 80 (f := .old (.glo "scaled")) rfl)) l40 c40 (S.fact 81 (f := .old (.keep "scaled")) rfl) (He.eqO_ok (S.fact 82 (f := .old (.glo "ratio_of")) rfl)) l41 c41 (S.fact 83 (f := .old (.keep "ratio_of")) rfl) (He.eqO_ok (S.fact 84 (f := .old (.glo "ends_of")) rfl)) l42 c42 (S.fact 85 (f := .old (.keep "ends_of")) rfl) (He.eqO_ok (S.fact 86 (f := .old (.glo "width")) rfl)) l43 c43 (S.fact 87 (f := .old (.keep "width")) rfl) (He.eqO_ok (S.fact 88 (f := .old (.glo "middle")) rfl)) l44 c44 (S.fact 89 (f := .old (.keep "middle")) rfl) (He.eqO_ok (S.fact 90 (f := .old (.glo "_law_top")) rfl)) l45 c45 (S.fact 91 (f := .old (.keep "_law_top")) rfl) (He.eqO_ok (S.fact 92 (f := .old (.glo "_law_down")) rfl)) l46 c46 (S.fact 93 (f := .old (.keep "_law_down")) rfl) (He.eqO_ok (S.fact 94 (f := .old (.glo "_law_up")) rfl)) l47 c47 (S.fact 95 (f := .old (.keep "_law_up")) rfl) (He.eqO_ok (S.fact 96 (f := .old (.glo "_law_size")) rfl)) l48 c48 (S.fact 97 (f := .old (.keep "_law_size")) rfl) (He.eqO_ok (S.fact 98 (f := .old (.glo "_law_number")) rfl)) l49 c49 (S.fact 99 (f := .old (.keep "_law_number")) rfl) (He.eqO_ok (S.fact 100 (f := .old (.glo "_law_interval")) rfl)) l50 c50 (S.fact 101 (f := .old (.keep "_law_interval")) rfl) (He.eqO_ok (S.fact 102 (f := .old (.glo "_law_within")) rfl)) l51 c51 (S.fact 103 (f := .old (.keep "_law_within")) rfl) (He.eqO_ok (S.fact 104 (f := .old (.glo "_law_rounded")) rfl)) l52 c52 (S.fact 105 (f := .old (.keep "_law_rounded")) rfl) (He.eqO_ok (S.fact 106 (f := .old (.glo "_law_product_of")) rfl)) l53 c53 (S.fact 107 (f := .old (.keep "_law_product_of")) rfl) (He.eqO_ok (S.fact 108 (f := .old (.glo "_law_power")) rfl)) l54 c54 (S.fact 109 (f := .old (.keep "_law_power")) rfl) (He.eqO_ok (S.fact 110 (f := .old (.glo "_law_powered")) rfl)) l55 c55 (S.fact 111 (f := .old (.keep "_law_powered")) rfl) (He.eqO_ok (S.fact 112 (f := .old (.glo "_law_over")) rfl)) l56 c56 (S.fact 113 (f := .old (.keep "_law_over")) rfl) (He.eqO_ok (S.fact 114 (f := .old (.glo "_law_pair_right")) rfl)) l57 c57 (S.fact 115 (f := .old (.keep "_law_pair_right")) rfl) gl57 gi57 gn57 go57 (He.eqO_ok (S.fact 117 (f := .old (.glo "_law_single_right")) rfl)) l58 c58 (S.fact 118 (f := .old (.keep "_law_single_right")) rfl) gl58 gi58 gn58 go58 (He.eqO_ok (S.fact 120 (f := .old (.glo "_law_right")) rfl)) l59 c59 (S.fact 121 (f := .old (.keep "_law_right")) rfl) (He.eqO_ok (S.fact 122 (f := .old (.glo "_law_pot")) rfl)) l60 c60 (S.fact 123 (f := .old (.keep "_law_pot")) rfl) (He.eqO_ok (S.fact 124 (f := .old (.glo "law")) rfl)) l61 c61 (S.fact 125 (f := .old (.keep "law")) rfl) (He.eqO_ok (S.fact 126 (f := .old (.glo "_law_heard")) rfl)) l62 c62 (S.fact 127 (f := .old (.keep "_law_heard")) rfl) (He.eqO_ok (S.fact 128 (f := .old (.free "abs")) rfl)) (He.eqO_ok (S.fact 129 (f := .old (.free "bool")) rfl)) (He.eqO_ok (S.fact 130 (f := .old (.free "divmod")) rfl)) (He.eqO_ok (S.fact 131 (f := .old (.free "int")) rfl)) (He.eqO_ok (S.fact 132 (f := .old (.free "isinstance")) rfl)) (He.eqO_ok (S.fact 133 (f := .old (.free "len")) rfl)) (He.eqO_ok (S.fact 134 (f := .old (.free "max")) rfl)) (He.eqO_ok (S.fact 135 (f := .old (.free "min")) rfl)) (He.eqO_ok (S.fact 136 (f := .old (.free "range")) rfl)) (He.eqO_ok (S.fact 137 (f := .old (.free "repr")) rfl)) (He.eqO_ok (S.fact 138 (f := .old (.free "tuple")) rfl)) (DL.bui_eq (S.fact 139 (f := .bui "gcd" "math.gcd") rfl)) n_MOST_GRAINS n_ONE n__MOST_POWER n_WHOLE q_WHOLE XM_NoQuotient XM_TooMany HE__law_heard CC_NoQuotient (tne_of (S.fact 157 (f := .tne "_law_pair_right" "_law_single_right") rfl) l57 l58 rfl rfl gl57 gl58 gi57 gi58) (tne_of (S.fact 158 (f := .tne "_law_single_right" "_law_pair_right") rfl) l58 l57 rfl rfl gl58 gl57 gi58 gi57)
end LW
open PySem PySem.W PyProof.Rows in
set_option maxRecDepth 100000 in
set_option maxHeartbeats 0 in
theorem PySem.Challenge.cw_truecourse_k12_whole_intervals_reckoned_holds : PySem.Challenge.rw_truecourse_k12_whole_intervals_reckoned.Holds := by
  w_on; o_law
  refine HandSHeadRun.head_imp (r := LW.RR) (q := LW.qv) (H := DL.hookX 9 LW.fx LW.fns) (ob := DL.obX 9 LW.fx LW.fns) (M := 20000) (loose := LW.loose) (d := (HandSHeadRun.topDef LW.RR.prog 82)) (kwd := []) (DL.obX_eq 9 LW.fx LW.fns) LW.run (by kernel_rfl) (by kernel_rfl) (by kernel_rfl) (by rfl) (by first | assumption | decide +kernel) (by decide +kernel) ⟨rfl, rfl, rfl, rfl, rfl, by decide +kernel⟩ ?hw ?hc
  case hw => w_witness2
  case hc =>
    refine DL.walkX (l := PySem.Challenge.rw_truecourse_k12_whole_intervals_reckoned) (n := 63) (x := "script") (k := 11) (S := DL.SaysX LW.fx LW.fns) rfl (by decide) (by kernel_rfl) ⟨rfl, by decide, by decide⟩ ?F
    intro w mg fa h K KX S G hmg0 own
    have hmg : mg ("law" : PySem.Str) = some (.ref fa) := by
      have e : (HandSHeadRun.topDef LW.RR.prog 82).name = ("law" : PySem.Str) := by kernel_rfl
      rw [← e]
      exact hmg0
    exact LW.all_mk2 KX G hmg S (own _ (by decide +kernel)) (own _ (by decide +kernel))
